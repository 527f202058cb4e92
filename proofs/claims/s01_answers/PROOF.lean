import PyProof.Rows.All
import Wide.All
import OpenK.AllK
import Wide.FinOn
import HandS.Comp
import HandS.SetFor
import HandS.Strs
import HandS.DictTup
import HandS.TupLen
import HandS.Iter
import Open.SpecLaws
import KE.OsGo
import HandS.ForSpec
import HandS.Dict
import HandS.WordsDict
import HandS.SetKeys
import HandS.More
import HandS.WideBits
import HandS.Walk
import HandS.Records
import PySem.Challenge.RW_treadles_s01_answers
set_option Elab.async false
namespace Tr
open Sw87
/-! How two feet go: the specification's tails by a plain recursion; the best of several. -/
theorem better_none (a : Option Best) : better a none = a := by
  cases a <;> rfl
theorem none_better (a : Option Best) : better none a = a := rfl
/-- the best of some, the first of them -/
def pick (l : List Best) : Option Best := l.foldl (fun a b => better a (some b)) none
theorem pick_nil : pick [] = none := rfl
theorem pick_snoc (l : List Best) (b : Best) : pick (l ++ [b]) = better (pick l) (some b) := by
  unfold pick
  rw [List.foldl_append]; rfl
theorem fold_some : ∀ (l : List (Option Best)) (a : Option Best), l.foldl better a = (l.filterMap id).foldl (fun a b => better a (some b)) a
  | [], _ => rfl
  | none :: l, a => by
    rw [List.foldl_cons, better_none, fold_some l a]; rfl
  | some b :: l, a => by
    rw [List.foldl_cons, fold_some l]; rfl
theorem fold_if {α : Type} (c : α → Bool) (g : α → Best) (l : List α) : (l.map fun x => if c x = true then some (g x) else none).foldl better none = pick ((l.filter c).map g) := by
  rw [fold_some]
  unfold pick
  refine congrArg (List.foldl _ none) ?_
  induction l with
  | nil => rfl
  | cons x l ih =>
    by_cases h : c x = true
    · rw [List.map_cons, if_pos h, List.filter_cons, if_pos h, List.map_cons]
      show g x :: List.filterMap id _ = _
      rw [ih]
    · rw [List.map_cons, if_neg h, List.filter_cons, if_neg h]
      exact ih
/-- how many there are of the least -/
def manyAt (d : Nat) (l : List Best) : Nat := ((l.filter fun b => b.far == d).map Best.many).sum
theorem manyAt_nil (d : Nat) : manyAt d [] = 0 := rfl
theorem manyAt_cons (d : Nat) (b : Best) (l : List Best) : manyAt d (b :: l) = (if b.far = d then b.many else 0) + manyAt d l := by
  unfold manyAt
  rw [List.filter_cons]
  by_cases h : b.far = d
  · rw [if_pos h, if_pos (beq_iff_eq.mpr h), List.map_cons, List.sum_cons]
  · rw [if_neg h, if_neg (fun q => h (beq_iff_eq.mp q)), Nat.zero_add]
theorem better_less {x y : Best} (h : y.far < x.far) : better (some x) (some y) = some y := if_pos h
theorem better_more {x y : Best} (h : x.far < y.far) : better (some x) (some y) = some x := by
  show (if y.far < x.far then some y else if x.far < y.far then some x else some ⟨x.far, x.many + y.many, x.feet⟩) = some x
  rw [if_neg (by omega), if_pos h]
theorem better_same {x y : Best} (h : y.far = x.far) : better (some x) (some y) = some ⟨x.far, x.many + y.many, x.feet⟩ := by
  show (if y.far < x.far then some y else if x.far < y.far then some x else some ⟨x.far, x.many + y.many, x.feet⟩) = _
  rw [if_neg (by omega), if_neg (by omega)]
theorem fold_behind : ∀ (B : List Best) (x : Best), (∀ b ∈ B, x.far ≤ b.far) → B.foldl (fun a b => better a (some b)) (some x) = some ⟨x.far, x.many + manyAt x.far B, x.feet⟩
  | [], x, _ => rfl
  | b :: B, x, h => by
    have hb := h b List.mem_cons_self
    have hB : ∀ y ∈ B, x.far ≤ y.far := fun y hy => h y (List.mem_cons_of_mem _ hy)
    rw [List.foldl_cons, manyAt_cons]
    rcases Nat.lt_or_eq_of_le hb with q | q
    · rw [better_more q, fold_behind B x hB, if_neg (by omega), Nat.zero_add]
    · rw [better_same q.symm, fold_behind B ⟨x.far, x.many + b.many, x.feet⟩ hB, if_pos q.symm]
      show some (Best.mk x.far (x.many + b.many + manyAt x.far B) x.feet) = _
      rw [Nat.add_assoc]
theorem fold_ahead : ∀ (A : List Best) (y x : Best), x.far < y.far → (∀ a ∈ A, x.far < a.far) → ∃ z, A.foldl (fun a b => better a (some b)) (some y) = some z ∧ x.far < z.far
  | [], y, x, h, _ => ⟨y, rfl, h⟩
  | a :: A, y, x, h, hA => by
    have ha := hA a List.mem_cons_self
    have hA' : ∀ z ∈ A, x.far < z.far := fun z hz => hA z (List.mem_cons_of_mem _ hz)
    rw [List.foldl_cons]
    rcases Nat.lt_trichotomy a.far y.far with q | q | q
    · rw [better_less q]; exact fold_ahead A a x ha hA'
    · rw [better_same q]; exact fold_ahead A ⟨y.far, y.many + a.many, y.feet⟩ x h hA'
    · rw [better_more q]; exact fold_ahead A y x h hA'
/-- the best of several, at the first of the least -/
theorem pick_split {A B : List Best} {x : Best} (hA : ∀ a ∈ A, x.far < a.far) (hB : ∀ b ∈ B, x.far ≤ b.far) : pick (A ++ x :: B) = some ⟨x.far, x.many + manyAt x.far B, x.feet⟩ := by
  unfold pick
  rw [List.foldl_append, List.foldl_cons]
  cases A with
  | nil => exact fold_behind B x hB
  | cons a A =>
    rw [List.foldl_cons, none_better]
    obtain ⟨z, e, lt⟩ := fold_ahead A a x (hA a List.mem_cons_self) fun y hy => hA y (List.mem_cons_of_mem _ hy)
    rw [e, better_less lt]
    exact fold_behind B x hB
theorem split_min : ∀ (l : List Best), l ≠ [] → ∃ A x B, l = A ++ x :: B ∧ (∀ a ∈ A, x.far < a.far) ∧ ∀ b ∈ B, x.far ≤ b.far
  | [], h => absurd rfl h
  | [x], _ => ⟨[], x, [], rfl, (fun a h => by cases h), fun b h => by cases h⟩
  | y :: z :: l, _ => by
    obtain ⟨A, x, B, e, hA, hB⟩ := split_min (z :: l) (List.cons_ne_nil _ _)
    by_cases h : y.far ≤ x.far
    · refine ⟨[], y, z :: l, rfl, (fun a h => by cases h), fun b hb => ?_⟩
      rw [e] at hb
      rcases List.mem_append.mp hb with q | q
      · have := hA b q; omega
      · rcases List.mem_cons.mp q with q | q
        · subst q; exact h
        · have := hB b q; omega
    · refine ⟨y :: A, x, B, by rw [e]; rfl, fun a ha => ?_, hB⟩
      rcases List.mem_cons.mp ha with q | q
      · subst q; omega
      · exact hA a q
theorem pick_some {l : List Best} (h : l ≠ []) : ∃ b, pick l = some b := by
  obtain ⟨A, x, B, e, hA, hB⟩ := split_min l h
  exact ⟨_, by rw [e, pick_split hA hB]⟩
/-! ### places -/
theorem mem_places {n : Nat} {f : Feet} : f ∈ places n ↔ f.1 < f.2 ∧ f.2 < n := by
  unfold places
  rw [List.mem_flatMap]
  constructor
  · rintro ⟨a, ha, h⟩
    obtain ⟨b, hb, rfl⟩ := List.mem_map.mp h
    rw [List.mem_filter, List.mem_range] at hb
    exact ⟨of_decide_eq_true hb.2, hb.1⟩
  · rintro ⟨h1, h2⟩
    exact ⟨f.1, List.mem_range.mpr (by omega), List.mem_map.mpr ⟨f.2, List.mem_filter.mpr ⟨List.mem_range.mpr h2, decide_eq_true h1⟩, rfl⟩⟩
/-- what two feet can press -/
structure Two (n : Nat) (p : List Nat) : Prop where
  asc : p.Pairwise (· < ·)
  few : p.length ≤ 2
  lt : ∀ i ∈ p, i < n
theorem over_some {n : Nat} {p : List Nat} (h : 2 ≤ n) (t : Two n p) : ∃ x ∈ places n, over x p = true := by
  obtain ⟨asc, few, lt⟩ := t
  match p, asc, few, lt with
  | [], _, _, _ => exact ⟨(0, 1), mem_places.mpr ⟨by decide, h⟩, rfl⟩
  | [i], _, _, lt =>
    have hi := lt i List.mem_cons_self
    by_cases c : i = 0
    · subst c
      exact ⟨(0, 1), mem_places.mpr ⟨by decide, h⟩, rfl⟩
    · exact ⟨(0, i), mem_places.mpr ⟨by show 0 < i; omega, hi⟩, by simp [over]⟩
  | [i, j], asc, _, lt =>
    have hij : i < j := (List.pairwise_cons.mp asc).1 j List.mem_cons_self
    exact ⟨(i, j), mem_places.mpr ⟨hij, lt j (List.mem_cons_of_mem _ List.mem_cons_self)⟩, by simp [over]⟩
  | _ :: _ :: _ :: _, _, few, _ => simp at few
/-! ### the best from a place on -/
def Tail (n : Nat) : List (List Nat) → Feet → Best
  | [], _ => ⟨0, 1, []⟩
  | p :: l, f => (pick (((places n).filter (over · p)).map fun x => ⟨far f.1 x.1 + far f.2 x.2 + (Tail n l x).far, (Tail n l x).many, x :: (Tail n l x).feet⟩)).getD ⟨0, 0, []⟩
theorem pick_getD {l : List Best} {d : Best} (h : l ≠ []) : pick l = some ((pick l).getD d) := by
  obtain ⟨b, e⟩ := pick_some h
  rw [e]; rfl
theorem filter_places_ne {n : Nat} {p : List Nat} (h : ∃ x ∈ places n, over x p = true) : (places n).filter (over · p) ≠ [] := by
  obtain ⟨x, hx, ho⟩ := h
  exact List.ne_nil_of_mem (List.mem_filter.mpr ⟨hx, ho⟩)
theorem tails_eq {n : Nat} : ∀ (ps : List (List Nat)), (∀ p ∈ ps, ∃ x ∈ places n, over x p = true) → tails n ps = (places n).map fun f => (f, Tail n ps f)
  | [], _ => rfl
  | p :: l, h => by
    have ih := tails_eq l fun q hq => h q (List.mem_cons_of_mem _ hq)
    have ne := filter_places_ne (h p List.mem_cons_self)
    unfold tails
    dsimp only
    rw [ih]
    have each : ∀ f : Feet, (((places n).map fun f => (f, Tail n l f)).map fun x => if over x.1 p = true then some (⟨far f.1 x.1.1 + far f.2 x.1.2 + x.2.far, x.2.many, x.1 :: x.2.feet⟩ : Best) else none).foldl better none = some (Tail n (p :: l) f) := fun f => by
      rw [List.map_map]
      have q := fold_if (fun x : Feet => over x p) (fun x => (⟨far f.1 x.1 + far f.2 x.2 + (Tail n l x).far, (Tail n l x).many, x :: (Tail n l x).feet⟩ : Best)) (places n)
      refine Eq.trans ?_ (q.trans (pick_getD (d := ⟨0, 0, []⟩) fun z => ne (List.map_eq_nil_iff.mp z)))
      rfl
    simp only [each]
    show (places n).filterMap (fun f => some (f, Tail n (p :: l) f)) = _
    exact List.filterMap_eq_map (f := fun f => (f, Tail n (p :: l) f)) ▸ rfl
theorem walk_eq {n : Nat} {p : List Nat} {l : List (List Nat)} (h : ∀ q ∈ p :: l, ∃ x ∈ places n, over x q = true) :
    walk n (p :: l) = pick (((places n).filter (over · p)).map fun x => ⟨(Tail n l x).far, (Tail n l x).many, x :: (Tail n l x).feet⟩) := by
  show ((tails n l).map fun x => if over x.1 p = true then some (⟨x.2.far, x.2.many, x.1 :: x.2.feet⟩ : Best) else none).foldl better none = _
  rw [tails_eq l fun q hq => h q (List.mem_cons_of_mem _ hq), List.map_map]
  exact fold_if (fun x : Feet => over x p) (fun x => (⟨(Tail n l x).far, (Tail n l x).many, x :: (Tail n l x).feet⟩ : Best)) (places n)
end Tr
namespace Tr
open Sw87
/-! Ways to press, sets of treadles: the specification's choose, made, pressed, fewest. -/
theorem mem_choose : ∀ {k : Nat} {l p : List Nat}, p ∈ choose k l ↔ p.Sublist l ∧ p.length = k
  | 0, l, p => by
    unfold choose
    rw [List.mem_singleton]
    constructor
    · rintro rfl; exact ⟨List.nil_sublist _, rfl⟩
    · rintro ⟨_, h⟩; exact List.eq_nil_of_length_eq_zero h
  | k + 1, [], p => by
    unfold choose
    constructor
    · intro h; cases h
    · rintro ⟨h, e⟩
      have : p = [] := List.sublist_nil.mp h
      subst this
      cases e
  | k + 1, x :: l, p => by
    unfold choose
    rw [List.mem_append, List.mem_map]
    constructor
    · rintro (⟨q, hq, rfl⟩ | h)
      · obtain ⟨a, b⟩ := mem_choose.mp hq
        exact ⟨a.cons_cons x, by rw [List.length_cons, b]⟩
      · obtain ⟨a, b⟩ := mem_choose.mp h
        exact ⟨a.cons x, b⟩
    · rintro ⟨h, e⟩
      cases h with
      | cons _ h => exact .inr (mem_choose.mpr ⟨h, e⟩)
      | cons_cons _ h => exact .inl ⟨_, mem_choose.mpr ⟨h, Nat.succ.inj e⟩, rfl⟩
theorem sub_range {n : Nat} {p : List Nat} : p.Sublist (List.range n) ↔ p.Pairwise (· < ·) ∧ ∀ i ∈ p, i < n := by
  constructor
  · intro h
    exact ⟨List.Pairwise.sublist h List.pairwise_lt_range, fun i hi => List.mem_range.mp (h.subset hi)⟩
  · rintro ⟨asc, lt⟩
    have aux : ∀ (m a : Nat) (p : List Nat), p.Pairwise (· < ·) → (∀ i ∈ p, a ≤ i ∧ i < a + m) → p.Sublist (List.range' a m) := by
      intro m
      induction m with
      | zero =>
        intro a p _ h
        cases p with
        | nil => exact List.nil_sublist _
        | cons i p => have := h i List.mem_cons_self; omega
      | succ m ih =>
        intro a p asc h
        rw [List.range'_succ]
        cases p with
        | nil => exact List.nil_sublist _
        | cons i p =>
          obtain ⟨h1, h2⟩ := List.pairwise_cons.mp asc
          by_cases c : i = a
          · subst c
            refine (ih _ p h2 fun j hj => ?_).cons_cons _
            have := h1 j hj
            have := h j (List.mem_cons_of_mem _ hj)
            omega
          · refine (ih _ (i :: p) asc fun j hj => ?_).cons _
            have hi := h i List.mem_cons_self
            have := h j hj
            rcases List.mem_cons.mp hj with q | q
            · omega
            · have := h1 j q; omega
    have := aux n 0 p asc fun i hi => ⟨Nat.zero_le _, by have := lt i hi; omega⟩
    rwa [← List.range_eq_range'] at this
/-- what some treadles, by their numbers, lift -/
def lifted (t : List Nat) (p : List Nat) : Nat := union (p.map fun i => t.getD i 0)
theorem made_def (t : List Nat) (feet b : Nat) : made t feet b = (presses feet t.length).find? fun p => lifted t p == b := rfl
theorem mem_presses {feet n : Nat} {p : List Nat} : p ∈ presses feet n ↔ p.Sublist (List.range n) ∧ p.length ≤ feet := by
  unfold presses
  rw [List.mem_flatMap]
  constructor
  · rintro ⟨k, hk, h⟩
    obtain ⟨a, b⟩ := mem_choose.mp h
    rw [List.mem_range] at hk
    exact ⟨a, by omega⟩
  · rintro ⟨a, b⟩
    exact ⟨p.length, List.mem_range.mpr (by omega), mem_choose.mpr ⟨a, rfl⟩⟩
theorem made_isSome {t : List Nat} {feet b : Nat} : (made t feet b).isSome = true ↔ ∃ p, p.Sublist (List.range t.length) ∧ p.length ≤ feet ∧ lifted t p = b := by
  rw [made_def, List.find?_isSome]
  constructor
  · rintro ⟨p, hp, e⟩
    obtain ⟨a, c⟩ := mem_presses.mp hp
    exact ⟨p, a, c, beq_iff_eq.mp e⟩
  · rintro ⟨p, a, c, e⟩
    exact ⟨p, mem_presses.mpr ⟨a, c⟩, beq_iff_eq.mpr e⟩
theorem made_way {t p : List Nat} {feet b : Nat} (h : made t feet b = some p) : p.Sublist (List.range t.length) ∧ p.length ≤ feet ∧ lifted t p = b := by
  rw [made_def] at h
  have m := List.mem_of_find?_eq_some h
  have e := List.find?_some h
  obtain ⟨a, c⟩ := mem_presses.mp m
  exact ⟨a, c, beq_iff_eq.mp e⟩
theorem made_two {t p : List Nat} {b : Nat} (h : made t 2 b = some p) : Two t.length p := by
  obtain ⟨a, c, _⟩ := made_way h
  obtain ⟨d, e⟩ := sub_range.mp a
  exact ⟨d, c, e⟩
/-! ### pressed -/
theorem pressed_nil (s : Nat) (t : List Nat) (feet : Nat) : Loom.pressed ⟨s, []⟩ t feet = some [] := rfl
theorem mapM_cons {α β : Type} (f : α → Option β) (a : α) (l : List α) : (a :: l).mapM f = (f a).bind fun x => (l.mapM f).bind fun r => some (x :: r) := by
  rw [List.mapM_cons]; rfl
theorem mapM_snoc {α β : Type} (f : α → Option β) : ∀ (l : List α) (a : α), (l ++ [a]).mapM f = (l.mapM f).bind fun r => (f a).bind fun x => some (r ++ [x])
  | [], a => by
    show ([a] : List α).mapM f = _
    rw [mapM_cons]
    cases f a <;> rfl
  | b :: l, a => by
    rw [List.cons_append, mapM_cons, mapM_cons, mapM_snoc f l a]
    cases f b with
    | none => rfl
    | some x =>
      cases l.mapM f with
      | none => rfl
      | some r =>
        cases f a with
        | none => rfl
        | some y => rfl
theorem mapM_none {α β : Type} (f : α → Option β) : ∀ (A : List α) (b : α) (B : List α), f b = none → (A ++ b :: B).mapM f = none
  | [], b, B, h => by
    rw [List.nil_append, mapM_cons, h]; rfl
  | a :: A, b, B, h => by
    rw [List.cons_append, mapM_cons, mapM_none f A b B h]
    cases f a <;> rfl
theorem mapM_len {α β : Type} (f : α → Option β) : ∀ (l : List α) (r : List β), l.mapM f = some r → r.length = l.length
  | [], r, h => by
    cases h; rfl
  | a :: l, r, h => by
    rw [mapM_cons] at h
    cases e : f a with
    | none => rw [e] at h; cases h
    | some x =>
      cases e2 : l.mapM f with
      | none => rw [e, e2] at h; cases h
      | some r' =>
        rw [e, e2] at h
        cases h
        rw [List.length_cons, List.length_cons, mapM_len f l r' e2]
theorem mapM_mem {α β : Type} (f : α → Option β) : ∀ (l : List α) (r : List β), l.mapM f = some r → ∀ y ∈ r, ∃ a ∈ l, f a = some y
  | [], r, h, y, hy => by
    cases h; cases hy
  | a :: l, r, h, y, hy => by
    rw [mapM_cons] at h
    cases e : f a with
    | none => rw [e] at h; cases h
    | some x =>
      cases e2 : l.mapM f with
      | none => rw [e, e2] at h; cases h
      | some r' =>
        rw [e, e2] at h
        cases h
        rcases List.mem_cons.mp hy with q | q
        · subst q; exact ⟨a, List.mem_cons_self, e⟩
        · obtain ⟨a', ha', e'⟩ := mapM_mem f l r' e2 y q
          exact ⟨a', List.mem_cons_of_mem _ ha', e'⟩
/-- the first pick that isn't made, told by its number -/
theorem first_not {f : Nat → Option (List Nat)} : ∀ (A : List Nat) (b : Nat) (B : List Nat) (i : Nat), (∀ a ∈ A, (f a).isNone = false) → (f b).isNone = true →
    ((((A ++ b :: B).zipIdx i).filter fun x => (f x.1).isNone).map fun x => x.2).take 1 = [i + A.length]
  | [], b, B, i, _, h => by
    rw [List.nil_append, List.zipIdx_cons, List.filter_cons, if_pos h, List.map_cons]; rfl
  | a :: A, b, B, i, hA, h => by
    rw [List.cons_append, List.zipIdx_cons, List.filter_cons, if_neg (by rw [hA a List.mem_cons_self]; exact Bool.false_ne_true)]
    rw [first_not A b B (i + 1) (fun y hy => hA y (List.mem_cons_of_mem _ hy)) h, List.length_cons]
    exact congrArg (fun z => [z]) (by omega)
/-- how many are pressed, all picks together -/
theorem foldl_len (ps : List (List Nat)) : (ps.map fun x => x.length).foldl (fun a b => a + b) 0 = (ps.map List.length).sum := by
  rw [List.sum_eq_foldl]
/-! ### fewest -/
/-- the sets that treadles can be tied to -/
def ties (m : Loom) : List Nat := (List.range (2 ^ m.shafts)).filter fun b => b != 0
theorem fewest_def (m : Loom) (feet : Nat) : m.fewest feet = (List.range (m.lifts.length + 1)).findSome? fun k => match (choose k (ties m)).filter (m.enough feet) with
  | [] => none
  | t :: r => some ⟨r.length + 1, t⟩ := rfl
theorem findSome_at {β : Type} (f : Nat → Option β) (n k : Nat) (b : β) (hk : k < n) (no : ∀ j, j < k → f j = none) (yes : f k = some b) : (List.range n).findSome? f = some b := by
  have e : List.range n = List.range k ++ k :: List.range' (k + 1) (n - k - 1) := by
    have e1 : List.range n = List.range k ++ List.range' k (n - k) := by
      rw [List.range_eq_range', List.range_eq_range', show n = k + (n - k) by omega, ← List.range'_append_1]
      simp
    rw [e1]
    refine congrArg _ ?_
    rw [show n - k = (n - k - 1) + 1 by omega, List.range'_succ]
    simp
  rw [e, List.findSome?_append, List.findSome?_cons, yes, List.findSome?_eq_none_iff.mpr fun j hj => no j (List.mem_range.mp hj)]; rfl
theorem fewest_at {m : Loom} {feet k : Nat} {t : List Nat} {r : List (List Nat)} (hk : k ≤ m.lifts.length) (no : ∀ j, j < k → (choose j (ties m)).filter (m.enough feet) = []) (yes : (choose k (ties m)).filter (m.enough feet) = t :: r) :
    m.fewest feet = some ⟨r.length + 1, t⟩ := by
  rw [fewest_def]
  refine findSome_at _ _ k _ (by omega) (fun j hj => ?_) ?_
  · rw [no j hj]
  · rw [yes]
theorem lifts_sub (m : Loom) : m.lifts.Sublist (ties m) := by
  have e : m.lifts = (ties m).filter fun b => m.picks.contains b := by
    unfold Loom.lifts ties
    rw [List.filter_filter]
    refine List.filter_congr fun b _ => ?_
    rw [Bool.and_comm]
  rw [e]
  exact List.filter_sublist
theorem lifts_enough (m : Loom) {feet : Nat} (h : 1 ≤ feet) : m.enough feet m.lifts = true := by
  unfold Loom.enough
  rw [List.all_eq_true]
  intro b hb
  obtain ⟨i, hi, e⟩ := List.mem_iff_getElem.mp hb
  refine made_isSome.mpr ⟨[i], sub_range.mpr ⟨List.pairwise_singleton _ _, fun j hj => by rw [List.mem_singleton.mp hj]; exact hi⟩, h, ?_⟩
  show 0 ||| m.lifts.getD i 0 = b
  rw [Nat.zero_or, List.getD_eq_getElem?_getD, List.getElem?_eq_getElem hi, Option.getD_some, e]
/-- there are always enough: the lifts themselves -/
theorem enough_some (m : Loom) {feet : Nat} (h : 1 ≤ feet) : m.lifts ∈ (choose m.lifts.length (ties m)).filter (m.enough feet) :=
  List.mem_filter.mpr ⟨mem_choose.mpr ⟨lifts_sub m, rfl⟩, lifts_enough m h⟩
theorem least_nat {p : Nat → Prop} (dec : ∀ n, p n ∨ ¬ p n) : ∀ n, p n → ∃ k, k ≤ n ∧ p k ∧ ∀ j, j < k → ¬ p j
  | 0, h => ⟨0, Nat.le_refl _, h, fun j hj => absurd hj (Nat.not_lt_zero _)⟩
  | n + 1, h => by
    rcases Classical.em (∃ j, j ≤ n ∧ p j) with ⟨j, hj, pj⟩ | no
    · obtain ⟨k, hk, pk, mk⟩ := least_nat dec j pj
      exact ⟨k, by omega, pk, mk⟩
    · exact ⟨n + 1, Nat.le_refl _, h, fun j hj pj => no ⟨j, by omega, pj⟩⟩
/-- the least number of treadles, and the sets of so many that do -/
theorem fewest_is (m : Loom) {feet : Nat} (h : 1 ≤ feet) : ∃ (k : Nat) (t : List Nat) (r : List (List Nat)), k ≤ m.lifts.length ∧ (∀ j, j < k → (choose j (ties m)).filter (m.enough feet) = []) ∧
    (choose k (ties m)).filter (m.enough feet) = t :: r ∧ m.fewest feet = some ⟨r.length + 1, t⟩ := by
  obtain ⟨k, hk, yes, no⟩ := least_nat (p := fun k => (choose k (ties m)).filter (m.enough feet) ≠ []) (fun n => Classical.em _) m.lifts.length (List.ne_nil_of_mem (enough_some m h))
  cases e : (choose k (ties m)).filter (m.enough feet) with
  | nil => exact absurd e yes
  | cons t r =>
    have no' : ∀ j, j < k → (choose j (ties m)).filter (m.enough feet) = [] := fun j hj => Classical.not_not.mp (no j hj)
    exact ⟨k, t, r, hk, no', e, fewest_at hk no' e⟩
end Tr
namespace Tr
open Sw87
/-! choose, level by level: each set grows by a number behind its last. -/
/-- where the next number may begin -/
def nx (a : Nat) (c : List Nat) : Nat := match c.getLast? with
  | none => a
  | some x => x + 1
theorem nx_nil (a : Nat) : nx a [] = a := rfl
theorem nx_cons (a b : Nat) (c : List Nat) : nx b (a :: c) = nx (a + 1) c := by
  unfold nx
  cases c with
  | nil => rfl
  | cons x c =>
    rw [List.getLast?_cons_cons]
    cases e : (x :: c).getLast? with
    | none => exact absurd (List.getLast?_eq_none_iff.mp e) (List.cons_ne_nil _ _)
    | some y => rfl
def grow (a e : Nat) (c : List Nat) : List (List Nat) := (List.range' (nx a c) (e - nx a c)).map fun i => c ++ [i]
theorem grow_cons (a b e : Nat) (c : List Nat) : grow b e (a :: c) = (grow (a + 1) e c).map fun x => a :: x := by
  unfold grow
  rw [nx_cons, List.map_map]; rfl
theorem nx_ne {a b : Nat} {c : List Nat} (h : c ≠ []) : nx a c = nx b c := by
  unfold nx
  cases e : c.getLast? with
  | none => exact absurd (List.getLast?_eq_none_iff.mp e) h
  | some x => rfl
theorem flatMap_same {α β : Type} {f g : α → List β} : ∀ {l : List α}, (∀ x ∈ l, f x = g x) → l.flatMap f = l.flatMap g
  | [], _ => rfl
  | x :: l, h => by
    rw [List.flatMap_cons, List.flatMap_cons, h x List.mem_cons_self, flatMap_same fun y hy => h y (List.mem_cons_of_mem _ hy)]
theorem choose_one : ∀ l : List Nat, choose 1 l = l.map fun x => [x]
  | [] => rfl
  | x :: l => by
    show ((choose 0 l).map fun r => x :: r) ++ choose 1 l = _
    rw [choose_one l]
    have e : choose 0 l = [[]] := by cases l <;> rfl
    rw [e]; rfl
theorem choose_zero (l : List Nat) : choose 0 l = [[]] := by cases l <;> rfl
theorem choose_grow : ∀ (m k a : Nat), choose (k + 1) (List.range' a m) = (choose k (List.range' a m)).flatMap (grow a (a + m))
  | m, 0, a => by
    rw [choose_zero, choose_one, List.flatMap_cons, List.flatMap_nil, List.append_nil]
    unfold grow
    rw [nx_nil, Nat.add_sub_cancel_left]; rfl
  | 0, k + 1, a => rfl
  | m + 1, k + 1, a => by
    rw [List.range'_succ]
    show ((choose (k + 1) (List.range' (a + 1) m)).map fun r => a :: r) ++ choose (k + 2) (List.range' (a + 1) m) = (((choose k (List.range' (a + 1) m)).map fun r => a :: r) ++ choose (k + 1) (List.range' (a + 1) m)).flatMap (grow a (a + (m + 1)))
    have ih1 := choose_grow m k (a + 1)
    have ih2 := choose_grow m (k + 1) (a + 1)
    have ee : a + 1 + m = a + (m + 1) := by omega
    rw [ee] at ih1 ih2
    rw [List.flatMap_append]
    refine congr (congrArg _ ?_) ?_
    · conv => lhs; rw [ih1]
      rw [List.map_flatMap, List.flatMap_map]
      refine congrArg (fun f => List.flatMap f _) (funext fun c => ?_)
      rw [grow_cons]
    · rw [ih2]
      refine flatMap_same fun c hc => ?_
      have ne : c ≠ [] := fun z => by
        have := (mem_choose.mp hc).2
        rw [z] at this
        cases this
      unfold grow
      rw [nx_ne ne]
theorem choose_grow_range (n k : Nat) : choose (k + 1) (List.range n) = (choose k (List.range n)).flatMap (grow 0 n) := by
  have q := choose_grow n k 0
  rwa [Nat.zero_add, ← List.range_eq_range'] at q
theorem choose_more {k : Nat} : ∀ {l : List Nat}, l.length < k → choose k l = []
  | l, h => by
    refine List.eq_nil_iff_forall_not_mem.mpr fun p hp => ?_
    obtain ⟨a, b⟩ := mem_choose.mp hp
    have := a.length_le
    omega
end Tr
namespace Tr
open Sw87
/-! The fewest treadles, level by level, with the sets left out that can't lead to all lifts. -/
theorem union_snoc (p : List Nat) (x : Nat) : union (p ++ [x]) = union p ||| x := by
  unfold union
  rw [List.foldl_append]; rfl
theorem or_fold_le : ∀ (p : List Nat) (a : Nat), a ≤ p.foldl (fun a b => a ||| b) a
  | [], a => Nat.le_refl _
  | x :: p, a => Nat.le_trans Nat.left_le_or (or_fold_le p (a ||| x))
theorem or_fold_mem : ∀ (p : List Nat) (a x : Nat), x ∈ p → x ≤ p.foldl (fun a b => a ||| b) a
  | y :: p, a, x, h => by
    rcases List.mem_cons.mp h with q | q
    · subst q
      exact Nat.le_trans Nat.right_le_or (or_fold_le p (a ||| x))
    · exact or_fold_mem p (a ||| y) x q
theorem le_union {p : List Nat} {x : Nat} (h : x ∈ p) : x ≤ union p := or_fold_mem p 0 x h
/-- made by at most so many of these -/
def Can (feet : Nat) (c : List Nat) (b : Nat) : Prop := ∃ p : List Nat, p.Sublist c ∧ p.length ≤ feet ∧ union p = b
theorem by_places (t : List Nat) : (List.range t.length).map (fun i => t.getD i 0) = t := by
  refine List.ext_getElem (by simp) fun i h1 h2 => ?_
  simp [List.getD_eq_getElem?_getD, List.getElem?_eq_getElem h2]
theorem made_can {t : List Nat} {feet b : Nat} : (made t feet b).isSome = true ↔ Can feet t b := by
  rw [made_isSome]
  constructor
  · rintro ⟨p, a, c, e⟩
    refine ⟨p.map fun i => t.getD i 0, ?_, by rw [List.length_map]; exact c, e⟩
    have q := a.map fun i => t.getD i 0
    rwa [by_places] at q
  · rintro ⟨p, a, c, e⟩
    rw [← by_places t] at a
    obtain ⟨q, hq, rfl⟩ := List.sublist_map_iff.mp a
    exact ⟨q, hq, by rwa [List.length_map] at c, e⟩
/-- the first lift that these don't make -/
def firstNot (m : Loom) (feet : Nat) (c : List Nat) : Option Nat := m.lifts.find? fun b => (made c feet b).isNone
theorem enough_iff {m : Loom} {feet : Nat} {c : List Nat} : m.enough feet c = true ↔ firstNot m feet c = none := by
  unfold Loom.enough firstNot
  rw [List.all_eq_true, List.find?_eq_none]
  refine forall_congr' fun b => forall_congr' fun _ => ?_
  cases made c feet b <;> simp
theorem firstNot_some {m : Loom} {feet b : Nat} {c : List Nat} (h : firstNot m feet c = some b) : b ∈ m.lifts ∧ ¬ Can feet c b := by
  refine ⟨List.mem_of_find?_eq_some h, fun z => ?_⟩
  have q := List.find?_some h
  have z' := made_can.mpr z
  cases e : made c feet b with
  | none => rw [e] at z'; cases z'
  | some y => rw [e] at q; cases q
theorem lifts_lt {m : Loom} {b : Nat} (h : b ∈ m.lifts) : b < 2 ^ m.shafts := by
  unfold Loom.lifts at h
  exact List.mem_range.mp (List.mem_filter.mp h).1
theorem ties_eq (m : Loom) : ties m = List.range' 1 (2 ^ m.shafts - 1) := by
  unfold ties
  have h : 0 < 2 ^ m.shafts := Nat.pow_pos (by decide)
  obtain ⟨n, e⟩ : ∃ n, 2 ^ m.shafts = n + 1 := ⟨2 ^ m.shafts - 1, by omega⟩
  rw [e, List.range_eq_range', List.range'_succ, List.filter_cons, if_neg (by decide), Nat.add_sub_cancel]
  refine List.filter_eq_self.mpr fun x hx => ?_
  have := (List.mem_range'_1.mp hx).1
  rw [bne_iff_ne]
  omega
/-- each number of the set is of use when it is put behind those ahead of it -/
def kept (m : Loom) (feet : Nat) (c : List Nat) : Bool := (List.range c.length).all fun j => match firstNot m feet (c.take j) with
  | none => false
  | some b => decide (c.getD j 0 ≤ b)
theorem kept_nil (m : Loom) (feet : Nat) : kept m feet [] = true := rfl
theorem all_same {α : Type} {f g : α → Bool} : ∀ {l : List α}, (∀ x ∈ l, f x = g x) → l.all f = l.all g
  | [], _ => rfl
  | x :: l, h => by
    rw [List.all_cons, List.all_cons, h x List.mem_cons_self, all_same fun y hy => h y (List.mem_cons_of_mem _ hy)]
theorem kept_snoc (m : Loom) (feet : Nat) (c : List Nat) (x : Nat) : kept m feet (c ++ [x]) = (kept m feet c && match firstNot m feet c with
    | none => false
    | some b => decide (x ≤ b)) := by
  unfold kept
  rw [List.length_append, List.length_singleton, List.range_succ, List.all_append]
  refine congr (congrArg _ ?_) ?_
  · refine all_same fun j hj => ?_
    have hj' := List.mem_range.mp hj
    rw [List.take_append_of_le_length (Nat.le_of_lt hj')]
    rw [List.getD_eq_getElem?_getD, List.getD_eq_getElem?_getD, List.getElem?_append_left hj']
  · rw [List.all_cons, List.all_nil, Bool.and_true, List.take_left]
    rw [List.getD_eq_getElem?_getD, List.getElem?_append_right (Nat.le_refl _), Nat.sub_self]; rfl
/-- the sets of so many that are looked at -/
def level (m : Loom) (feet k : Nat) : List (List Nat) := (choose k (ties m)).filter (kept m feet)
theorem level_zero (m : Loom) (feet : Nat) : level m feet 0 = [[]] := by
  unfold level
  rw [choose_zero]; rfl
/-- one more, up to the first lift that isn't made -/
def wider (m : Loom) (feet : Nat) (c : List Nat) : List (List Nat) := match firstNot m feet c with
  | none => []
  | some b => (List.range' (nx 1 c) (b + 1 - nx 1 c)).map fun i => c ++ [i]
theorem range'_le {b e : Nat} : ∀ (n a : Nat), n = e - a → b < e → (List.range' a n).filter (fun i => decide (i ≤ b)) = List.range' a (b + 1 - a)
  | 0, a, h, hb => by
    have : b + 1 - a = 0 := by omega
    rw [this]; rfl
  | n + 1, a, h, hb => by
    rw [List.range'_succ, List.filter_cons]
    by_cases c : a ≤ b
    · rw [if_pos (decide_eq_true c), range'_le n (a + 1) (by omega) hb]
      have : b + 1 - a = (b + 1 - (a + 1)) + 1 := by omega
      rw [this, List.range'_succ]
    · rw [if_neg (by rw [decide_eq_true_iff]; exact c), range'_le n (a + 1) (by omega) hb]
      have e1 : b + 1 - (a + 1) = 0 := by omega
      have e2 : b + 1 - a = 0 := by omega
      rw [e1, e2]; rfl
theorem grow_kept {m : Loom} {feet e : Nat} {c : List Nat} (he : e = 2 ^ m.shafts) : (grow 1 e c).filter (kept m feet) = if kept m feet c = true then wider m feet c else [] := by
  unfold grow
  rw [List.filter_map]
  have ee : (kept m feet ∘ fun i => c ++ [i]) = fun i => kept m feet c && match firstNot m feet c with
      | none => false
      | some b => decide (i ≤ b) := funext fun i => kept_snoc m feet c i
  rw [ee]
  by_cases h : kept m feet c = true
  · rw [if_pos h, h]
    simp only [Bool.true_and]
    unfold wider
    cases q : firstNot m feet c with
    | none =>
      have : ∀ l : List Nat, l.filter (fun _ => false) = [] := fun l => List.filter_eq_nil_iff.mpr fun _ _ z => Bool.noConfusion z
      dsimp only
      rw [this]; rfl
    | some b =>
      dsimp only
      have hb := lifts_lt (firstNot_some q).1
      rw [range'_le _ _ rfl (by omega : b < e)]
  · rw [if_neg h]
    have h' : kept m feet c = false := by
      cases z : kept m feet c with
      | false => rfl
      | true => exact absurd z h
    rw [h']
    have : ∀ l : List Nat, l.filter (fun i => false && (match firstNot m feet c with
      | none => false
      | some b => decide (i ≤ b))) = [] := fun l => List.filter_eq_nil_iff.mpr fun _ _ z => Bool.noConfusion z
    rw [this]; rfl
theorem flatMap_if {α β : Type} (p : α → Bool) (f : α → List β) : ∀ l : List α, (l.flatMap fun c => if p c = true then f c else []) = (l.filter p).flatMap f
  | [] => rfl
  | x :: l => by
    rw [List.flatMap_cons, flatMap_if p f l, List.filter_cons]
    by_cases h : p x = true
    · rw [if_pos h, if_pos h, List.flatMap_cons]
    · rw [if_neg h, if_neg h]; rfl
theorem level_succ (m : Loom) (feet k : Nat) : level m feet (k + 1) = (level m feet k).flatMap (wider m feet) := by
  have h : 0 < 2 ^ m.shafts := Nat.pow_pos (by decide)
  unfold level
  rw [ties_eq, choose_grow, List.filter_flatMap, ← flatMap_if]
  refine flatMap_same fun c _ => ?_
  exact grow_kept (by omega)
theorem take_choose {k j : Nat} {l c : List Nat} (h : c ∈ choose k l) (hj : j ≤ k) : c.take j ∈ choose j l := by
  obtain ⟨a, b⟩ := mem_choose.mp h
  exact mem_choose.mpr ⟨(List.take_sublist j c).trans a, by rw [List.length_take, b]; omega⟩
theorem ties_asc (m : Loom) : (ties m).Pairwise (· < ·) := by
  unfold ties
  exact List.Pairwise.filter _ List.pairwise_lt_range
/-- no fewer do: then a set that does is looked at -/
theorem enough_kept {m : Loom} {feet k : Nat} (no : ∀ j, j < k → (choose j (ties m)).filter (m.enough feet) = []) {c : List Nat} (hc : c ∈ choose k (ties m)) (he : m.enough feet c = true) : kept m feet c = true := by
  obtain ⟨sub, len⟩ := mem_choose.mp hc
  have asc : c.Pairwise (· < ·) := List.Pairwise.sublist sub (ties_asc m)
  unfold kept
  rw [List.all_eq_true]
  intro j hj
  have hj' : j < c.length := List.mem_range.mp hj
  cases q : firstNot m feet (c.take j) with
  | none =>
    have e : c.take j ∈ (choose j (ties m)).filter (m.enough feet) := List.mem_filter.mpr ⟨take_choose hc (by omega), enough_iff.mpr q⟩
    rw [no j (by omega)] at e
    cases e
  | some b =>
    obtain ⟨hb, cant⟩ := firstNot_some q
    have can : Can feet c b := made_can.mp (List.all_eq_true.mp he b hb)
    obtain ⟨p, hp, pl, pu⟩ := can
    rw [← List.take_append_drop j c] at hp
    obtain ⟨p1, p2, rfl, h1, h2⟩ := List.sublist_append_iff.mp hp
    refine decide_eq_true ?_
    cases p2 with
    | nil =>
      rw [List.append_nil] at pl pu
      exact absurd ⟨p1, h1, pl, pu⟩ cant
    | cons x p2 =>
      have hx : x ∈ c.drop j := h2.subset List.mem_cons_self
      have le2 : x ≤ b := by
        rw [← pu]
        exact le_union (List.mem_append_right _ List.mem_cons_self)
      have e : c.drop j = c[j] :: c.drop (j + 1) := List.drop_eq_getElem_cons hj'
      have le1 : c[j] ≤ x := by
        rw [e] at hx
        rcases List.mem_cons.mp hx with z | z
        · omega
        · have asc2 : (c.drop j).Pairwise (· < ·) := List.Pairwise.sublist (List.drop_sublist j c) asc
          rw [e] at asc2
          exact Nat.le_of_lt ((List.pairwise_cons.mp asc2).1 x z)
      rw [List.getD_eq_getElem?_getD, List.getElem?_eq_getElem hj', Option.getD_some]
      omega
theorem level_enough {m : Loom} {feet k : Nat} (no : ∀ j, j < k → (choose j (ties m)).filter (m.enough feet) = []) : (level m feet k).filter (m.enough feet) = (choose k (ties m)).filter (m.enough feet) := by
  unfold level
  rw [List.filter_filter]
  refine List.filter_congr fun c hc => ?_
  cases e : m.enough feet c with
  | false => rfl
  | true => rw [enough_kept no hc e]; rfl
theorem kept_take {m : Loom} {feet : Nat} {c : List Nat} (h : kept m feet c = true) (k : Nat) : kept m feet (c.take k) = true := by
  unfold kept at h ⊢
  rw [List.all_eq_true] at h ⊢
  intro j hj
  have hj' : j < (c.take k).length := List.mem_range.mp hj
  rw [List.length_take] at hj'
  have q := h j (List.mem_range.mpr (by omega))
  have e1 : (c.take k).take j = c.take j := by rw [List.take_take, Nat.min_eq_left (by omega)]
  have e2 : (c.take k).getD j 0 = c.getD j 0 := by
    rw [List.getD_eq_getElem?_getD, List.getD_eq_getElem?_getD, List.getElem?_take_of_lt (by omega)]
  rw [e1, e2]
  exact q
/-- while no level does, there is something to look at -/
theorem level_ne {m : Loom} {feet k K : Nat} {t : List Nat} {r : List (List Nat)} (no : ∀ j, j < K → (choose j (ties m)).filter (m.enough feet) = []) (yes : (choose K (ties m)).filter (m.enough feet) = t :: r) (hk : k ≤ K) : level m feet k ≠ [] := by
  have ht : t ∈ (choose K (ties m)).filter (m.enough feet) := by rw [yes]; exact List.mem_cons_self
  obtain ⟨h1, h2⟩ := List.mem_filter.mp ht
  exact List.ne_nil_of_mem (List.mem_filter.mpr ⟨take_choose h1 hk, kept_take (enough_kept no h1 h2) k⟩)
theorem choose_len : ∀ (l : List Nat) (k : Nat), (choose k l).length ≤ 2 ^ l.length
  | [], 0 => Nat.le_refl _
  | [], k + 1 => Nat.zero_le _
  | x :: l, 0 => by
    show 1 ≤ _
    exact Nat.pow_pos (by decide)
  | x :: l, k + 1 => by
    show (((choose k l).map fun r => x :: r) ++ choose (k + 1) l).length ≤ _
    rw [List.length_append, List.length_map, List.length_cons, Nat.pow_succ]
    have := choose_len l k
    have := choose_len l (k + 1)
    omega
theorem level_len (m : Loom) (h : m.shafts ≤ 4) (feet k : Nat) : (level m feet k).length ≤ 32768 := by
  unfold level
  refine Nat.le_trans (List.length_filter_le _ _) (Nat.le_trans (choose_len _ _) ?_)
  rw [ties_eq, List.length_range']
  have e : 2 ^ m.shafts ≤ 2 ^ 4 := Nat.pow_le_pow_right (by decide) h
  exact Nat.le_trans (Nat.pow_le_pow_right (by decide) (show 2 ^ m.shafts - 1 ≤ 15 by omega)) (by decide)
theorem level_mem {m : Loom} {feet k : Nat} {c : List Nat} (h : c ∈ level m feet k) : c.length = k ∧ k ≤ 2 ^ m.shafts - 1 ∧ ∀ x ∈ c, x < 2 ^ m.shafts := by
  obtain ⟨a, b⟩ := mem_choose.mp (List.mem_filter.mp h).1
  refine ⟨b, ?_, fun x hx => ?_⟩
  · have := a.length_le
    rw [ties_eq, List.length_range'] at this
    omega
  · have := a.subset hx
    unfold ties at this
    exact List.mem_range.mp (List.mem_filter.mp this).1
end Tr
namespace Tr
open Sw87
/-! The first ways to press, one pass over the rows of treadles. -/
/-- of these rows the first that lifts just b -/
def firstWay (t : List Nat) (W : List (List Nat)) (b : Nat) : Option (List Nat) := W.find? fun p => lifted t p == b
theorem firstWay_nil (t : List Nat) (b : Nat) : firstWay t [] b = none := rfl
theorem firstWay_snoc (t : List Nat) (W : List (List Nat)) (p : List Nat) (b : Nat) :
    firstWay t (W ++ [p]) b = match firstWay t W b with
      | some q => some q
      | none => if lifted t p = b then some p else none := by
  unfold firstWay
  rw [List.find?_append]
  cases List.find? (fun p => lifted t p == b) W with
  | some q => rfl
  | none =>
    show List.find? (fun p => lifted t p == b) [p] = _
    by_cases h : lifted t p = b
    · have e : (lifted t p == b) = true := beq_iff_eq.mpr h
      simp [List.find?, e, h]
    · have e : (lifted t p == b) = false := beq_eq_false_iff_ne.mpr h
      simp [List.find?, e, h]
theorem firstWay_old {t : List Nat} {W : List (List Nat)} {p q : List Nat} {b : Nat} (h : firstWay t W b = some q) : firstWay t (W ++ [p]) b = some q := by
  rw [firstWay_snoc, h]
theorem firstWay_new {t : List Nat} {W : List (List Nat)} {p : List Nat} (h : firstWay t W (lifted t p) = none) : firstWay t (W ++ [p]) (lifted t p) = some p := by
  rw [firstWay_snoc, h]
  exact if_pos rfl
theorem firstWay_other {t : List Nat} {W : List (List Nat)} {p : List Nat} {b : Nat} (h : b ≠ lifted t p) : firstWay t (W ++ [p]) b = firstWay t W b := by
  rw [firstWay_snoc]
  cases firstWay t W b with
  | some q => rfl
  | none => exact if_neg fun z => h z.symm
theorem presses_zero (n : Nat) : presses 0 n = [[]] := by
  unfold presses
  rw [List.range_succ, List.flatMap_append]
  show [] ++ (choose 0 (List.range n) ++ []) = [[]]
  rw [choose_zero]; rfl
theorem presses_succ (k n : Nat) : presses (k + 1) n = presses k n ++ choose (k + 1) (List.range n) := by
  unfold presses
  rw [List.range_succ (n := k + 1), List.flatMap_append]
  refine congrArg _ ?_
  rw [List.flatMap_cons, List.flatMap_nil, List.append_nil]
theorem presses_min (n : Nat) : ∀ (f : Nat), presses f n = presses (min f n) n
  | 0 => by rw [Nat.zero_min]
  | f + 1 => by
    by_cases h : f + 1 ≤ n
    · rw [Nat.min_eq_left h]
    · rw [Nat.min_eq_right (by omega), presses_succ, choose_more (by rw [List.length_range]; omega), List.append_nil, presses_min n f, Nat.min_eq_right (by omega)]
theorem firstWay_made (t : List Nat) (feet b : Nat) : firstWay t (presses (min feet t.length) t.length) b = made t feet b := by
  rw [made_def, ← presses_min]; rfl
theorem presses_len (n : Nat) : ∀ (f : Nat), (presses f n).length ≤ (f + 1) * 2 ^ n
  | 0 => by
    rw [presses_zero, Nat.zero_add, Nat.one_mul]
    exact Nat.pow_pos (by decide)
  | f + 1 => by
    rw [presses_succ, List.length_append]
    have := presses_len n f
    have h2 := choose_len (List.range n) (f + 1)
    rw [List.length_range] at h2
    rw [Nat.add_mul (f + 1) 1, Nat.one_mul]
    omega
theorem lifted_snoc (t : List Nat) (p : List Nat) (i : Nat) : lifted t (p ++ [i]) = lifted t p ||| t.getD i 0 := by
  unfold lifted
  rw [List.map_append]
  exact union_snoc _ _
theorem choose_lt {k n : Nat} {p : List Nat} (h : p ∈ choose k (List.range n)) : ∀ i ∈ p, i < n := (sub_range.mp (mem_choose.mp h).1).2
end Tr
namespace Tr
open Sw87
/-! Places of two feet, row by row; what is onward, pick by pick. -/
def rowOf (n a : Nat) : List Feet := (List.range' (a + 1) (n - (a + 1))).map fun b => (a, b)
theorem above_range (n a : Nat) : (List.range n).filter (fun b => decide (a < b)) = List.range' (a + 1) (n - (a + 1)) := by
  induction n with
  | zero =>
    have : 0 - (a + 1) = 0 := by omega
    rw [this]; rfl
  | succ n ih =>
    rw [List.range_succ, List.filter_append, ih]
    by_cases h : a < n
    · have e : n + 1 - (a + 1) = (n - (a + 1)) + 1 := by omega
      rw [e, List.range'_concat, Nat.one_mul, List.filter_cons, if_pos (decide_eq_true h)]
      have e2 : a + 1 + (n - (a + 1)) = n := by omega
      rw [e2]; rfl
    · have e1 : n - (a + 1) = 0 := by omega
      have e2 : n + 1 - (a + 1) = 0 := by omega
      rw [e1, e2, List.filter_cons, if_neg (by rw [decide_eq_true_iff]; exact h)]; rfl
theorem places_rows (n : Nat) : places n = (List.range n).flatMap (rowOf n) := by
  unfold places rowOf
  refine flatMap_same fun a _ => ?_
  rw [above_range]
theorem places_nodup (n : Nat) : (places n).Nodup := by
  rw [places_rows]
  unfold List.Nodup
  rw [List.pairwise_flatMap]
  constructor
  · intro a _
    unfold rowOf
    rw [List.pairwise_map]
    exact (List.pairwise_lt_range' (s := a + 1) (n := n - (a + 1))).imp fun h q => by
      injection q with _ q
      omega
  · refine List.pairwise_lt_range.imp fun h x hx y hy q => ?_
    unfold rowOf at hx hy
    obtain ⟨b, _, rfl⟩ := List.mem_map.mp hx
    obtain ⟨c, _, rfl⟩ := List.mem_map.mp hy
    injection q with q _
    omega
theorem rowOf_len (n a : Nat) : (rowOf n a).length ≤ n := by
  unfold rowOf
  rw [List.length_map, List.length_range']
  omega
theorem places_len (n : Nat) : (places n).length ≤ n * n := by
  rw [places_rows, List.length_flatMap]
  have : ∀ l : List Nat, (l.map fun a => (rowOf n a).length).sum ≤ l.length * n := by
    intro l
    induction l with
    | nil => exact Nat.zero_le _
    | cons a l ih =>
      rw [List.map_cons, List.sum_cons, List.length_cons, Nat.succ_mul]
      have := rowOf_len n a
      omega
  have q := this (List.range n)
  rwa [List.length_range] at q
/-- the places at which a pick may be trodden, and what is onward from each -/
def aheadOf (n : Nat) : List (List Nat) → List (Feet × Best)
  | [] => []
  | p :: l => ((places n).filter (over · p)).map fun f => (f, Tail n l f)
theorem tail_pick {n : Nat} {p : List Nat} {l : List (List Nat)} (h : ∃ x ∈ places n, over x p = true) (f : Feet) :
    pick (((places n).filter (over · p)).map fun x => ⟨far f.1 x.1 + far f.2 x.2 + (Tail n l x).far, (Tail n l x).many, x :: (Tail n l x).feet⟩) = some (Tail n (p :: l) f) :=
  pick_getD fun z => filter_places_ne h (List.map_eq_nil_iff.mp z)
theorem absolute (a b : Nat) : (if (a : Int) - (b : Int) < 0 then -((a : Int) - (b : Int)) else (a : Int) - (b : Int)) = (far a b : Nat) := by
  unfold far
  by_cases h : a < b
  · rw [if_pos h, if_pos (by omega)]; omega
  · rw [if_neg h, if_neg (by omega)]; omega
end Tr
namespace Tr
open Sw87
/-! What is handed in, read as calls: the document's numbers of a call, and back. -/
def asInts (l : List Nat) : List Int := l.map fun (x : Nat) => (x : Int)
theorem asInts_len (l : List Nat) : (asInts l).length = l.length := List.length_map ..
/-- a call as it is handed in -/
def nums : Call → List Int
  | .begins n => [0, (n : Int)]
  | .picks l => 1 :: (l.length : Int) :: asInts l
  | .lifts => [2]
  | .fewest f => [3, (f : Int)]
  | .press f t => 4 :: (f : Int) :: (t.length : Int) :: asInts t
  | .walk t => 5 :: (t.length : Int) :: asInts t
def Small (x : Nat) : Prop := x < 4294967296
def FewSmall (l : List Nat) : Prop := l.length ≤ 40 ∧ ∀ x ∈ l, Small x
/-- the bounds of a call's numbers and lists -/
def Fine : Call → Prop
  | .begins n => Small n
  | .picks l => FewSmall l
  | .lifts => True
  | .fewest f => Small f
  | .press f t => Small f ∧ FewSmall t
  | .walk t => FewSmall t
def spell (cs : List Call) : List Int := cs.flatMap nums
theorem spell_cons (c : Call) (cs : List Call) : spell (c :: cs) = nums c ++ spell cs := List.flatMap_cons ..
/-! ### a call's numbers say the call -/
theorem nat_of {z : Int} (h : Sw87Neutral.nat z = true) : 0 ≤ z ∧ z < 4294967296 := by
  have q := Bool.and_eq_true_iff.mp h
  exact ⟨of_decide_eq_true q.1, of_decide_eq_true q.2⟩
theorem nat_ofNat {x : Nat} (h : Small x) : Sw87Neutral.nat (x : Int) = true := by
  have h' : x < 4294967296 := h
  refine Bool.and_eq_true_iff.mpr ⟨decide_eq_true (Int.natCast_nonneg x), decide_eq_true ?_⟩
  show (x : Int) < 4294967296
  omega
theorem all_nat_asInts {l : List Nat} (h : ∀ x ∈ l, Small x) : (asInts l).all Sw87Neutral.nat = true := by
  rw [List.all_eq_true]
  intro z hz
  obtain ⟨x, hx, rfl⟩ := List.mem_map.mp hz
  exact nat_ofNat (h x hx)
theorem toNat_ints (l : List Nat) : (asInts l).map Int.toNat = l := by
  unfold asInts
  rw [List.map_map]
  have e : (Int.toNat ∘ fun (x : Nat) => (x : Int)) = id := funext fun x => Int.toNat_natCast x
  rw [e, List.map_id]
theorem listIn_of {l : List Nat} (h : l.length ≤ 40) : Sw87Neutral.listIn (l.length :: l) = some l := if_pos ⟨h, rfl⟩
theorem small_len {l : List Nat} (h : l.length ≤ 40) : Small l.length := by show l.length < 4294967296; omega
theorem callOf_nums {c : Call} (h : Fine c) : Sw87Neutral.callOf (nums c) = some c := by
  unfold Sw87Neutral.callOf
  cases c with
  | begins n =>
    rw [if_neg (by simp [nums, nat_ofNat (show Small n from h), show Sw87Neutral.nat 0 = true from rfl])]
    rfl
  | picks l =>
    have e : (nums (.picks l)).all Sw87Neutral.nat = true := by
      show (Sw87Neutral.nat 1 && (Sw87Neutral.nat (l.length : Int) && (asInts l).all Sw87Neutral.nat)) = true
      rw [nat_ofNat (small_len h.1), all_nat_asInts h.2]; rfl
    rw [if_neg (by rw [e]; exact fun q => Bool.noConfusion q)]
    show (Sw87Neutral.listIn ((l.length : Int).toNat :: (asInts l).map Int.toNat)).map Call.picks = _
    rw [toNat_ints, Int.toNat_natCast, listIn_of h.1]; rfl
  | lifts => rfl
  | fewest n =>
    rw [if_neg (by simp [nums, nat_ofNat (show Small n from h), show Sw87Neutral.nat 3 = true from rfl])]
    rfl
  | press f l =>
    have e : (nums (.press f l)).all Sw87Neutral.nat = true := by
      show (Sw87Neutral.nat 4 && (Sw87Neutral.nat (f : Int) && (Sw87Neutral.nat (l.length : Int) && (asInts l).all Sw87Neutral.nat))) = true
      rw [nat_ofNat h.1, nat_ofNat (small_len h.2.1), all_nat_asInts h.2.2]; rfl
    rw [if_neg (by rw [e]; exact fun q => Bool.noConfusion q)]
    show (Sw87Neutral.listIn ((l.length : Int).toNat :: (asInts l).map Int.toNat)).map (fun t => Call.press (f : Int).toNat t) = _
    rw [toNat_ints, Int.toNat_natCast, Int.toNat_natCast, listIn_of h.2.1]; rfl
  | walk l =>
    have e : (nums (.walk l)).all Sw87Neutral.nat = true := by
      show (Sw87Neutral.nat 5 && (Sw87Neutral.nat (l.length : Int) && (asInts l).all Sw87Neutral.nat)) = true
      rw [nat_ofNat (small_len h.1), all_nat_asInts h.2]; rfl
    rw [if_neg (by rw [e]; exact fun q => Bool.noConfusion q)]
    show (Sw87Neutral.listIn ((l.length : Int).toNat :: (asInts l).map Int.toNat)).map Call.walk = _
    rw [toNat_ints, Int.toNat_natCast, listIn_of h.1]; rfl
/-! ### the list handed in is spelled by calls -/
theorem back_ints : ∀ (l : List Int), (∀ z ∈ l, 0 ≤ z) → asInts (l.map Int.toNat) = l
  | [], _ => rfl
  | z :: l, h => by
    show ((z.toNat : Nat) : Int) :: asInts (l.map Int.toNat) = z :: l
    rw [back_ints l fun y hy => h y (List.mem_cons_of_mem _ hy), Int.toNat_of_nonneg (h z List.mem_cons_self)]
theorem row_some {l x t : List Int} (h : PyFlat.row l = some (x, t)) : l = (x.length : Int) :: (x ++ t) := by
  unfold PyFlat.row at h
  cases l with
  | nil => cases h
  | cons n r =>
    dsimp only at h
    split at h
    · rename_i c
      cases h
      have e : (r.take n.toNat).length = n.toNat := by rw [List.length_take]; omega
      rw [e, Int.toNat_of_nonneg c.1, List.take_append_drop]
    · cases h
theorem within_iff {lo hi z : Int} : PyInside.within lo hi z = true ↔ lo ≤ z ∧ z ≤ hi := by
  unfold PyInside.within
  rw [Bool.and_eq_true, decide_eq_true_iff, decide_eq_true_iff]
/-- a number within the document's bounds -/
theorem one_in {z : Int} (h : PyInside.within 0 4294967295 z = true) : Small z.toNat ∧ ((z.toNat : Nat) : Int) = z := by
  have q := within_iff.mp h
  exact ⟨by show z.toNat < 4294967296; omega, Int.toNat_of_nonneg q.1⟩
/-- a list within the document's bounds -/
theorem list_in {x : List Int} (h1 : x.length ≤ 40) (h2 : x.all (PyInside.within 0 4294967295) = true) : FewSmall (x.map Int.toNat) ∧ asInts (x.map Int.toNat) = x := by
  have q := List.all_eq_true.mp h2
  refine ⟨⟨by rw [List.length_map]; exact h1, fun y hy => ?_⟩, back_ints x fun z hz => (within_iff.mp (q z hz)).1⟩
  obtain ⟨z, hz, rfl⟩ := List.mem_map.mp hy
  exact (one_in (q z hz)).1
theorem rows_one {l t : List Int} {xs : List (List Int)} (h : PyFlat.rows 1 l = some (xs, t)) : ∃ x, xs = [x] ∧ l = (x.length : Int) :: (x ++ t) := by
  unfold PyFlat.rows at h
  cases e : PyFlat.row l with
  | none => rw [e] at h; cases h
  | some p =>
    obtain ⟨x, s⟩ := p
    rw [e] at h
    cases h
    exact ⟨x, rfl, row_some e⟩
theorem lists_one {x : List Int} {b : Int × Int × Nat × Nat} (h : PyInside.lists [b] [x] = true) : x.length ≤ b.2.2.2 ∧ x.all (PyInside.within b.1 b.2.1) = true := by
  obtain ⟨lo, hi, least, most⟩ := b
  unfold PyInside.lists at h
  rw [Bool.and_eq_true, Bool.and_eq_true, Bool.and_eq_true] at h
  exact ⟨of_decide_eq_true h.1.1.2, h.1.2⟩
theorem each_one {z : Int} {lo hi : Int} (h : PyInside.each [(lo, hi)] [z] = true) : PyInside.within lo hi z = true := by
  unfold PyInside.each at h
  rw [Bool.and_eq_true] at h
  exact h.1
theorem call_some {p : Int} {r t : List Int} {c : List (List Int)} (h : PyFlat.call PySw87.shape (p :: r) = some (c, t)) (hb : PyInside.call PySw87.bound c = true) :
    ∃ k : Call, Fine k ∧ p :: r = nums k ++ t ∧ PySw87.whole c = [nums k] := by
  unfold PyFlat.call at h
  dsimp only at h
  cases hs : PySw87.shape p with
  | none => rw [hs] at h; cases h
  | some q =>
    obtain ⟨n, k⟩ := q
    rw [hs] at h
    dsimp only at h
    split at h
    · cases h
    · rename_i hlen
      cases hr : PyFlat.rows k (r.drop n) with
      | none => rw [hr] at h; cases h
      | some y =>
        obtain ⟨xs, t'⟩ := y
        rw [hr] at h
        cases h
        -- the six places
        have six : p = 0 ∧ n = 1 ∧ k = 0 ∨ p = 1 ∧ n = 0 ∧ k = 1 ∨ p = 2 ∧ n = 0 ∧ k = 0 ∨ p = 3 ∧ n = 1 ∧ k = 0 ∨ p = 4 ∧ n = 1 ∧ k = 1 ∨ p = 5 ∧ n = 0 ∧ k = 1 := by
          unfold PySw87.shape at hs
          split at hs
          · cases hs; exact .inl ⟨by assumption, rfl, rfl⟩
          split at hs
          · cases hs; exact .inr (.inl ⟨by assumption, rfl, rfl⟩)
          split at hs
          · cases hs; exact .inr (.inr (.inl ⟨by assumption, rfl, rfl⟩))
          split at hs
          · cases hs; exact .inr (.inr (.inr (.inl ⟨by assumption, rfl, rfl⟩)))
          split at hs
          · cases hs; exact .inr (.inr (.inr (.inr (.inl ⟨by assumption, rfl, rfl⟩))))
          split at hs
          · cases hs; exact .inr (.inr (.inr (.inr (.inr ⟨by assumption, rfl, rfl⟩))))
          · cases hs
        rcases six with ⟨rfl, rfl, rfl⟩ | ⟨rfl, rfl, rfl⟩ | ⟨rfl, rfl, rfl⟩ | ⟨rfl, rfl, rfl⟩ | ⟨rfl, rfl, rfl⟩ | ⟨rfl, rfl, rfl⟩
        · cases r with
          | nil => exact absurd Nat.one_pos hlen
          | cons z r =>
            cases hr
            have hb' : (PyInside.each [(0, 4294967295)] [z] && true) = true := hb
            rw [Bool.and_eq_true] at hb'
            obtain ⟨sm, e⟩ := one_in (each_one hb'.1)
            exact ⟨.begins z.toNat, sm, by show 0 :: z :: r = [0, ((z.toNat : Nat) : Int)] ++ r; rw [e]; rfl, by show [[0] ++ [z]] = [[0, ((z.toNat : Nat) : Int)]]; rw [e]; rfl⟩
        · obtain ⟨x, rfl, e⟩ := rows_one hr
          have hb' : (true && PyInside.lists [(0, 4294967295, 0, 40)] [x]) = true := hb
          rw [Bool.true_and] at hb'
          obtain ⟨b1, b2⟩ := lists_one hb'
          obtain ⟨f, e2⟩ := list_in b1 b2
          refine ⟨.picks (x.map Int.toNat), f, ?_, ?_⟩
          · show 1 :: r = 1 :: ((x.map Int.toNat).length : Int) :: (asInts (x.map Int.toNat) ++ t)
            rw [e2, List.length_map]
            exact congrArg _ e
          · show [[1] ++ [(x.length : Int)] ++ x] = [1 :: ((x.map Int.toNat).length : Int) :: asInts (x.map Int.toNat)]
            rw [e2, List.length_map]; rfl
        · cases hr
          exact ⟨.lifts, trivial, rfl, rfl⟩
        · cases r with
          | nil => exact absurd Nat.one_pos hlen
          | cons z r =>
            cases hr
            have hb' : (PyInside.each [(0, 4294967295)] [z] && true) = true := hb
            rw [Bool.and_eq_true] at hb'
            obtain ⟨sm, e⟩ := one_in (each_one hb'.1)
            exact ⟨.fewest z.toNat, sm, by show 3 :: z :: r = [3, ((z.toNat : Nat) : Int)] ++ r; rw [e]; rfl, by show [[3] ++ [z]] = [[3, ((z.toNat : Nat) : Int)]]; rw [e]; rfl⟩
        · cases r with
          | nil => exact absurd Nat.one_pos hlen
          | cons z r =>
            obtain ⟨x, rfl, e⟩ := rows_one hr
            have hb' : (PyInside.each [(0, 4294967295)] [z] && PyInside.lists [(0, 4294967295, 0, 40)] [x]) = true := hb
            rw [Bool.and_eq_true] at hb'
            obtain ⟨sm, e1⟩ := one_in (each_one hb'.1)
            obtain ⟨b1, b2⟩ := lists_one hb'.2
            obtain ⟨f, e2⟩ := list_in b1 b2
            refine ⟨.press z.toNat (x.map Int.toNat), ⟨sm, f⟩, ?_, ?_⟩
            · show 4 :: z :: r = 4 :: ((z.toNat : Nat) : Int) :: ((x.map Int.toNat).length : Int) :: (asInts (x.map Int.toNat) ++ t)
              rw [e2, e1, List.length_map]
              exact congrArg _ (congrArg _ e)
            · show [[4] ++ [z] ++ [(x.length : Int)] ++ x] = [4 :: ((z.toNat : Nat) : Int) :: ((x.map Int.toNat).length : Int) :: asInts (x.map Int.toNat)]
              rw [e2, e1, List.length_map]; rfl
        · obtain ⟨x, rfl, e⟩ := rows_one hr
          have hb' : (true && PyInside.lists [(0, 4294967295, 0, 40)] [x]) = true := hb
          rw [Bool.true_and] at hb'
          obtain ⟨b1, b2⟩ := lists_one hb'
          obtain ⟨f, e2⟩ := list_in b1 b2
          refine ⟨.walk (x.map Int.toNat), f, ?_, ?_⟩
          · show 5 :: r = 5 :: ((x.map Int.toNat).length : Int) :: (asInts (x.map Int.toNat) ++ t)
            rw [e2, List.length_map]
            exact congrArg _ e
          · show [[5] ++ [(x.length : Int)] ++ x] = [5 :: ((x.map Int.toNat).length : Int) :: asInts (x.map Int.toNat)]
            rw [e2, List.length_map]; rfl
theorem calls_some : ∀ (f : Nat) {l : List Int} {raw : List (List (List Int))}, PyFlat.calls PySw87.shape f l = some raw → PyInside.calls PySw87.bound raw = true →
    ∃ cs : List Call, (∀ c ∈ cs, Fine c) ∧ l = spell cs ∧ raw.map PySw87.whole = cs.map (fun c => [nums c])
  | f, [], raw, h, _ => by
    have e : raw = [] := by
      cases f <;> (cases h; rfl)
    subst e
    exact ⟨[], fun c hc => (by cases hc), rfl, rfl⟩
  | 0, p :: r, raw, h, _ => by cases h
  | f + 1, p :: r, raw, h, hb => by
    unfold PyFlat.calls at h
    cases e : PyFlat.call PySw87.shape (p :: r) with
    | none => rw [e] at h; cases h
    | some y =>
      obtain ⟨c, t⟩ := y
      rw [e] at h
      dsimp only at h
      cases e2 : PyFlat.calls PySw87.shape f t with
      | none => rw [e2] at h; cases h
      | some cs' =>
        rw [e2] at h
        cases h
        have hb' : (PyInside.call PySw87.bound c && PyInside.calls PySw87.bound cs') = true := hb
        rw [Bool.and_eq_true] at hb'
        obtain ⟨k, fk, el, ew⟩ := call_some e hb'.1
        obtain ⟨cs, fcs, et, ews⟩ := calls_some f e2 hb'.2
        refine ⟨k :: cs, fun x hx => ?_, ?_, ?_⟩
        · rcases List.mem_cons.mp hx with rfl | hx
          · exact fk
          · exact fcs x hx
        · rw [spell_cons, el, et]
        · rw [List.map_cons, List.map_cons, ew, ews]
/-! ### what is answered -/
/-- a call's answer in numbers -/
def said (a : Ans) : List Int := Sw87Neutral.out a
def ran : St → List Call → List (List Int)
  | _, [] => []
  | s, c :: r => said (Sw87.step s c).2 :: ran (Sw87.step s c).1 r
/-- all answers as they are told -/
def told (s : St) (cs : List Call) : List Int := PyFlat.told (ran s cs)
theorem told_nil (s : St) : told s [] = [] := rfl
theorem told_cons (s : St) (c : Call) (cs : List Call) : told s (c :: cs) = ((said (Sw87.step s c).2).length : Int) :: (said (Sw87.step s c).2 ++ told (Sw87.step s c).1 cs) := by
  show PyFlat.told (_ :: _) = _
  unfold PyFlat.told
  rw [List.flatMap_cons]; rfl
theorem step_nums {c : Call} (h : Fine c) (s : St) : Sw87Neutral.step s (nums c) = ((Sw87.step s c).1, said (Sw87.step s c).2) := by
  unfold Sw87Neutral.step
  rw [callOf_nums h]; rfl
theorem played_is : ∀ (cs : List Call) (s : St), (∀ c ∈ cs, Fine c) → PyFlat.played (fun s c => Sw87Neutral.step s (c.headD [])) s (cs.map fun c => [nums c]) = ran s cs
  | [], _, _ => rfl
  | c :: cs, s, h => by
    have e := step_nums (h c List.mem_cons_self) s
    show (Sw87Neutral.step s (nums c)).2 :: PyFlat.played _ (Sw87Neutral.step s (nums c)).1 _ = _
    rw [e, played_is cs _ fun x hx => h x (List.mem_cons_of_mem _ hx)]; rfl
theorem many_is : ∀ (cs : List Call) (s : St), (∀ c ∈ cs, Fine c) → Sw87Neutral.many s (cs.map nums) + cs.length = (told s cs).length
  | [], _, _ => rfl
  | c :: cs, s, h => by
    have e := step_nums (h c List.mem_cons_self) s
    have ih := many_is cs (Sw87.step s c).1 fun x hx => h x (List.mem_cons_of_mem _ hx)
    show (Sw87Neutral.step s (nums c)).2.length + Sw87Neutral.many (Sw87Neutral.step s (nums c)).1 (cs.map nums) + (cs.length + 1) = _
    rw [e, told_cons, List.length_cons, List.length_append, ← ih]
    show (said (Sw87.step s c).2).length + Sw87Neutral.many (Sw87.step s c).1 (cs.map nums) + (cs.length + 1) = _
    omega
/-- **what is asked, in the calls' own words** -/
theorem asked_is {l : List Int} (h : PySw87.answers_asked l = true) : ∃ cs : List Call, (∀ c ∈ cs, Fine c) ∧ l = spell cs ∧ cs ≠ [] ∧ cs.length ≤ 60 ∧ PySw87.answers l = told Sw87.init cs ∧ (told Sw87.init cs).length ≤ 1000060 := by
  unfold PySw87.answers_asked at h
  cases e : PyFlat.calls PySw87.shape l.length l with
  | none => rw [e] at h; cases h
  | some raw =>
    rw [e] at h
    dsimp only at h
    rw [Bool.and_eq_true, Bool.and_eq_true, Bool.and_eq_true, Bool.and_eq_true] at h
    obtain ⟨⟨⟨⟨h1, h2⟩, h3⟩, h4⟩, _⟩ := h
    obtain ⟨cs, fcs, el, ew⟩ := calls_some _ e h3
    have hl : cs.length = raw.length := by
      have q := congrArg List.length ew
      rw [List.length_map, List.length_map] at q
      exact q.symm
    have hlen : raw.length ≤ 60 := of_decide_eq_true h2
    have ea : PySw87.answers l = told Sw87.init cs := by
      unfold PySw87.answers PySw87.calls
      rw [e]
      show PyFlat.told (PyFlat.played _ Sw87Neutral.start (raw.map PySw87.whole)) = _
      rw [ew, played_is cs _ fcs]; rfl
    refine ⟨cs, fcs, el, ?_, by omega, ea, ?_⟩
    · rintro rfl
      have : raw = [] := List.eq_nil_of_length_eq_zero hl.symm
      subst this
      cases h1
    · unfold Sw87Neutral.asked at h4
      rw [ew, List.map_map] at h4
      rw [Bool.and_eq_true, Bool.and_eq_true, Bool.and_eq_true] at h4
      have q : Sw87Neutral.many Sw87Neutral.start (cs.map nums) ≤ 1000000 := of_decide_eq_true h4.2.2.2
      have m := many_is cs Sw87.init fcs
      have q' : Sw87Neutral.many Sw87.init (cs.map nums) ≤ 1000000 := q
      omega
end Tr
set_option maxRecDepth 100000
set_option maxHeartbeats 4000000
/-! set(xs) of a list of whole numbers: the set's members are the list's; the layer has it for a tuple that a for walks alone. -/
namespace Tr
open PySem PySem.Spec PyProof.Rows L2
section
variable {P : Program} {w : World} {A : Around} {E : Value → Shared → Prop} {s : Shared}
/-- the empty set as it is made -/
abbrev newSet (w : World) : Obj := { cls := .type "set", dict := none, data := .set #[] 0 (.fresh 0 0 (!w.params.followText "set-order")) }
theorem set_of_list {l : Addr} {items : Array Value} (ns : List Int) {Q : Value → Shared → Prop} (calm : A.handled = none) (lst : s.heap.IsList l items) (its : IntsAre items.toList ns) (few : ns.length + 1 < scanBound)
    (done : ∀ (h' : Heap) (tk c : Nat), SetR w h' s.heap.objs.size (fun j => decide (j ∈ ns)) c → c ≤ ns.length → (∀ b o, s.heap.get? b = some o → h'.get? b = some o) → Q (.ref s.heap.objs.size) { s with heap := h', toks := tk }) :
    wpAny (model P w) A (call (.type "set") [.ref l]) Q E s := by
  have size_is : items.size = ns.length := (Array.length_toList).symm.trans its.length
  obtain ⟨c0, tl0, mro0⟩ := F.called_set.mro
  have made0 := F.called_set.made; have sub0 := F.called_set.sub
  refine wpAny_call (codeAny_of_tree ?_); show wpAny _ _ (callAny (.type "set") _) _ _ _
  refine wpAny_pure ⟨Code.quiet_builtin _ (by decide +kernel), codeAny_builtin F.entry_type_call (?_ : _)⟩
  rw [Around.under_plain (weight_type_call_type "set" [.ref l] []) (by rfl)]
  have nt0 := F.called_set.notType; have cc0 := F.called_set.canCreate; have tc0 := F.typeCall_set_1 (.ref l)
  repeat (any_goals (first | assumption | wp_step | fail))
  -- the new set, empty
  refine codeAny_mono (code_set_led1 (P := P) (w := w) (s := s) (.ref l) (E := E) (Q₁ := fun y s₁ => y = .ref s.heap.objs.size ∧ s₁ = { s with heap := s.heap.push (newSet w) }) ⟨rfl, rfl⟩) fun r1 s1 got1 => ?_
  match r1, got1 with
  | .error _, got1 => exact got1
  | .ok .next, got1 => exact got1.elim
  | .ok .brk, got1 => exact got1.elim
  | .ok .cont, got1 => exact got1.elim
  | .ok (.ret y), got1 =>
    obtain ⟨rfl, rfl⟩ := got1
    have new0 : (s.heap.push (newSet w)).get? s.heap.objs.size = some (newSet w) := Heap.get?_push_size _ rfl
    have ty0 : Shared.TypeIs { s with heap := s.heap.push (newSet w) } (.ref s.heap.objs.size) "set" := ⟨_, new0, rfl⟩
    have look0 := F.called_set.init.lookup; have bind0 := F.called_set.init.bind (.ref s.heap.objs.size)
    repeat (any_goals (first | assumption | wp_step | fail))
    -- its __init__: one walk over the list
    refine codeAny_mono (codeAny_call_builtin (R := wants (fun r s₂ => r = .none ∧ ∃ h' tk c, s₂ = { s with heap := h', toks := tk } ∧ SetR w h' s.heap.objs.size (fun j => decide (j ∈ ns)) c ∧ c ≤ ns.length ∧ (∀ b o, s.heap.get? b = some o → h'.get? b = some o)) E)
      F.called_set.init.plain F.entry_set_init (check_set_init_1 ty0 ?_)) fun r2 s2 got2 => ?_
    · obtain ⟨⟨cl, dd, data, sl⟩, at0, hcl, nl, hd⟩ := lst
      simp only at hcl hd; subst hcl; subst hd
      have at1 := Heap.get?_push_of_some (newSet w) at0
      have no1 := F.sub_list_set; have no2 := F.sub_list_frozenset
      have no3 : (Value.type "list" == Value.type "dict") = false := by decide
      have lst1 : (s.heap.push (newSet w)).IsList l items := ⟨_, at1, rfl, nl, rfl⟩
      unfold Builtin.«set.__init__» noKeywords Builtin.Frozenset.updateFrom; generalize hIt : pyIter = It
      wp_walk
      subst hIt
      refine wpAny_pyIter_list lst1 (wpAny_bind (wpAny_runValue ?_))
      have below : l < s.heap.objs.size := Heap.lt_size at0
      have calm3 : A.in1.in1.in1.handled = none := by simp [calm]
      have apart : l ≠ (s.heap.push (newSet w)).objs.size := fun z => by
        rw [Heap.size_push] at z
        exact Nat.ne_of_lt (Nat.lt_succ_of_lt below) z
      have apart2 : s.heap.objs.size ∉ [(s.heap.push (newSet w)).objs.size, l] := fun z => by
        rw [Heap.size_push] at z
        rcases List.mem_cons.mp z with z | z
        · exact Nat.ne_of_lt (Nat.lt_succ_self _) z
        · exact Nat.ne_of_gt below (List.mem_singleton.mp z)
      have vals : ∀ (i : Nat) (v : Value), items[i]? = some v → ∃ k t, ns[i]? = some k ∧ v = .int k t := fun i v hv => by
        have lt : i < ns.length := size_is ▸ (Array.getElem?_eq_some_iff.mp hv).1
        obtain ⟨t, e⟩ := IntsAre.int_at its i v ((Array.getElem?_toList ..).trans hv)
        exact ⟨ns[i], t, List.getElem?_eq_getElem lt, by rw [e, List.getD_eq_getElem?_getD, List.getElem?_eq_getElem lt, Option.getD_some]⟩
      refine set_update_ints (Walks.list calm3 _ l apart items).toS s.heap.objs.size apart2 ns size_is few vals _ 0 _ rfl (Nat.zero_le _) ⟨⟨_, Heap.get?_push_size _ rfl, rfl, rfl⟩, lst1.push _⟩
        ⟨0, Nat.le_refl 0, setR_new_at (Heap.get?_push_of_some _ new0)⟩ fun s' c' mv le' R' => ?_
      obtain ⟨h', g2, d2, tk', os2⟩ := s'
      have eg : g2 = s.gens := mv.gens
      have ed : d2 = s.drawn := mv.drawn
      have eo : os2 = s.os := mv.os
      subst eg; subst ed; subst eo
      refine wpAny_pure (show wpAny _ _ (ret Value.none) _ _ _ from ?_)
      refine wpAny_pure ⟨rfl, h', tk', c', rfl, R', size_is ▸ le', fun b o e => ?_⟩
      have lt := Heap.lt_size e
      refine mv.heap b o (fun z => ?_) (Heap.get?_push_of_some _ (Heap.get?_push_of_some _ e))
      rw [Heap.size_push] at z
      rcases List.mem_cons.mp z with z | z
      · exact Nat.ne_of_lt lt z
      · exact Nat.ne_of_lt (Nat.lt_succ_of_lt lt) (List.mem_singleton.mp z)
    · match r2, got2 with
      | .error _, got2 => exact got2
      | .ok .next, got2 => exact got2.elim
      | .ok .brk, got2 => exact got2.elim
      | .ok .cont, got2 => exact got2.elim
      | .ok (.ret z), got2 =>
        obtain ⟨rfl, h', tk, c', rfl, R', le', old⟩ := got2
        repeat (any_goals (first | assumption | wp_step | fail))
        exact done _ _ _ R' le' old
end
/-- set(xs) -/
def rSetL (K : PySem.W.Frag) (w : World) : List V → Hp → VK → Prop := fun vs H Q => ∃ (a : Addr) (ns : List Int), vs = [.ref a] ∧ SqL K H a (ns.map V.int) ∧ ns.length + 1 < scanBound ∧
  ∀ (p : Addr) (c : Nat), c ≤ ns.length → H p = none → Q (.ref p) (upd H p (SetO w p (fun j => decide (j ∈ ns)) c))
section
variable {X : Cx}
theorem cr_setL (calm : X.calm = true) : CallR X (.type "set") (rSetL X.K X.w) := by
  intro pins s σ H vs us Q I r h
  obtain ⟨a, ns, rfl, hs, few, q⟩ := h
  rw [Vals.ref1 r]
  obtain ⟨its, rv, at0, len0⟩ := I.list hs
  refine set_of_list ns (I.ok.hd calm) at0.isList (by simpa using ints_of_vals rv) few fun h' tk c R le old => ?_
  exact ⟨.ref _, upd H s.heap.objs.size (SetO X.w s.heap.objs.size (fun j => decide (j ∈ ns)) c), I.laid (t' := tk) old (Nat.le_refl _) (setO_new R), rfl, q _ c le (I.hok.fresh (Nat.le_refl _))⟩
end
end Tr
set_option maxRecDepth 100000
set_option maxHeartbeats 4000000
/-! Rules that the layer lacks: the pairs of a dict whose keys are tuples, walked; whether such a dict is empty; a list extended by a tuple. -/
namespace Tr
open PySem PySem.Spec PyProof.Rows L2
/-- the pairs of a locked dict with tuple keys: each a new tuple of the key's own tuple and the value -/
def ItiT (d : Addr) (o : Obj) (kvs : List (List Key × V)) : It :=
  ⟨fun i H => H d = some (.frz o (.dT kvs)) ∧ i < kvs.length,
   fun i H x H' => ∃ T k v q, kvs[i]? = some (k, v) ∧ H q = some (.tup (k.map kV)) ∧ x = .ref T ∧ H T = none ∧ H' = upd H T (.tup [.ref q, v]),
   fun i H => H d = some (.frz o (.dT kvs)) ∧ kvs.length ≤ i⟩
section
variable {X : Cx} {pins : List (Addr × Obj)} {σ : L2.St} {H : Hp} {s : Shared} {d : Addr} {o : Obj}
theorem inv_frzTV {kvs : List (List Key × V)} (I : Inv X pins σ H s) (h : H d = some (.frz o (.dT kvs))) :
    (d == sysModules) = false ∧ s.heap.get? d = some o ∧ o.ExactDict ∧ ∃ (es : Array DictEntry) (ep : Nat), o.data = .dict es ep ∧ es.size = kvs.length ∧
      ∀ (i : Nat) (k : List Key) (v : V), kvs[i]? = some (k, v) → ∃ (en : DictEntry) (q : Addr), es[i]? = some en ∧ en.key = .ref q ∧ H q = some (.tup (k.map kV)) ∧ RelV v en.val := by
  obtain ⟨hd, _, hs, xs, pr, o', es, ep, ho, hx, hdt, he, _⟩ := I.hok d _ h
  rw [hd] at ho
  cases ho
  have l1 : es.size = xs.length := size_of_entries he
  have l2 : kvs.length = xs.length := Paired.length pr
  refine ⟨hs, hd, hx, es, ep, hdt, by omega, fun i k v e => ?_⟩
  obtain ⟨b, hb, _, e2, e3⟩ := paired_get pr e
  have q := entry_at he i
  rw [hb] at q
  exact ⟨_, b.2.1, q, rfl, e2, e3⟩
end
section
variable {P : Program} {w : World} {K : PySem.W.Frag} {d : Addr} {o : Obj} {es : Array DictEntry} {ep : Nat}
theorem turn_itemsT {kvs : List (List Key × V)} {elts : List Expr} {kk : Nat} {tpos : Pos} (it : Addr) (hod : o.data = .dict es ep) :
    Turn P w K (.Tuple elts kk tpos) (ItiT d o kvs) [it] it (fun i h => ∃ ok ov, IsItemIter h it d i kvs.length ep ok ov) where
  mem := List.mem_singleton.mpr rfl
  obj := fun i h st b hb => by
    obtain rfl : b = it := List.mem_singleton.mp hb
    obtain ⟨_, _, e⟩ := st
    exact ⟨_, e, fun _ z => nomatch z⟩
  keep := fun i h h' ⟨ok, ov, e⟩ k => ⟨ok, ov, k it (List.mem_singleton.mpr rfl) _ e⟩
  item := by
    intro X hP hw hK hc i pins s σ H E I hf st ⟨hd, hi⟩
    subst hP hw hK
    obtain ⟨hs, hgd, hx, es', ep', hdt, hsz, ent⟩ := inv_frzTV I hd
    obtain ⟨rfl, rfl⟩ := dict_ep hod hdt
    have hkv : kvs[i]? = some (kvs[i].1, kvs[i].2) := List.getElem?_eq_getElem hi
    obtain ⟨en, q, hen, hkey, hq, ru⟩ := ent i _ _ hkv
    have hi' : i < es'.size := by omega
    have een : es'[i] = en := by
      rw [Array.getElem?_eq_getElem hi'] at hen
      exact Option.some.inj hen
    obtain ⟨ok, ov, he⟩ := st
    rw [← hsz] at he
    have lt : it < s.heap.objs.size := Heap.lt_size he
    refine DT.nextI he ⟨o, hgd, hx, hdt⟩ hi' fun h1 ho hT hz hk => ?_
    rw [een] at ho hT
    refine ⟨_, rfl, wpAny_letOwnedTupleGo_items (s := { s with heap := h1 }) ho fun h2 he2 sb => ?_⟩
    have hT2 := (sb.2 _ (Nat.ne_of_gt lt)).trans hT
    have new : ObjOk X.prog X.w (upd H s.heap.objs.size (.tup [.ref q, kvs[i].2])) h2 s.heap.objs.size (.tup [.ref q, kvs[i].2]) :=
      ⟨by show 2 ≤ sizeLine; decide, [en.key, en.val], .cons (show RelV (.ref q) en.key from hkey) (.cons ru .nil), ⟨_, hT2, rfl, _, rfl⟩⟩
    have I1 := I.turnedNew (t' := s.toks) (ch := [it]) (fun b ob hb e => (sb.2 b (fun z => hb (List.mem_singleton.mpr z))).trans (hk b ob (fun z => hb (List.mem_singleton.mpr z)) e)) hf (Nat.le_refl _) new
    refine ⟨.ref s.heap.objs.size, _, I1, rfl, ⟨_, _, _, q, hkv, hq, rfl, I.hok.fresh (Nat.le_refl _), rfl⟩, ⟨en.key, en.val, ?_⟩, fun b hb => ?_⟩
    · rw [← hsz]
      exact he2
    · obtain rfl : b = it := List.mem_singleton.mp hb
      rw [upd_ne (Nat.ne_of_lt lt)]
      exact (hf b hb).1
  done := by
    intro X hP hw hK hc i pins s σ H E I hf st ⟨hd, hi⟩
    subst hP hw hK
    obtain ⟨f0, f1, f2, f3, f4, f5⟩ := hf it (List.mem_singleton.mpr rfl)
    obtain ⟨hs, hgd, hx, es', ep', hdt, hsz, ent⟩ := inv_frzTV I hd
    obtain ⟨rfl, rfl⟩ := dict_ep hod hdt
    obtain ⟨ok, ov, he⟩ := st
    rw [← hsz] at he
    exact DT.endI (I.ok.hd hc) he ⟨o, hgd, hx, hdt⟩ (by omega) fun h1 eb => ⟨rfl, I.turned (t' := s.toks) (fun b ob hb e => eb b ob hb e) f0 f1 f3 f4 f5⟩
  self := fun A i s Q E ⟨_, _, e⟩ h => PySem.W.kcp_self e h
end
def iItemsT (td : TE) : TI := fun σ H R => td σ H fun x H1 => ∃ d o kvs, x = .ref d ∧ H1 d = some (.frz o (.dT kvs)) ∧ R (ItiT d o kvs) H1
section
variable {X : Cx} {e : Expr} {td : TE} {apos cpos : Pos}
theorem pi_itemsT {elts : List Expr} {kk : Nat} {tpos : Pos} (he : PE X e td) (hbase : attributeBase e "items" X.env (eval e X.env) = eval e X.env := by rfl) (hline : (apos.endLine == cpos.line) = true := by rfl) :
    PI X (.Tuple elts kk tpos) (.Call (.Attribute e "items" apos) [] [] cpos) (iItemsT td) := by
  refine ⟨fun pins s σ H R I h => ?_⟩
  refine wpAny_Call_method (T := "dict") (id := "dict.items") hbase rfl hline F.plainAttrs_dict F.slot_dict_items F.type_dict_items (thn (he.run pins s σ H _ I h) fun u s1 ⟨x, H1, I1, rx, d, o, kvs, ex, hd, q⟩ => ?_)
  subst ex
  obtain rfl : u = Value.ref d := rx
  obtain ⟨hs, hgd, hx, es, ep, hdt, hsz, ent⟩ := inv_frzTV I1 hd
  have raw : DT.Raw s1.heap d es ep := ⟨o, hgd, hx, hdt⟩
  refine ⟨raw.typeIs, fun b z => ?_, ?_⟩
  · cases z
    exact ⟨o, hgd, hx.2.1⟩
  have I2 : Inv X pins σ H1 { s1 with heap := s1.heap.push { cls := .type "dict_items", data := .fields #[.ref d] } } := I1.kept (t' := s1.toks) fun b ob q => Heap.get?_push_of_some _ q
  have fin : wpAny (model X.prog X.w) X.A (pyIter (.ref s1.heap.objs.size)) (PIE X pins σ (.Tuple elts kk tpos) R) X.xe { s1 with heap := s1.heap.push { cls := .type "dict_items", data := .fields #[.ref d] } } := by
    refine DT.iterI (d := d) ⟨_, Heap.get?_push_size _ rfl, rfl, rfl⟩ (raw.push _) (pi_one (tk := s1.toks) I2 _ (turn_itemsT _ hdt) ⟨.none, .none, ?_⟩ q)
    rw [← hsz]
    exact Heap.get?_push_size _ rfl
  show wpAny _ _ (callWith cpos (.builtin "dict.items") [.ref d] [] []) _ X.xe s1
  exact method_meetsIn F.slot_dict_items F.entry_dict_items rfl (PySem.evalArgs_none ⟨rfl, raw.typeIs, F.args_dict_items_1 _, _, DT.meetsItems (es := es) (ep := ep) hs, raw, fin⟩)
end
/-! ### is a dict with tuple keys empty? -/
section
variable {prog : Program} {w : World} {K : Type} [DecidableEq K] {knd : HeapKind prog w K} {A : Around} {E : Value → Shared → Prop} {s : Shared}
theorem truthy_dictH {d : Addr} {xs : List (K × Addr × Value)} {Q : Bool → Shared → Prop} (hd : (d == sysModules) = false) (hm : s.heap.DictOfH knd d xs) (hfit : (xs.length : Int) < 2 ^ 63)
    (h : ∀ t, Q (!xs.isEmpty) { s with toks := t }) : wpAny (model prog w) A (truthy (.ref d)) Q E s := by
  have hne : ((xs.length : Int) != 0) = !xs.isEmpty := by cases xs <;> simp <;> omega
  have key : wpAny (model prog w) A (runValue (.builtin "len" ⟨[.ref d], []⟩)) (fun r s' => r = .int xs.length (s.toks + 1) ∧ Q (!xs.isEmpty) s') E s := by
    refine wpAny_runValue (codeAny_builtin entry_len ?_)
    rw [Around.under_plainId plain_len _]
    exact wpAny_mono (wpAny_len_body_dictH (Q := fun r s' => r = .int xs.length (s.toks + 1) ∧ Q (!xs.isEmpty) s') hd hm hfit ⟨rfl, h _⟩)
      (fun fin s' ⟨r, e, hq⟩ => by subst e; exact hq) fun _ _ e => e
  unfold truthy
  first
    | refine wpAny_bind (wpAny_callSpecial?_none (name := Str.ofString "__bool__") hm.typeIs noBool_dict ?_)
    | refine wpAny_bind (wpAny_pure (wpAny_bind (wpAny_callSpecial?_none (name := Str.ofString "__bool__") hm.typeIs noBool_dict ?_)))
  first
    | refine wpAny_bind (wpAny_specialOf (name := Str.ofString "__len__") hm.typeIs F.slot_dict_len.lookup ?_)
    | refine wpAny_bind (wpAny_pure (wpAny_bind (wpAny_specialOf (name := Str.ofString "__len__") hm.typeIs F.slot_dict_len.lookup ?_)))
  first
    | exact wpAny_bind (wpAny_mono key (fun r s' ⟨e, hq⟩ => by subst e; exact wpAny_pure (hne ▸ hq)) fun _ _ e => e)
    | exact wpAny_bind (wpAny_pure (wpAny_bind (wpAny_mono key (fun r s' ⟨e, hq⟩ => by subst e; exact wpAny_pure (hne ▸ hq)) fun _ _ e => e)))
end
def rTruT : V → Hp → (Bool → Hp → Prop) → Prop := fun x H Q => ∃ (p : Addr) (kvs : List (List Key × V)), x = .ref p ∧ H p = some (.dT kvs) ∧ Q (!kvs.isEmpty) H
section
variable {X : Cx}
theorem tru_dT : TruR X rTruT := by
  intro pins s σ H x v Q I rx h
  obtain ⟨p, kvs, rfl, hp, q⟩ := h
  obtain rfl : v = .ref p := rx
  obtain ⟨z, hd, ys, rel, dd⟩ := dt_of I.hok hp
  have hl : kvs.length = ys.length := Paired.length rel
  have he : kvs.isEmpty = ys.isEmpty := by cases rel <;> rfl
  refine truthy_dictH hd dd (by rw [← hl]; rw [sizeLine_eq] at z; omega) fun t => ?_
  rw [← he]
  exact ⟨H, I.tok _, q⟩
/-! ### xs.extend(a list or a tuple) -/
theorem extend_tuple (l : Addr) (items : Array Value) (n : Nat) (b : Addr) (more : Array Value) (door : ¬ (!items.isEmpty && Builtin.List.listTooLong (items.size + more.size)) = true) (fits : items.size ≤ sizeLine) (both : items.size + more.size ≤ sizeLine + 1) :
    Meets (Builtin.«list.extend» ⟨[.ref l, .ref b], []⟩) (fun _ R s => s.heap.get? l = some { cls := .type "list", dict := none, data := .seq items n, slots := #[] } ∧ IsTup s.heap b more ∧
      R (.ok (.ret Value.none)) { s with heap := s.heap.update l (Obj.mapSeq fun x => x ++ more), toks := s.toks }) :=
  .of_wp fun prog w A R s ⟨hl, ⟨⟨cl, dd, data, sl⟩, hb, hcl, n2, hd⟩, h⟩ => by
    obtain ⟨hp, g, d, tk, os⟩ := s
    simp only at hcl hd
    subst hcl hd
    have f1 := F.sub_tuple_tuple
    have f2 := F.sub_list_list
    have f3 := F.sub_tuple_list
    have f4 := F.sub_list_tuple
    have all : (items ++ more).size ≤ sizeLine + 1 := by rw [Array.size_append]; exact both
    wp_walk using (wpAny_updateSeq hl rfl (hz := fits) (_hz' := all)), wpAny_loadPart' hl, wpAny_loadPart' hb
    exact ⟨_, rfl, h⟩
def rExtendS : V → List V → Hp → VK → Prop := fun x vs H Q => ∃ l b xs zs, x = .ref l ∧ vs = [.ref b] ∧ H l = some (.lst xs) ∧ (H b = some (.lst zs) ∨ H b = some (.tup zs)) ∧ xs.length + zs.length ≤ sizeLine ∧ Q .non (upd H l (.lst (xs ++ zs)))
theorem mt_extendS : MtM X "list.extend" rExtendS := by
  intro pins s σ H x vs v us Q I rx rv h
  obtain ⟨l, b, xs, zs, rfl, rfl, hH, hB | hB, hz, q⟩ := h
  · exact mt_extend pins s σ H _ _ v us Q I rx rv ⟨l, b, xs, zs, rfl, rfl, hH, hB, hz, q⟩
  cases rx
  obtain ⟨u, rfl, ru⟩ := rv.one
  cases ru
  obtain ⟨z, its, n, r, hl, e⟩ := I.lstM hH
  obtain ⟨z2, its2, r2, tup⟩ := I.hok b _ hB
  have hl2 := r2.length
  have hsz : its.toArray.size + its2.toArray.size ≤ sizeLine := by rw [List.size_toArray, List.size_toArray]; omega
  have door : ¬ (!its.toArray.isEmpty && Builtin.List.listTooLong (its.toArray.size + its2.toArray.size)) = true := by
    rw [notLongL hsz, Bool.and_false]
    exact Bool.false_ne_true
  refine call_meets F.slot_list_extend ⟨_, e, rfl⟩ F.entry_list_extend (F.args_list_extend_2 _ _) (extend_tuple l its.toArray n b its2.toArray door (by rw [List.size_toArray]; omega) (by omega)) ⟨e, tup, ?_⟩
  refine ⟨.non, _, I.lset (its' := its ++ its2) hH e (by simp) (r.append r2) ?_, rfl, q⟩
  rw [List.length_append]
  omega
end
end Tr
set_option maxRecDepth 100000
set_option maxHeartbeats 4000000
namespace Tr
open PySem PySem.Spec PyProof.Rows L2
/-! ### the text by places -/
def top (i : Nat) : Stmt := PySem.Challenge.pw_treadles_s01_answers.main.body.getD i (.Pass ⟨0, 0, 0, 0⟩)
abbrev sWays : Stmt := top 1
abbrev sLonger : Stmt := top 2
abbrev sLifted : Stmt := top 3
abbrev sLInit : Stmt := inClass (top 11) 0
abbrev sBegin : Stmt := inClass (top 11) 1
abbrev sAdd : Stmt := inClass (top 11) 2
abbrev sHas : Stmt := inClass (top 11) 3
abbrev sMay : Stmt := inClass (top 11) 4
abbrev sNeeded : Stmt := inClass (top 11) 5
abbrev sCounts : Stmt := inClass (top 11) 6
abbrev sNotIn : Stmt := inClass (top 11) 7
abbrev sPressed : Stmt := inClass (top 11) 8
abbrev sTInit : Stmt := inClass (top 13) 0
abbrev sWith : Stmt := inClass (top 13) 1
abbrev sNotMade : Stmt := inClass (top 13) 2
abbrev sMore : Stmt := inClass (top 13) 3
abbrev sLeast : Stmt := top 14
abbrev sLarger : Stmt := top 15
abbrev sDo : Stmt := top 16
abbrev sOInit : Stmt := inClass (top 18) 0
abbrev sPath : Stmt := inClass (top 18) 1
abbrev sShort : Stmt := top 19
abbrev sOnward : Stmt := top 20
abbrev sGone : Stmt := top 21
abbrev sPlaces : Stmt := top 22
abbrev sRInit : Stmt := inClass (top 33) 0
abbrev sEnd : Stmt := inClass (top 33) 1
abbrev sNum : Stmt := inClass (top 33) 2
abbrev sList : Stmt := inClass (top 33) 3
abbrev sAns : Stmt := top 34
abbrev sNext : Stmt := top 35
abbrev sFewest : Stmt := top 36
abbrev sPress : Stmt := top 37
abbrev sWalk : Stmt := top 38
abbrev sFeet : Stmt := top 39
abbrev sRows : Stmt := top 40
/-! ### the data -/
def iv (l : List Int) : List V := l.map V.int
def nv (l : List Nat) : List V := iv (asInts l)
theorem iv_len (l : List Int) : (iv l).length = l.length := List.length_map ..
theorem nv_len (l : List Nat) : (nv l).length = l.length := (iv_len _).trans (asInts_len l)
theorem iv_app (a b : List Int) : iv (a ++ b) = iv a ++ iv b := List.map_append ..
theorem asInts_app (a b : List Nat) : asInts (a ++ b) = asInts a ++ asInts b := List.map_append ..
theorem nv_app (a b : List Nat) : nv (a ++ b) = nv a ++ nv b := (congrArg iv (asInts_app a b)).trans (iv_app _ _)
theorem nv_at {l : List Nat} {i : Nat} {y : V} (h : (nv l)[i]? = some y) : ∃ x, l[i]? = some x ∧ y = .int (x : Int) := by
  unfold nv iv asInts at h
  rw [List.map_map, List.getElem?_map] at h
  cases e : l[i]? with
  | none => rw [e] at h; cases h
  | some x => rw [e] at h; exact ⟨x, rfl, (Option.some.inj h).symm⟩
theorem iv_at {l : List Int} {i : Nat} {y : V} (h : (iv l)[i]? = some y) : ∃ x, l[i]? = some x ∧ y = .int x := by
  unfold iv at h
  rw [List.getElem?_map] at h
  cases e : l[i]? with
  | none => rw [e] at h; cases h
  | some x => rw [e] at h; exact ⟨x, rfl, (Option.some.inj h).symm⟩
/-- a loom's fields, its list of picks at l -/
def lF (s : Nat) (l : Addr) : List (Str × V) := [("shafts", .int (s : Int)), ("picked", .ref l)]
/-- a reader's fields: the list at a, its place -/
def rF (a : Addr) (p : Nat) : List (Str × V) := [("numbers", .ref a), ("place", .int (p : Int))]
theorem lk_here {k : Str} {v : V} {r : List (Str × V)} : List.lookup k ((k, v) :: r) = some v := by
  have e : (k == k) = true := beq_self_eq_true k
  simp only [List.lookup, e]
theorem lk_past {k g : Str} {v : V} {r : List (Str × V)} (h : (k == g) = false) : List.lookup k ((g, v) :: r) = List.lookup k r := by
  simp only [List.lookup, h]
theorem put_here {f : Str} {v x : V} {r : List (Str × V)} : putF f v ((f, x) :: r) = (f, v) :: r := if_pos rfl
theorem put_past {f g : Str} {v x : V} {r : List (Str × V)} (h : ¬ g = f) : putF f v ((g, x) :: r) = (g, x) :: putF f v r := if_neg h
theorem lF_shafts (s : Nat) (l : Addr) : (lF s l).lookup ("shafts" : Str) = some (.int (s : Int)) := lk_here
theorem lF_picked (s : Nat) (l : Addr) : (lF s l).lookup ("picked" : Str) = some (.ref l) := (lk_past (by decide +kernel)).trans lk_here
theorem rF_numbers (a : Addr) (p : Nat) : (rF a p).lookup ("numbers" : Str) = some (.ref a) := lk_here
theorem rF_place (a : Addr) (p : Nat) : (rF a p).lookup ("place" : Str) = some (.int (p : Int)) := (lk_past (by decide +kernel)).trans lk_here
theorem lF_not {s : Nat} {l : Addr} {k : Str} (h1 : (k == ("shafts" : Str)) = false) (h2 : (k == ("picked" : Str)) = false) : (lF s l).lookup k = none := (lk_past h1).trans ((lk_past h2).trans rfl)
theorem rF_not {a : Addr} {p : Nat} {k : Str} (h1 : (k == ("numbers" : Str)) = false) (h2 : (k == ("place" : Str)) = false) : (rF a p).lookup k = none := (lk_past h1).trans ((lk_past h2).trans rfl)
theorem lF_put_shafts (s t : Nat) (l : Addr) : putF "shafts" (.int (t : Int)) (lF s l) = lF t l := put_here
theorem lF_put_picked (s : Nat) (l m : Addr) : putF "picked" (.ref m) (lF s l) = lF s m := (put_past (by decide +kernel)).trans (congrArg _ put_here)
theorem rF_put_place (a : Addr) (p q : Nat) : putF "place" (.int (q : Int)) (rF a p) = rF a q := (put_past (by decide +kernel)).trans (congrArg _ put_here)
theorem lF_new (l : Addr) : putF "picked" (.ref l) (putF "shafts" (.int 1) []) = lF 1 l := (put_past (by decide +kernel)).trans rfl
theorem rF_new (a : Addr) : putF "place" (.int 0) (putF "numbers" (.ref a) []) = rF a 0 := (put_past (by decide +kernel)).trans rfl
/-- a loom m stands at x, its picks in the list at l -/
structure LmAt (C : Addr) (H : Hp) (x l : Addr) (m : Sw87.Loom) : Prop where
  ob : ∃ dx, H x = some (.ins C dx (lF m.shafts l))
  li : H l = some (.lst (nv m.picks))
/-- a reader stands at r, at place p of the list at a -/
def RdAt (C : Addr) (H : Hp) (r a : Addr) (p : Nat) : Prop := ∃ dx, H r = some (.ins C dx (rF a p))
/-- all but what stands at x and y is as it was -/
def But (H H' : Hp) (x y : Addr) : Prop := ∀ b o, H b = some o → b ≠ x → b ≠ y → H' b = some o
theorem But.of_same {H H' : Hp} {x y : Addr} (s : Same H H') : But H H' x y := fun b o e _ _ => s b o e
theorem But.seq {K : PySem.W.Frag} {H H' : Hp} {x y a : Addr} {xs : List V} (k : But H H' x y) (h : SqL K H a xs) (h1 : a ≠ x) (h2 : a ≠ y) : SqL K H' a xs := by
  rcases h with (h | ⟨o, h⟩) | h
  · exact .inl (.inl (k _ _ h h1 h2))
  · exact .inl (.inr ⟨o, k _ _ h h1 h2⟩)
  · exact .inr h
/-- the list ns is to be read at a, and what is written at the places of bad leaves it -/
def Far (K : PySem.W.Frag) (H : Hp) (a : Addr) (ns : List Int) (bad : List Addr) : Prop := SqL K (fun _ => none) a (iv ns) ∨ (SqL K H a (iv ns) ∧ ∀ b ∈ bad, a ≠ b)
theorem Far.seq {K : PySem.W.Frag} {H : Hp} {a : Addr} {ns : List Int} {bad : List Addr} (F : Far K H a ns bad) : SqL K H a (iv ns) := by
  rcases F with h | h
  · exact Same.seq (H := fun _ => none) (fun b o e => nomatch e) h
  · exact h.1
theorem Far.step {K : PySem.W.Frag} {H H' : Hp} {a : Addr} {ns : List Int} {bad : List Addr} (F : Far K H a ns bad) (k : ∀ b o, H b = some o → (∀ z ∈ bad, b ≠ z) → H' b = some o) : Far K H' a ns bad := by
  rcases F with h | ⟨h, n⟩
  · exact .inl h
  · rcases h with (h | ⟨o, h⟩) | h
    · exact .inr ⟨.inl (.inl (k _ _ h n)), n⟩
    · exact .inr ⟨.inl (.inr ⟨o, k _ _ h n⟩), n⟩
    · exact .inl (.inr h)
theorem Far.less {K : PySem.W.Frag} {H : Hp} {a : Addr} {ns : List Int} {bad bad' : List Addr} (F : Far K H a ns bad) (s : ∀ b ∈ bad', b ∈ bad) : Far K H a ns bad' := by
  rcases F with h | ⟨h, n⟩
  · exact .inl h
  · exact .inr ⟨h, fun b hb => n b (s b hb)⟩
/-- new places stand apart, too -/
theorem Far.new {K : PySem.W.Frag} {H : Hp} {a : Addr} {ns : List Int} {bad bad' : List Addr} (F : Far K H a ns bad) (s : ∀ b ∈ bad', b ∈ bad ∨ H b = none) : Far K H a ns bad' := by
  rcases F with h | ⟨h, n⟩
  · exact .inl h
  · rcases id h with (h' | ⟨o, h'⟩) | h'
    · exact .inr ⟨h, fun b hb => (s b hb).elim (n b) fun e => ne_of_none h' e⟩
    · exact .inr ⟨h, fun b hb => (s b hb).elim (n b) fun e => ne_of_none h' e⟩
    · exact .inl (.inr h')
theorem Far.start {K : PySem.W.Frag} {H : Hp} {a : Addr} {ns : List Int} (h : SqL K H a (iv ns)) : Far K H a ns [] := .inr ⟨h, fun b hb => nomatch hb⟩
/-! ### lists of things -/
/-- each address holds its thing -/
structure Each {α : Type} (R : Hp → Addr → α → Prop) (H : Hp) (as : List Addr) (ls : List α) : Prop where
  len : as.length = ls.length
  each : ∀ (i : Nat) (a : Addr) (l : α), as[i]? = some a → ls[i]? = some l → R H a l
/-- at p a list of such -/
def ListOf {α : Type} (R : Hp → Addr → α → Prop) (H : Hp) (p : Addr) (ls : List α) : Prop := ∃ as : List Addr, H p = some (.lst (as.map V.ref)) ∧ Each R H as ls
/-- what stands stays: so does the thing -/
def Stays {α : Type} (R : Hp → Addr → α → Prop) : Prop := ∀ (H H' : Hp) (a : Addr) (l : α), Same H H' → R H a l → R H' a l
/-- the heap without what stands in B -/
def Off (H B : Hp) : Hp := fun b => match B b with
  | some _ => none
  | none => H b
theorem off_at {H B : Hp} {b : Addr} {o : HO} (h : Off H B b = some o) : B b = none ∧ H b = some o := by
  unfold Off at h
  cases e : B b with
  | some _ => rw [e] at h; cases h
  | none => rw [e] at h; exact ⟨rfl, h⟩
theorem off_of {H B : Hp} {b : Addr} {o : HO} (h1 : B b = none) (h2 : H b = some o) : Off H B b = some o := by
  unfold Off
  rw [h1]
  exact h2
theorem off_same {H B : Hp} : Same (Off H B) H := fun _ _ h => (off_at h).2
theorem off_mono {H H' B : Hp} (s : Same H H') : Same (Off H B) (Off H' B) := fun b o h => off_of (off_at h).1 (s b o (off_at h).2)
theorem off_less {H B B' : Hp} (s : ∀ b, B b = none → B' b = none) : Same (Off H B) (Off H B') := fun b o h => off_of (s b (off_at h).1) (off_at h).2
theorem off_upd {H B : Hp} {D : Addr} {o u : HO} (h : B D = some u) : Off (upd H D o) B = Off H B := by
  funext b
  unfold Off
  cases e : B b with
  | some _ => rfl
  | none => exact upd_ne fun z => by rw [z, h] at e; cases e
theorem free_of {H B : Hp} (s : Same B H) {b : Addr} (h : H b = none) : B b = none := by
  cases e : B b with
  | none => rfl
  | some o => rw [s b o e] at h; cases h
section
variable {α : Type} {R : Hp → Addr → α → Prop} {H H' : Hp} {as bs : List Addr} {ls ms : List α}
theorem Each.nil : Each R H [] [] := ⟨rfl, fun i a l h => nomatch h⟩
theorem Each.mono (E : Each R H as ls) (st : Stays R) (s : Same H H') : Each R H' as ls := ⟨E.len, fun i a l h1 h2 => st _ _ _ _ s (E.each i a l h1 h2)⟩
theorem Each.app (E : Each R H as ls) (F : Each R H bs ms) : Each R H (as ++ bs) (ls ++ ms) := by
  refine ⟨by rw [List.length_append, List.length_append, E.len, F.len], fun i a l h1 h2 => ?_⟩
  by_cases c : i < as.length
  · rw [List.getElem?_append_left c] at h1
    rw [List.getElem?_append_left (E.len ▸ c)] at h2
    exact E.each i a l h1 h2
  · rw [List.getElem?_append_right (by omega)] at h1
    rw [List.getElem?_append_right (by have := E.len; omega), ← E.len] at h2
    exact F.each _ a l h1 h2
theorem Each.one {a : Addr} {l : α} (h : R H a l) : Each R H [a] [l] := by
  refine ⟨rfl, fun i b m h1 h2 => ?_⟩
  cases i with
  | zero => cases h1; cases h2; exact h
  | succ i => cases h1
theorem Each.snoc {a : Addr} {l : α} (E : Each R H as ls) (h : R H a l) : Each R H (as ++ [a]) (ls ++ [l]) := E.app (.one h)
theorem Each.get (E : Each R H as ls) {i : Nat} {a : Addr} (h : as[i]? = some a) : ∃ l, ls[i]? = some l ∧ R H a l := by
  have lt : i < ls.length := E.len ▸ (List.getElem?_eq_some_iff.mp h).1
  exact ⟨_, List.getElem?_eq_getElem lt, E.each i a _ h (List.getElem?_eq_getElem lt)⟩
theorem ListOf.mono {p : Addr} (L : ListOf R H p ls) (st : Stays R) (s : Same H H') : ListOf R H' p ls := let ⟨as, h, E⟩ := L; ⟨as, s _ _ h, E.mono st s⟩
end
/-- what stands in B stands in H, too, as it may be -/
def Cov (B H : Hp) : Prop := ∀ b, H b = none → B b = none
theorem Cov.of_same {B H : Hp} (s : Same B H) : Cov B H := fun _ h => free_of s h
theorem Cov.trans {B H H' : Hp} (c : Cov B H) (d : Cov H H') : Cov B H' := fun b h => c b (d b h)
theorem Cov.same {B H H' : Hp} (c : Cov B H) (s : Same H H') : Cov B H' := c.trans (.of_same s)
theorem Cov.more {B H : Hp} {D : Addr} {o u : HO} (c : Cov B H) (h : H D = some u) : Cov (upd B D o) H := fun b e => by
  rw [upd_ne fun z => by rw [z, h] at e; cases e]
  exact c b e
theorem Cov.put {B H : Hp} {D : Addr} {o : HO} (c : Cov B H) : Cov B (upd H D o) := fun b e => c b (by
  by_cases z : b = D
  · rw [z, upd_same] at e; cases e
  · rw [upd_ne z] at e; exact e)
theorem Each.grow {α : Type} {R : Hp → Addr → α → Prop} (st : Stays R) {H H' B : Hp} {D : Addr} {o u : HO} {as bs : List Addr} {ls ms : List α} (E : Each R (Off H B) as ls) (BD : B D = some u) (s : Same H H') (F : Each R (Off H' B) bs ms) :
    Each R (Off (upd H' D o) B) (as ++ bs) (ls ++ ms) := by
  rw [off_upd BD]
  exact (E.mono st (off_mono s)).app F
theorem Stays.listOf {α : Type} {R : Hp → Addr → α → Prop} (st : Stays R) : Stays (ListOf R) := fun _ _ _ _ s L => L.mono st s
theorem ref_at {as : List Addr} {i : Nat} {y : V} (h : (as.map V.ref)[i]? = some y) : ∃ a, as[i]? = some a ∧ y = .ref a := by
  rw [List.getElem?_map] at h
  cases e : as[i]? with
  | none => rw [e] at h; cases h
  | some a => rw [e] at h; exact ⟨a, rfl, (Option.some.inj h).symm⟩
theorem refs_snoc (as : List Addr) (a : Addr) : as.map V.ref ++ [.ref a] = (as ++ [a]).map V.ref := by rw [List.map_append]; rfl
/-- a row: a list of numbers, or a tuple -/
def RowR (H : Hp) (a : Addr) (l : List Nat) : Prop := H a = some (.lst (nv l)) ∨ H a = some (.tup (nv l))
theorem rowR_stays : Stays RowR := fun _ _ _ _ s h => h.imp (s _ _) (s _ _)
/-- a list of numbers -/
def LstR (H : Hp) (a : Addr) (l : List Nat) : Prop := H a = some (.lst (nv l))
theorem lstR_stays : Stays LstR := fun _ _ _ _ s h => s _ _ h
abbrev RowsAt (H : Hp) (p : Addr) (ls : List (List Nat)) : Prop := ListOf RowR H p ls
theorem Each.rows {H : Hp} {as : List Addr} {ls : List (List Nat)} (E : Each LstR H as ls) : Each RowR H as ls := ⟨E.len, fun i a l h1 h2 => .inl (E.each i a l h1 h2)⟩
theorem ListOf.rows {H : Hp} {p : Addr} {ls : List (List Nat)} (L : ListOf LstR H p ls) : RowsAt H p ls := let ⟨as, h, E⟩ := L; ⟨as, h, E.rows⟩
/-- rows in one row, each behind its length -/
def flat (ls : List (List Nat)) : List Int := ls.flatMap fun w => (w.length : Int) :: asInts w
theorem said_eq (a : Sw87.Ans) : said a = a.v :: flat a.l := rfl
theorem flat_snoc (ls : List (List Nat)) (w : List Nat) : flat (ls ++ [w]) = flat ls ++ ((w.length : Int) :: asInts w) := by
  unfold flat
  rw [List.flatMap_append, List.flatMap_cons, List.flatMap_nil, List.append_nil]
/-! ### what the top has written -/
structure Txt (K : PySem.W.Frag) (mg : Str → Option Value) (CL CT CO CR : Addr) : Prop where
  clL : Cls K CL
  clT : Cls K CT
  clO : Cls K CO
  clR : Cls K CR
  nShafts : NoAttr K CL "shafts"
  nPicked : NoAttr K CL "picked"
  nTies : NoAttr K CT "ties"
  nMade : NoAttr K CT "made"
  nDist : NoAttr K CO "distance"
  nWays : NoAttr K CO "ways"
  nFoll : NoAttr K CO "following"
  nBeyond : NoAttr K CO "beyond"
  nNumbers : NoAttr K CR "numbers"
  nPlace : NoAttr K CR "place"
  gLoom : mg "Loom" = some (.ref CL)
  gTieUp : mg "TieUp" = some (.ref CT)
  gOnward : mg "Onward" = some (.ref CO)
  gReader : mg "Reader" = some (.ref CR)
  gMostS : ∃ t, mg "MOST_SHAFTS" = some (.int 4 t)
  gMostP : ∃ t, mg "MOST_PICKS" = some (.int 40 t)
  gMostT : ∃ t, mg "MOST_TREADLES" = some (.int 8 t)
  gOut : ∃ t, mg "OUT_OF_RANGE" = some (.int (-1) t)
  gMany : ∃ t, mg "TOO_MANY_PICKS" = some (.int (-5) t)
  gNotM : ∃ t, mg "NOT_MADE" = some (.int (-6) t)
  gBegins : ∃ t, mg "BEGINS" = some (.int 0 t)
  gPicks : ∃ t, mg "PICKS" = some (.int 1 t)
  gLifts : ∃ t, mg "LIFTS" = some (.int 2 t)
  gFewest : ∃ t, mg "FEWEST" = some (.int 3 t)
  gPress : ∃ t, mg "PRESS" = some (.int 4 t)
  gWalk : ∃ t, mg "WALK" = some (.int 5 t)
  gMostF : ∃ t, mg "MOST_FEET" = some (.int 3 t)
  gWalkF : ∃ t, mg "WALKING_FEET" = some (.int 2 t)
  len : mg "len" = none
  sorted : mg "sorted" = none
  set : mg "set" = none
  range : mg "range" = none
  min : mg "min" = none
  abs : mg "abs" = none
  all : mg "all" = none
  sum : mg "sum" = none
  dict : mg "dict" = none
  enumerate : mg "enumerate" = none
  reversed : mg "reversed" = none
/-! ### a loom that the calls can make -/
structure Good (m : Sw87.Loom) : Prop where
  lo : 1 ≤ m.shafts
  hi : m.shafts ≤ 4
  few : m.picks.length ≤ 40
  ok : ∀ b ∈ m.picks, b < 2 ^ m.shafts
theorem good_init : Good Sw87.init := ⟨Nat.le_refl _, by decide, by decide, fun b hb => nomatch hb⟩
/-! ### the promises -/
def spLInit (C : Addr) : Sp := fun vs H Q _ => ∃ (p dx : Addr), vs = [.ref p] ∧ H p = some (.ins C dx []) ∧
  ∀ (H' : Hp) (l : Addr), H l = none → LmAt C H' p l Sw87.init → (∀ b o, H b = some o → b ≠ p → H' b = some o) → Q .non H'
def spBegin (C : Addr) : Sp := fun vs H Q _ => ∃ (x l : Addr) (m : Sw87.Loom) (n : Nat), vs = [.ref x, .int (n : Int)] ∧ LmAt C H x l m ∧
  ∀ (H' : Hp) (l' : Addr), (l' = l ∨ H l' = none) → LmAt C H' x l' (Sw87.step m (.begins n)).1 → But H H' x l → Q (.int (Sw87.step m (.begins n)).2.v) H'
def spHas (C : Addr) : Sp := fun vs H Q _ => ∃ (x l b : Addr) (m : Sw87.Loom) (t : List Nat), vs = [.ref x, .ref b] ∧ LmAt C H x l m ∧ H b = some (.lst (nv t)) ∧ Q (.bl (m.liftsOk t)) H
def spAdd (C : Addr) : Sp := fun vs H Q _ => ∃ (x l b : Addr) (m : Sw87.Loom) (t : List Nat), vs = [.ref x, .ref b] ∧ LmAt C H x l m ∧ H b = some (.lst (nv t)) ∧ m.picks.length ≤ 40 ∧ t.length ≤ 40 ∧
  ∀ (H' : Hp), LmAt C H' x l (Sw87.step m (.picks t)).1 → But H H' x l → Q (.int (Sw87.step m (.picks t)).2.v) H'
def spMay (C : Addr) : Sp := fun vs H Q _ => ∃ (x l b : Addr) (m : Sw87.Loom) (t : List Nat), vs = [.ref x, .ref b] ∧ LmAt C H x l m ∧ H b = some (.lst (nv t)) ∧ Q (.bl (decide (t.length ≤ 8) && m.liftsOk t)) H
def spNeeded (C : Addr) : Sp := fun vs H Q _ => ∃ (x l : Addr) (m : Sw87.Loom), vs = [.ref x] ∧ LmAt C H x l m ∧ Good m ∧
  ∀ (H' : Hp) (q : Addr), Same H H' → H q = none → H' q = some (.lst (nv m.lifts)) → Q (.ref q) H'
def spCounts (C : Addr) : Sp := fun vs H Q _ => ∃ (x l : Addr) (m : Sw87.Loom), vs = [.ref x] ∧ LmAt C H x l m ∧ Good m ∧
  ∀ (H' : Hp) (p : Addr), Same H H' → RowsAt H' p (Sw87.step m .lifts).2.l → Q (.ref p) H'
/-- what a dict of ways tells: of each lift its way -/
def WaysAt (H : Hp) (d : Addr) (f : Nat → Option (List Nat)) : Prop := ∃ kvs : List (Key × V), H d = some (.dK kvs) ∧ ∀ b : Nat, (f b = none → valV kvs (.inl (b : Int)) = none) ∧ ∀ p, f b = some p → ∃ a, valV kvs (.inl (b : Int)) = some (.ref a) ∧ LstR H a p
/-- the first that isn't told -/
def notIn (f : Nat → Option (List Nat)) (l : List Nat) : Option Nat := l.findIdx? fun b => (f b).isNone
def natOr : Option Nat → V
  | none => .non
  | some i => .int (i : Int)
def spNotIn (C : Addr) : Sp := fun vs H Q _ => ∃ (x l d : Addr) (m : Sw87.Loom) (f : Nat → Option (List Nat)), vs = [.ref x, .ref d] ∧ LmAt C H x l m ∧ WaysAt H d f ∧ ∀ H', Same H H' → Q (natOr (notIn f m.picks)) H'
def spPressed (C : Addr) : Sp := fun vs H Q _ => ∃ (x l d : Addr) (m : Sw87.Loom) (f : Nat → Option (List Nat)) (ps : List (List Nat)), vs = [.ref x, .ref d] ∧ LmAt C H x l m ∧ m.picks.length ≤ 40 ∧ WaysAt H d f ∧ m.picks.mapM f = some ps ∧
  ∀ (H' : Hp) (q : Addr), Same H H' → H q = none → ListOf LstR H' q ps → Q (.ref q) H'
/-! pressing -/
def spLifted : Sp := fun vs H Q _ => ∃ (a b : Addr) (p t : List Nat), vs = [.ref a, .ref b] ∧ LstR H a p ∧ LstR H b t ∧ (∀ i ∈ p, i < t.length) ∧ Q (.int (lifted t p : Nat)) H
def spLonger : Sp := fun vs H Q _ => ∃ (a : Addr) (n : Nat) (ls : List (List Nat)), vs = [.ref a, .int (n : Int)] ∧ ListOf LstR H a ls ∧ n ≤ 8 ∧ (∀ p ∈ ls, p.length ≤ 8 ∧ ∀ i ∈ p, i < n) ∧ (ls.flatMap (grow 0 n)).length ≤ 1000 ∧
  ∀ (H' : Hp) (q : Addr), Same H H' → H q = none → ListOf LstR H' q (ls.flatMap (grow 0 n)) → Q (.ref q) H'
def spWays : Sp := fun vs H Q _ => ∃ (b : Addr) (f : Nat) (t : List Nat), vs = [.ref b, .int (f : Int)] ∧ LstR H b t ∧ t.length ≤ 8 ∧ f ≤ 3 ∧
  ∀ (H' : Hp) (d : Addr), Same H H' → WaysAt H' d (Sw87.made t f) → Q (.ref d) H'
/-! the fewest treadles -/
/-- a tie-up's fields -/
def tF (l d : Addr) : List (Str × V) := [("ties", .ref l), ("made", .ref d)]
/-- what a tie-up's dict holds: of each lift that c makes how few are pressed -/
structure MadeOk (feet : Nat) (c : List Nat) (kvs : List (Key × V)) : Prop where
  sound : ∀ kv ∈ kvs, ∃ (b v : Nat) (p : List Nat), kv = (.inl (b : Int), .int (v : Int)) ∧ v ≤ feet ∧ p.Sublist c ∧ p.length = v ∧ Sw87.union p = b
  full : ∀ p : List Nat, p.Sublist c → p.length ≤ feet → ∃ v : Nat, v ≤ p.length ∧ valV kvs (.inl (Sw87.union p : Nat)) = some (.int (v : Int))
  len : kvs.length ≤ 2 ^ c.length
/-- a tie-up of c -/
def TuAt (C : Addr) (feet : Nat) (H : Hp) (x : Addr) (c : List Nat) : Prop := ∃ (dx l d : Addr) (kvs : List (Key × V)), H x = some (.ins C dx (tF l d)) ∧ LstR H l c ∧ H d = some (.dK kvs) ∧ MadeOk feet c kvs
theorem tuAt_stays {C : Addr} {feet : Nat} : Stays (TuAt C feet) := fun _ _ _ _ s ⟨dx, l, d, kvs, h1, h2, h3, h4⟩ => ⟨dx, l, d, kvs, s _ _ h1, s _ _ h2, s _ _ h3, h4⟩
def spTInit (C : Addr) : Sp := fun vs H Q _ => ∃ (p dx l d : Addr), vs = [.ref p, .ref l, .ref d] ∧ H p = some (.ins C dx []) ∧ ∀ H', H' = upd H p (.ins C dx (tF l d)) → Q .non H'
def spWith (C : Addr) : Sp := fun vs H Q _ => ∃ (x : Addr) (tie feet : Nat) (c : List Nat), vs = [.ref x, .int (tie : Int), .int (feet : Int)] ∧ TuAt C feet H x c ∧ c.length ≤ 15 ∧
  ∀ (H' : Hp) (q : Addr), Same H H' → TuAt C feet (Off H' H) q (c ++ [tie]) → Q (.ref q) H'
def spNotMade (C : Addr) : Sp := fun vs H Q _ => ∃ (x b : Addr) (feet : Nat) (m : Sw87.Loom) (c : List Nat), vs = [.ref x, .ref b] ∧ TuAt C feet H x c ∧ LstR H b m.lifts ∧ Q (natOr (firstNot m feet c)) H
def spMore (C : Addr) : Sp := fun vs H Q _ => ∃ (x b : Addr) (feet : Nat) (m : Sw87.Loom) (c : List Nat), vs = [.ref x, .ref b, .int (feet : Int)] ∧ TuAt C feet H x c ∧ LstR H b m.lifts ∧ m.shafts ≤ 4 ∧ c.length ≤ 15 ∧ (∀ y ∈ c, y < 2 ^ m.shafts) ∧ firstNot m feet c ≠ none ∧
  ∀ (H' : Hp) (q : Addr) (as : List Addr), Same H H' → H q = none → H' q = some (.lst (as.map V.ref)) → Each (TuAt C feet) (Off H' H) as (wider m feet c) → Q (.ref q) H'
def spLarger (C : Addr) : Sp := fun vs H Q _ => ∃ (a b : Addr) (feet : Nat) (m : Sw87.Loom) (cs : List (List Nat)), vs = [.ref a, .ref b, .int (feet : Int)] ∧ ListOf (TuAt C feet) H a cs ∧ LstR H b m.lifts ∧ m.shafts ≤ 4 ∧ (∀ c ∈ cs, c.length ≤ 15 ∧ (∀ y ∈ c, y < 2 ^ m.shafts) ∧ firstNot m feet c ≠ none) ∧
  (cs.flatMap (wider m feet)).length ≤ 100000 ∧ ∀ (H' : Hp) (q : Addr), Same H H' → H q = none → ListOf (TuAt C feet) H' q (cs.flatMap (wider m feet)) → Q (.ref q) H'
def spDo (C : Addr) : Sp := fun vs H Q _ => ∃ (a b : Addr) (feet : Nat) (m : Sw87.Loom) (cs : List (List Nat)), vs = [.ref a, .ref b] ∧ ListOf (TuAt C feet) H a cs ∧ LstR H b m.lifts ∧ cs.length ≤ 100000 ∧
  ∀ (H' : Hp) (q : Addr), Same H H' → H q = none → ListOf LstR H' q (cs.filter (m.enough feet)) → Q (.ref q) H'
def spLeast : Sp := fun vs H Q _ => ∃ (b : Addr) (feet : Nat) (m : Sw87.Loom), vs = [.ref b, .int (feet : Int)] ∧ LstR H b m.lifts ∧ m.shafts ≤ 4 ∧ 1 ≤ feet ∧
  ∀ (H' : Hp) (q : Addr) (t : List Nat) (r : List (List Nat)), m.fewest feet = some ⟨r.length + 1, t⟩ → Same H H' → H q = none → ListOf LstR H' q (t :: r) → Q (.ref q) H'
/-! how two feet go -/
def tp (f : Sw87.Feet) : List V := [.int (f.1 : Int), .int (f.2 : Int)]
def kp (f : Sw87.Feet) : List Key := [.inl (f.1 : Int), .inl (f.2 : Int)]
theorem kp_tp (f : Sw87.Feet) : (kp f).map kV = tp f := rfl
/-- a place: a tuple -/
def PlR (H : Hp) (a : Addr) (f : Sw87.Feet) : Prop := H a = some (.tup (tp f))
theorem plR_stays : Stays PlR := fun _ _ _ _ s h => s _ _ h
def oF (D W : Nat) (fo be : V) : List (Str × V) := [("distance", .int (D : Int)), ("ways", .int (W : Int)), ("following", fo), ("beyond", be)]
/-- the places from here on -/
def PathAt (C : Addr) (H : Hp) : V → V → List Sw87.Feet → Prop
  | fo, be, [] => fo = .non ∧ be = .non
  | fo, be, f :: r => ∃ (q a dx : Addr) (D W : Nat) (fo' be' : V), fo = .ref q ∧ be = .ref a ∧ PlR H q f ∧ H a = some (.ins C dx (oF D W fo' be')) ∧ PathAt C H fo' be' r
/-- what is onward: its distance, its ways, its path -/
def OnAt (C : Addr) (H : Hp) (a : Addr) (b : Sw87.Best) : Prop := ∃ (dx : Addr) (fo be : V), H a = some (.ins C dx (oF b.far b.many fo be)) ∧ PathAt C H fo be b.feet
/-- places and what is onward from them stay -/
def KeepO (H H' : Hp) : Prop := ∀ b o, H b = some o → ((∃ xs, o = .tup xs) ∨ ∃ C dx fs, o = .ins C dx fs) → H' b = some o
theorem KeepO.of_same {H H' : Hp} (s : Same H H') : KeepO H H' := fun b o h _ => s b o h
theorem KeepO.trans {H H1 H2 : Hp} (s : KeepO H H1) (t : KeepO H1 H2) : KeepO H H2 := fun b o h z => t b o (s b o h z) z
theorem PathAt.keep {C : Addr} {H H' : Hp} (s : KeepO H H') : ∀ {l : List Sw87.Feet} {fo be : V}, PathAt C H fo be l → PathAt C H' fo be l
  | [], _, _, h => h
  | _ :: _, _, _, ⟨q, a, dx, D, W, fo', be', e1, e2, h1, h2, h3⟩ => ⟨q, a, dx, D, W, fo', be', e1, e2, s _ _ h1 (.inl ⟨_, rfl⟩), s _ _ h2 (.inr ⟨_, _, _, rfl⟩), PathAt.keep s h3⟩
theorem OnAt.keep {C : Addr} {H H' : Hp} (s : KeepO H H') {a : Addr} {b : Sw87.Best} (h : OnAt C H a b) : OnAt C H' a b :=
  let ⟨dx, fo, be, h1, h2⟩ := h
  ⟨dx, fo, be, s _ _ h1 (.inr ⟨_, _, _, rfl⟩), h2.keep s⟩
/-- a dict of places and what is onward from each -/
def AheadAt (C : Addr) (H : Hp) (kvs : List (List Key × V)) (l : List (Sw87.Feet × Sw87.Best)) : Prop := kvs.length = l.length ∧ ∀ (i : Nat) (f : Sw87.Feet) (b : Sw87.Best), l[i]? = some (f, b) → ∃ a, kvs[i]? = some (kp f, .ref a) ∧ OnAt C H a b
theorem AheadAt.keep {C : Addr} {H H' : Hp} (s : KeepO H H') {kvs : List (List Key × V)} {l : List (Sw87.Feet × Sw87.Best)} (h : AheadAt C H kvs l) : AheadAt C H' kvs l := ⟨h.1, fun i f b e => let ⟨a, e1, e2⟩ := h.2 i f b e; ⟨a, e1, e2.keep s⟩⟩
/-- where one comes from: a place, or nowhere -/
def FromV (H : Hp) : V → Option Sw87.Feet → Prop
  | v, none => v = .non
  | v, some f => ∃ p, v = .ref p ∧ PlR H p f
def goneN : Option Sw87.Feet → Sw87.Feet → Nat
  | none, _ => 0
  | some f, x => Sw87.far f.1 x.1 + Sw87.far f.2 x.2
/-- on by one place -/
def onBy (from' : Option Sw87.Feet) (x : Sw87.Feet × Sw87.Best) : Sw87.Best := ⟨goneN from' x.1 + x.2.far, x.2.many, x.1 :: x.2.feet⟩
/-- what is onward -/
def onFrom (from' : Option Sw87.Feet) (l : List (Sw87.Feet × Sw87.Best)) : Option Sw87.Best := match l with
  | [] => some ⟨0, 1, []⟩
  | _ => pick (l.map (onBy from'))
def spOInit (C : Addr) : Sp := fun vs H Q _ => ∃ (p dx : Addr) (D W : Nat) (fo be : V), vs = [.ref p, .int (D : Int), .int (W : Int), fo, be] ∧ H p = some (.ins C dx []) ∧ ∀ H', H' p = some (.ins C dx (oF D W fo be)) → (∀ b, b ≠ p → H' b = H b) → Q .non H'
def spPath (C : Addr) : Sp := fun vs H Q _ => ∃ (a : Addr) (b : Sw87.Best), vs = [.ref a] ∧ OnAt C H a b ∧ b.feet.length ≤ 1100000 ∧ ∀ (H' : Hp) (q : Addr), Same H H' → H q = none → ListOf PlR H' q b.feet → Q (.ref q) H'
def spGone : Sp := fun vs H Q _ => ∃ (v : V) (q : Addr) (p : Option Sw87.Feet) (f : Sw87.Feet), vs = [v, .ref q] ∧ FromV H v p ∧ PlR H q f ∧ Q (.int (goneN p f : Nat)) H
def spPlaces : Sp := fun vs H Q _ => ∃ (a : Addr) (n : Nat) (p : List Nat), vs = [.ref a, .int (n : Int)] ∧ LstR H a p ∧ n ≤ 8 ∧ p.length ≤ 8 ∧ ∀ (H' : Hp) (q : Addr) (as : List Addr), Same H H' → H q = none → H' q = some (.lst (as.map V.ref)) → Each PlR H' as ((Sw87.places n).filter (Sw87.over · p)) → Q (.ref q) H'
def spOnward (C : Addr) : Sp := fun vs H Q _ => ∃ (v : V) (d : Addr) (p : Option Sw87.Feet) (kvs : List (List Key × V)) (l : List (Sw87.Feet × Sw87.Best)) (b : Sw87.Best), vs = [v, .ref d] ∧ FromV H v p ∧ H d = some (.dT kvs) ∧ AheadAt C H kvs l ∧ onFrom p l = some b ∧
  ∀ (H' : Hp) (q : Addr), Same H H' → OnAt C H' q b → Q (.ref q) H'
def spShort (C : Addr) : Sp := fun vs H Q _ => ∃ (a : Addr) (n : Nat) (ps : List (List Nat)) (b : Sw87.Best), vs = [.ref a] ∧ n ≤ 8 ∧ ListOf (ListOf PlR) H a (ps.map fun p => (Sw87.places n).filter (Sw87.over · p)) ∧ (∀ p ∈ ps, ∃ x ∈ Sw87.places n, Sw87.over x p = true) ∧ Sw87.walk n ps = some b ∧
  ∀ (H' : Hp) (q : Addr), Same H H' → OnAt C H' q b → Q (.ref q) H'
/-! the calls -/
def spFeet : Sp := fun vs H Q _ => ∃ f : Nat, vs = [.int (f : Int)] ∧ Q (.bl (decide (1 ≤ f ∧ f ≤ 3))) H
def spFewest (C : Addr) : Sp := fun vs H Q _ => ∃ (x l : Addr) (m : Sw87.Loom) (f : Nat), vs = [.ref x, .int (f : Int)] ∧ LmAt C H x l m ∧ Good m ∧ (said (Sw87.step m (.fewest f)).2).length ≤ 1100000 ∧
  ∀ (H' : Hp) (q : Addr), Same H H' → H q = none → H' q = some (.lst (iv (said (Sw87.step m (.fewest f)).2))) → Q (.ref q) H'
def spPress (C : Addr) : Sp := fun vs H Q _ => ∃ (x l b : Addr) (m : Sw87.Loom) (f : Nat) (t : List Nat), vs = [.ref x, .int (f : Int), .ref b] ∧ LmAt C H x l m ∧ Good m ∧ LstR H b t ∧ (said (Sw87.step m (.press f t)).2).length ≤ 1100000 ∧
  ∀ (H' : Hp) (q : Addr), Same H H' → H q = none → H' q = some (.lst (iv (said (Sw87.step m (.press f t)).2))) → Q (.ref q) H'
def spWalk (C : Addr) : Sp := fun vs H Q _ => ∃ (x l b : Addr) (m : Sw87.Loom) (t : List Nat), vs = [.ref x, .ref b] ∧ LmAt C H x l m ∧ Good m ∧ LstR H b t ∧ (said (Sw87.step m (.walk t)).2).length ≤ 1100000 ∧
  ∀ (H' : Hp) (q : Addr), Same H H' → H q = none → H' q = some (.lst (iv (said (Sw87.step m (.walk t)).2))) → Q (.ref q) H'
def spRInit (C : Addr) : Sp := fun vs H Q _ => ∃ (p dx a : Addr), vs = [.ref p, .ref a] ∧ H p = some (.ins C dx []) ∧
  ∀ (H' : Hp), RdAt C H' p a 0 → (∀ b o, H b = some o → b ≠ p → H' b = some o) → Q .non H'
def spEnd (K : PySem.W.Frag) (C : Addr) : Sp := fun vs H Q _ => ∃ (r a : Addr) (p : Nat) (ns : List Int), vs = [.ref r] ∧ RdAt C H r a p ∧ SqL K H a (iv ns) ∧ Q (.bl (decide (ns.length ≤ p))) H
def spNum (K : PySem.W.Frag) (C : Addr) : Sp := fun vs H Q _ => ∃ (r a : Addr) (p : Nat) (ns rest : List Int) (z : Int), vs = [.ref r] ∧ RdAt C H r a p ∧ SqL K H a (iv ns) ∧ ns.length ≤ 30000 ∧ ns.drop p = z :: rest ∧
  ∀ (H' : Hp), RdAt C H' r a (p + 1) → But H H' r r → Q (.int z) H'
def spList (K : PySem.W.Frag) (C : Addr) : Sp := fun vs H Q _ => ∃ (r a : Addr) (p : Nat) (ns rest x : List Int), vs = [.ref r] ∧ RdAt C H r a p ∧ Far K H a ns [r] ∧ ns.length ≤ 30000 ∧ ns.drop p = (x.length : Int) :: (x ++ rest) ∧
  ∀ (H' : Hp) (q : Addr), RdAt C H' r a (p + 1 + x.length) → But H H' r r → H q = none → H' q = some (.lst (iv x)) → Q (.ref q) H'
def spRows : Sp := fun vs H Q _ => ∃ (p : Addr) (ls : List (List Nat)), vs = [.ref p] ∧ RowsAt H p ls ∧ (flat ls).length ≤ 1100000 ∧
  ∀ (H' : Hp) (q : Addr), Same H H' → H q = none → H' q = some (.lst (iv (flat ls))) → Q (.ref q) H'
def spAns (K : PySem.W.Frag) : Sp := fun vs H Q _ => ∃ (a : Addr) (ns : List Int), vs = [.ref a] ∧ SqL K H a (iv ns) ∧ ns.length ≤ 30000 ∧ PySw87.answers_asked ns = true ∧
  ∀ (H' : Hp) (p : Addr), H' p = some (.lst (iv (PySw87.answers ns))) → Q (.ref p) H'
end Tr
set_option maxRecDepth 100000
set_option maxHeartbeats 4000000
namespace Tr
open PySem PySem.Spec PyProof.Rows L2
section
variable {P : Program} {w : World} {K : PySem.W.Frag} {mg : Str → Option Value} {base : Heap} {CL CT CO CR : Addr}
theorem relI {i : Int} {t : Tok} : RelV (.int i) (.int i t) := ⟨t, rfl⟩
theorem scLI : FnScope ["self"] ["self"] (defScope sLInit) := ⟨rfl, rfl, rfl, by decide +kernel, rfl, by decide +kernel, by decide +kernel⟩
theorem ok_linit {f : Addr} {fd : FuncData} (F : Fun K "__init__" "Loom.__init__" sLInit f fd) (T : Txt K mg CL CT CO CR) : FnOk P w K mg base CX0 1 f fd ["self"] (spLInit CL) := by
  refine F.ok scLI (fun vs H Q E h => ?_) (fun cdv A outer s H vs Q E hr h => ?_)
  · obtain ⟨p, dx, rfl, _⟩ := h
    rfl
  · obtain ⟨p, dx, rfl, hp, k⟩ := h
    refine ⟨_, pss_cons (ps_fld (pv 0) pe_int rfl) (pss_one (ps_fld (pv 0) (pe_lst pa_nil) rfl)), ?_⟩
    refine ⟨_, rfl, p, CL, dx, [], rfl, hp, T.clL, T.nShafts, (by show 0 < 1000; decide), Nat.zero_le _, fun l hl => ?_⟩
    have np : p ≠ l := fun z => by rw [← z, upd_same] at hl; cases hl
    have hl0 : H l = none := by rw [upd_ne np.symm] at hl; exact hl
    refine ⟨_, rfl, p, CL, dx, _, rfl, (upd_ne np).trans upd_same, T.clL, T.nPicked, (by show 1 < 1000; decide), ?_⟩
    refine k _ l hl0 ⟨⟨dx, upd_same.trans (congrArg (fun q => some (HO.ins CL dx q)) (lF_new l))⟩, (upd_ne np.symm).trans upd_same⟩ fun b o e hb => ?_
    rw [upd_ne hb, upd_ne (ne_of_none e hl0), upd_ne hb]
    exact e
theorem scB : FnScope ["self", "shafts"] ["self", "shafts"] (defScope sBegin) := ⟨rfl, rfl, rfl, by decide +kernel, rfl, by decide +kernel, by decide +kernel⟩
theorem step_begins_no {m : Sw87.Loom} {n : Nat} (h : n < 1 ∨ 4 < n) : Sw87.step m (.begins n) = (m, Sw87.ok (-1)) := if_pos h
theorem step_begins_ok {m : Sw87.Loom} {n : Nat} (h : ¬ (n < 1 ∨ 4 < n)) : Sw87.step m (.begins n) = (⟨n, []⟩, Sw87.ok 0) := if_neg h
theorem ok_begin {f : Addr} {fd : FuncData} (F : Fun K "begin" "Loom.begin" sBegin f fd) (T : Txt K mg CL CT CO CR) : FnOk P w K mg base CX0 1 f fd ["self", "shafts"] (spBegin CL) := by
  refine F.ok scB (fun vs H Q E h => ?_) (fun cdv A outer s H vs Q E hr h => ?_)
  · obtain ⟨x, l, m, n, rfl, _⟩ := h
    rfl
  · obtain ⟨x, l, m, n, rfl, ⟨⟨dx, hx⟩, hl⟩, k⟩ := h
    obtain ⟨t1, g1⟩ := T.gMostS
    obtain ⟨t2, g2⟩ := T.gOut
    refine ⟨_, pss_cons (ps_if (pw_or (pt_cmpR op_lt (pv 1) pe_int (nomark _)) (pw_or1 (pt_cmpR op_gt (pv 1) (pe_glob (by rfl) g1 relI) (nomark _)))).pt (pss_one (ps_ret (pe_glob (by rfl) g2 relI))) pss_nil)
      (pss_cons (ps_fld (pv 0) (pv 1) rfl) (pss_cons (ps_fld (pv 0) (pe_lst pa_nil) rfl) (pss_one (ps_ret pe_int)))), ?_⟩
    have no : n < 1 ∨ 4 < n → Q (.int (-1)) H := fun c => by
      rw [step_begins_no (m := m) c] at k
      exact k H l (.inl rfl) ⟨⟨dx, hx⟩, hl⟩ fun b o e _ _ => e
    refine ⟨_, rfl, _, _, rfl, rfl, _, rfl, ?_⟩
    refine ite2 (fun c => ?_) (fun c => ?_)
    · exact no (.inl (by have q := of_decide_eq_true c; omega))
    · refine ⟨_, rfl, _, _, rfl, rfl, _, rfl, ?_⟩
      refine ite2 (fun c2 => ?_) (fun c2 => ?_)
      · exact no (.inr (by have q := of_decide_eq_true c2; omega))
      · have c1 : ¬ (n : Int) < 1 := fun z => c (decide_eq_true z)
        have c3 : ¬ (4 : Int) < (n : Int) := fun z => c2 (decide_eq_true z)
        have ok : ¬ (n < 1 ∨ 4 < n) := by omega
        refine ⟨_, rfl, _, rfl, x, CL, dx, _, rfl, hx, T.clL, T.nShafts, (by show 2 < 1000; decide), Nat.zero_le _, fun l' hl' => ?_⟩
        have np : x ≠ l' := fun z => by rw [← z, upd_same] at hl'; cases hl'
        have hl0 : H l' = none := by rw [upd_ne np.symm] at hl'; exact hl'
        refine ⟨_, rfl, x, CL, dx, _, rfl, (upd_ne np).trans upd_same, T.clL, T.nPicked, (by rw [lF_put_shafts]; show 2 < 1000; decide), ?_⟩
        rw [step_begins_ok (m := m) ok] at k
        refine k _ l' (.inr hl0) ⟨⟨dx, upd_same.trans (congrArg (fun q => some (HO.ins CL dx q)) ?_)⟩, (upd_ne np.symm).trans upd_same⟩ fun b o e hb _ => ?_
        · rw [lF_put_shafts, lF_put_picked]
        · rw [upd_ne hb, upd_ne (ne_of_none e hl0), upd_ne hb]
          exact e
end
end Tr
set_option maxRecDepth 100000
set_option maxHeartbeats 4000000
namespace Tr
open PySem PySem.Spec PyProof.Rows L2
theorem shr_nat (x s : Nat) : (x : Int) / 2 ^ (s : Int).toNat = ((x / 2 ^ s : Nat) : Int) := by
  rw [Int.toNat_natCast, Int.natCast_ediv, Int.natCast_pow]; rfl
theorem shr_zero {x s : Nat} : (x : Int) / 2 ^ (s : Int).toNat = 0 ↔ x < 2 ^ s := by
  rw [shr_nat]
  have h : 0 < 2 ^ s := Nat.pow_pos (by decide)
  constructor
  · intro e
    have e' : x / 2 ^ s = 0 := by omega
    rcases (Nat.div_eq_zero_iff).mp e' with q | q
    · omega
    · exact q
  · intro e
    rw [Nat.div_eq_of_lt e]; rfl
theorem ifT {c : Bool} {A B : Prop} (hc : c = true) (h : A) : if c = true then A else B := by
  rw [if_pos hc]
  exact h
theorem ifF {c : Bool} {A B : Prop} (hc : c = false) (h : B) : if c = true then A else B := by
  rw [hc, if_neg Bool.false_ne_true]
  exact h
theorem yesT {σ : L2.St} {H : Hp} {Q : Bool → Hp → Prop} (h : Q true H) : tYes σ H Q := h
theorem take_more {α : Type} {l : List α} {i : Nat} {x : α} (h : l[i]? = some x) : l.take (i + 1) = l.take i ++ [x] := by
  rw [List.take_add_one, h]; rfl
section
variable {P : Program} {w : World} {K : PySem.W.Frag} {mg : Str → Option Value} {base : Heap} {CL CT CO CR : Addr}
theorem scH : FnScope ["self", "shaft_sets", "shaft_set"] ["self", "shaft_sets"] (defScope sHas) := ⟨rfl, rfl, rfl, by decide +kernel, rfl, by decide +kernel, by decide +kernel⟩
theorem ok_has {f : Addr} {fd : FuncData} (F : Fun K "has_shafts" "Loom.has_shafts" sHas f fd) (T : Txt K mg CL CT CO CR) : FnOk P w K mg base CX0 1 f fd ["self", "shaft_sets"] (spHas CL) := by
  refine F.ok scH (fun vs H Q E h => ?_) (fun cdv A outer s H vs Q E hr h => ?_)
  · obtain ⟨x, l, b, m, t, rfl, _⟩ := h
    rfl
  · obtain ⟨x, l, b, m, t, rfl, ⟨⟨dx, hx⟩, hl⟩, hb, k⟩ := h
    refine ⟨_, pss_cons (ps_for PassesOwn.never rfl (pi_list (pv 1)) (pg_name (i := 2) scH.nd rfl (Or.inl rfl))
      (pss_one (ps_if (pt_cmpR op_ne (pe_op op_shr (pv 2) (pe_fld (pv 0) rfl)) pe_int (nomark _)) (pss_one (ps_ret pe_bl)) pss_nil)))
      (pss_one (ps_ret pe_bl)), ?_⟩
    refine ⟨_, rfl, b, rfl, ⟨_, SqL.of hb⟩, for_list (K := K) (a := b) (xs := nv t) (fun i σ H' => ∃ v : Option V, σ = [some (.ref x), some (.ref b), v] ∧ H' = H ∧ ∀ y ∈ t.take i, y < 2 ^ m.shafts)
      ⟨none, rfl, rfl, fun y hy => by rw [List.take_zero] at hy; cases hy⟩ (fun i σ H' _ ⟨_, _, e, _⟩ => by rw [e]; exact SqL.of hb) ?_ ?_⟩
    · rintro i y σ H' hi ⟨v, rfl, rfl, small⟩
      obtain ⟨z, hz, rfl⟩ := nv_at hi
      refine ⟨_, rfl, _, rfl, x, CL, dx, _, _, rfl, hx, T.clL, T.nShafts, lF_shafts _ _, _, _, rfl, rfl, Int.natCast_nonneg _, rfl, _, rfl, ?_⟩
      by_cases c : z < 2 ^ m.shafts
      · have e : (!decide (V.int ((z : Int) / 2 ^ (m.shafts : Int).toNat) = V.int 0)) = false := by
          rw [shr_zero.mpr c]; rfl
        refine ifF e ⟨some (.int z), rfl, rfl, fun y hy => ?_⟩
        rw [take_more hz, List.mem_append] at hy
        rcases hy with hy | hy
        · exact small y hy
        · rw [List.mem_singleton.mp hy]; exact c
      · have e : (!decide (V.int ((z : Int) / 2 ^ (m.shafts : Int).toNat) = V.int 0)) = true := by
          rw [decide_eq_false (fun q => c (shr_zero.mp (V.int.inj q)))]; rfl
        refine ifT e ?_
        have no : m.liftsOk t = false := by
          cases q : m.liftsOk t with
          | false => rfl
          | true => exact absurd (of_decide_eq_true (List.all_eq_true.mp q z (List.mem_of_getElem? hz))) c
        rw [no] at k
        exact k
    · rintro σ H' ⟨v, rfl, rfl, small⟩
      rw [nv_len, List.take_length] at small
      have yes : m.liftsOk t = true := List.all_eq_true.mpr fun z hz => decide_eq_true (small z hz)
      rw [yes] at k
      exact k
end
end Tr
set_option maxRecDepth 100000
set_option maxHeartbeats 4000000
namespace Tr
open PySem PySem.Spec PyProof.Rows L2
theorem step_picks_no {m : Sw87.Loom} {t : List Nat} (h : m.liftsOk t = false) : Sw87.step m (.picks t) = (m, Sw87.ok (-1)) := if_pos h
theorem step_picks_many {m : Sw87.Loom} {t : List Nat} (h : m.liftsOk t = true) (c : 40 < m.picks.length + t.length) : Sw87.step m (.picks t) = (m, Sw87.ok (-5)) :=
  (if_neg (by rw [h]; exact fun q => Bool.noConfusion q)).trans (if_pos c)
theorem step_picks_ok {m : Sw87.Loom} {t : List Nat} (h : m.liftsOk t = true) (c : ¬ 40 < m.picks.length + t.length) : Sw87.step m (.picks t) = ({ m with picks := m.picks ++ t }, Sw87.ok (m.picks.length + t.length : Nat)) :=
  (if_neg (by rw [h]; exact fun q => Bool.noConfusion q)).trans (if_neg c)
section
variable {P : Program} {w : World} {K : PySem.W.Frag} {mg : Str → Option Value} {base : Heap} {CL CT CO CR : Addr}
theorem scAdd : FnScope ["self", "lifts"] ["self", "lifts"] (defScope sAdd) := ⟨rfl, rfl, rfl, by decide +kernel, rfl, by decide +kernel, by decide +kernel⟩
theorem ok_add {f fH : Addr} {fd fdH : FuncData} (F : Fun K "add_picks" "Loom.add_picks" sAdd f fd) (T : Txt K mg CL CT CO CR) (FH : Fun K "has_shafts" "Loom.has_shafts" sHas fH fdH) (bH : Binds K fdH ["self", "shaft_sets"] []) (mH : Meth K CL "has_shafts" fH) :
    FnOk P w K mg base CX0 2 f fd ["self", "lifts"] (spAdd CL) := by
  have GH : FnOk P w K mg base CX0 1 fH fdH ["self", "shaft_sets"] (spHas CL) := ok_has FH T
  refine F.ok scAdd (fun vs H Q E h => ?_) (fun cdv A outer s H vs Q E hr h => ?_)
  · obtain ⟨x, l, b, m, t, rfl, _⟩ := h
    rfl
  · obtain ⟨x, l, b, m, t, rfl, ⟨⟨dx, hx⟩, hl⟩, hb, few, few2, k⟩ := h
    obtain ⟨t1, g1⟩ := T.gOut
    obtain ⟨t2, g2⟩ := T.gMostP
    obtain ⟨t3, g3⟩ := T.gMany
    refine ⟨_, pss_cons (ps_if (pt_not (pt_val (pe_meth (pv 0) T.clL mH GH hr bH .nil pass0 (pa_cons (pv 1) pa_nil)))) (pss_one (ps_ret (pe_glob (by rfl) g1 relI))) pss_nil)
      (pss_cons (ps_if (pt_cmpR op_gt (pe_op op_add (pe_callB call_len_seq (by rfl) T.len PySem.boot_len (pa_cons (pe_fld (pv 0) rfl) pa_nil)) (pe_callB call_len_seq (by rfl) T.len PySem.boot_len (pa_cons (pv 1) pa_nil))) (pe_glob (by rfl) g2 relI) (nomark _))
        (pss_one (ps_ret (pe_glob (by rfl) g3 relI))) pss_nil)
      (pss_cons (ps_expr (pe_bm PySem.F.plainAttrs_list PySem.F.slot_list_extend PySem.F.type_list_extend mt_extend (pe_fld (pv 0) rfl) (pa_cons (pv 1) pa_nil)))
      (pss_one (ps_ret (pe_callB call_len_seq (by rfl) T.len PySem.boot_len (pa_cons (pe_fld (pv 0) rfl) pa_nil)))))), ?_⟩
    refine ⟨_, rfl, x, dx, _, rfl, hx, lF_not (by decide +kernel) (by decide +kernel), _, rfl, x, l, b, m, t, rfl, ⟨⟨dx, hx⟩, hl⟩, hb, _, rfl, ?_⟩
    cases ok : m.liftsOk t with
    | false =>
      rw [step_picks_no ok] at k
      exact ifT rfl (k H ⟨⟨dx, hx⟩, hl⟩ fun b o e _ _ => e)
    | true =>
      refine ifF rfl ?_
      refine ⟨_, rfl, x, CL, dx, _, _, rfl, hx, T.clL, T.nPicked, lF_picked _ _, l, _, rfl, .inl (SqL.of hl), _, rfl, b, _, rfl, .inl (SqL.of hb), _, _, rfl, rfl, _, _, rfl, rfl, _, rfl, ?_⟩
      rw [nv_len, nv_len]
      by_cases c : 40 < m.picks.length + t.length
      · rw [step_picks_many ok c] at k
        exact ifT (decide_eq_true (by show (40 : Int) < (m.picks.length : Int) + (t.length : Int); omega)) (k H ⟨⟨dx, hx⟩, hl⟩ fun b o e _ _ => e)
      · rw [step_picks_ok ok c] at k
        refine ifF (decide_eq_false (by show ¬ (40 : Int) < (m.picks.length : Int) + (t.length : Int); omega)) ?_
        have nx : x ≠ l := ne_of hx hl (by intro z; cases z)
        refine ⟨_, rfl, x, CL, dx, _, _, rfl, hx, T.clL, T.nPicked, lF_picked _ _, .inl ⟨rfl, _, SqL.of hl⟩, _, rfl, l, b, _, _, rfl, rfl, hl, hb, ?_, ?_⟩
        · rw [nv_len, nv_len]
          exact Nat.le_trans (Nat.add_le_add few few2) (by decide)
        · refine ⟨_, rfl, x, CL, dx, _, _, rfl, (upd_ne nx).trans hx, T.clL, T.nPicked, lF_picked _ _, l, _, rfl, .inl (SqL.of upd_same), ?_⟩
          have e : ((nv m.picks ++ nv t).length : Int) = ((m.picks.length + t.length : Nat) : Int) := by rw [List.length_append, nv_len, nv_len]
          rw [e]
          exact k _ ⟨⟨dx, (upd_ne nx).trans hx⟩, upd_same.trans (congrArg (fun q => some (HO.lst q)) (nv_app _ _).symm)⟩ fun b o e _ hb => (upd_ne hb).trans e
end
end Tr
set_option maxRecDepth 100000
set_option maxHeartbeats 4000000
namespace Tr
open PySem PySem.Spec PyProof.Rows L2
/-! ### the lifts, rising -/
/-- two rising lists of the same numbers are one -/
theorem asc_ext : ∀ {a b : List Int}, a.Pairwise (· < ·) → b.Pairwise (· < ·) → (∀ x, x ∈ a ↔ x ∈ b) → a = b
  | [], [], _, _, _ => rfl
  | [], y :: b, _, _, h => absurd ((h y).mpr List.mem_cons_self) (by simp)
  | x :: a, [], _, _, h => absurd ((h x).mp List.mem_cons_self) (by simp)
  | x :: a, y :: b, ha, hb, h => by
    obtain ⟨a1, a2⟩ := List.pairwise_cons.mp ha
    obtain ⟨b1, b2⟩ := List.pairwise_cons.mp hb
    have e : x = y := by
      rcases List.mem_cons.mp ((h x).mp List.mem_cons_self) with q | q
      · exact q
      · rcases List.mem_cons.mp ((h y).mpr List.mem_cons_self) with q' | q'
        · exact q'.symm
        · have z1 := b1 x q
          have z2 := a1 y q'
          omega
    subst e
    refine congrArg _ (asc_ext a2 b2 fun z => ⟨fun hz => ?_, fun hz => ?_⟩)
    · rcases List.mem_cons.mp ((h z).mp (List.mem_cons_of_mem _ hz)) with q | q
      · have := a1 z hz; omega
      · exact q
    · rcases List.mem_cons.mp ((h z).mpr (List.mem_cons_of_mem _ hz)) with q | q
      · have := b1 z hz; omega
      · exact q
theorem mem_asInts {l : List Nat} {k : Int} : k ∈ asInts l ↔ ∃ x ∈ l, (x : Int) = k := List.mem_map
theorem asInts_asc {l : List Nat} (h : l.Pairwise (· < ·)) : (asInts l).Pairwise (· < ·) := by
  unfold asInts
  rw [List.pairwise_map]
  exact h.imp fun q => by omega
theorem lifts_asc (m : Sw87.Loom) : m.lifts.Pairwise (· < ·) := List.Pairwise.filter _ List.pairwise_lt_range
theorem mem_lifts {m : Sw87.Loom} {b : Nat} : b ∈ m.lifts ↔ b < 2 ^ m.shafts ∧ b ≠ 0 ∧ b ∈ m.picks := by
  unfold Sw87.Loom.lifts
  rw [List.mem_filter, List.mem_range, Bool.and_eq_true, bne_iff_ne, List.contains_iff_mem]
def nz (k : Int) : Bool := !decide (k = 0)
theorem nz_iff {k : Int} : nz k = true ↔ k ≠ 0 := by
  unfold nz
  by_cases h : k = 0
  · simp [h]
  · simp [h]
theorem lifts_are {m : Sw87.Loom} (g : Good m) {L : List Int} (h1 : L.Pairwise (· < ·)) (h2 : ∀ k : Int, k ∈ L ↔ decide (k ∈ asInts m.picks) = true) : L.filter nz = asInts m.lifts := by
  refine asc_ext (h1.filter _) (asInts_asc (lifts_asc m)) fun k => ?_
  rw [List.mem_filter, h2 k, nz_iff, decide_eq_true_iff, mem_asInts, mem_asInts]
  constructor
  · rintro ⟨⟨x, hx, rfl⟩, hz⟩
    exact ⟨x, mem_lifts.mpr ⟨g.ok x hx, by omega, hx⟩, rfl⟩
  · rintro ⟨x, hx, rfl⟩
    obtain ⟨_, b, c⟩ := mem_lifts.mp hx
    exact ⟨⟨x, c, rfl⟩, by omega⟩
theorem count_asInts (b : Nat) : ∀ l : List Nat, (asInts l).count (b : Int) = (l.filter fun x => x == b).length
  | [] => rfl
  | x :: l => by
    show List.count (b : Int) ((x : Int) :: asInts l) = _
    rw [List.count_cons, count_asInts b l, List.filter_cons]
    by_cases h : x = b
    · subst h
      simp
    · have e1 : ((x : Int) == (b : Int)) = false := by
        rw [beq_eq_false_iff_ne]; omega
      have e2 : (x == b) = false := by
        rw [beq_eq_false_iff_ne]; exact h
      rw [e1, e2]; rfl
/-- a row of lift_counts -/
def cRow (m : Sw87.Loom) (b : Nat) : List Nat := [b, (m.picks.filter fun x => x == b).length]
theorem step_lifts (m : Sw87.Loom) : (Sw87.step m .lifts).2.l = m.lifts.map (cRow m) := rfl
/-! ### rows in the heap -/
structure RowsIn (H : Hp) (p : Addr) (ls : List (List Nat)) (as : List Addr) : Prop where
  len : as.length = ls.length
  lst : H p = some (.lst (as.map V.ref))
  rows : ∀ (i : Nat) (a : Addr) (l : List Nat), as[i]? = some a → ls[i]? = some l → a ≠ p ∧ H a = some (.lst (nv l))
theorem RowsIn.at {H : Hp} {p : Addr} {ls : List (List Nat)} {as : List Addr} (R : RowsIn H p ls as) : RowsAt H p ls := ⟨as, R.lst, R.len, fun i a l h1 h2 => .inl (R.rows i a l h1 h2).2⟩
theorem RowsIn.keep {H H' : Hp} {p : Addr} {ls : List (List Nat)} {as : List Addr} (R : RowsIn H p ls as) (s : Same H H') : RowsIn H' p ls as :=
  ⟨R.len, s _ _ R.lst, fun i a l h1 h2 => ⟨(R.rows i a l h1 h2).1, s _ _ (R.rows i a l h1 h2).2⟩⟩
/-- one row more: at q, appended to p's list -/
theorem RowsIn.more {H : Hp} {p q : Addr} {ls : List (List Nat)} {as : List Addr} {w : List Nat} (R : RowsIn H p ls as) (np : q ≠ p) (hq : H q = some (.lst (nv w))) : RowsIn (upd H p (.lst (as.map V.ref ++ [.ref q]))) p (ls ++ [w]) (as ++ [q]) := by
  refine ⟨by rw [List.length_append, List.length_append, R.len]; rfl, upd_same.trans (by rw [List.map_append]; rfl), fun i a l h1 h2 => ?_⟩
  by_cases c : i < as.length
  · rw [List.getElem?_append_left c] at h1
    rw [List.getElem?_append_left (R.len ▸ c)] at h2
    obtain ⟨n, e⟩ := R.rows i a l h1 h2
    exact ⟨n, (upd_ne n).trans e⟩
  · have ei : i = as.length := by
      have := (List.getElem?_eq_some_iff.mp h1).1
      rw [List.length_append] at this
      simp at this
      omega
    subst ei
    rw [List.getElem?_append_right (Nat.le_refl _), Nat.sub_self] at h1
    rw [List.getElem?_append_right (by rw [R.len]; exact Nat.le_refl _), R.len, Nat.sub_self] at h2
    cases h1; cases h2
    exact ⟨np, (upd_ne np).trans hq⟩
section
variable {P : Program} {w : World} {K : PySem.W.Frag} {mg : Str → Option Value} {base : Heap} {CL CT CO CR : Addr}
theorem scNe : FnScope ["self", "lift"] ["self"] (defScope sNeeded) := ⟨rfl, rfl, rfl, by decide +kernel, rfl, by decide +kernel, by decide +kernel⟩
theorem iv_snoc (l : List Int) (z : Int) : iv l ++ [.int z] = iv (l ++ [z]) := (iv_app l [z]).symm
theorem ok_needed {f : Addr} {fd : FuncData} (F : Fun K "lifts_needed" "Loom.lifts_needed" sNeeded f fd) (T : Txt K mg CL CT CO CR) : FnOk P w K mg base CX0 1 f fd ["self"] (spNeeded CL) := by
  refine F.ok scNe (fun vs H Q E h => ?_) (fun cdv A outer s H vs Q E hr h => ?_)
  · obtain ⟨x, l, m, rfl, _⟩ := h
    rfl
  · obtain ⟨x, l, m, rfl, ⟨⟨dx, hx⟩, hl⟩, g, k⟩ := h
    refine ⟨_, pss_one (ps_ret (pe_lc (own := [("lift", 1)]) (g := gName 1) (te := tVar 1) rfl scNe.nd
      (pi_list (pe_callB (cr_sortedSet rfl) (by rfl) T.sorted (by decide +kernel) (pa_cons (pe_callTy (cr_setL rfl) (by rfl) T.set (by decide +kernel) (pa_cons (pe_fld (pv 0) rfl) pa_nil)) pa_nil)))
      (blkOk_by (N := ["self", "lift"]) (sc := defScope sNeeded) (by decide +kernel)) (fun _ _ _ _ _ => pg_name (i := 1) scNe.nd rfl (Or.inl rfl))
      (fun _ _ _ _ _ => pts_one (pt_cmpR op_ne (pv 1) pe_int (nomark _)))
      (fun _ _ _ _ _ => pv 1))), ?_⟩
    refine ⟨_, rfl, x, CL, dx, _, _, rfl, hx, T.clL, T.nPicked, lF_picked _ _, l, asInts m.picks, rfl, SqL.of hl, ?_, fun p c le hp => ?_⟩
    · rw [asInts_len]
      exact Nat.lt_of_le_of_lt (Nat.add_le_add_right g.few 1) (by decide)
    rw [asInts_len] at le
    refine ⟨p, _, c, rfl, upd_same, (by have := g.few; omega), fun L q asc mem len hq => ?_⟩
    have np : p ≠ q := fun z => by rw [← z, upd_same] at hq; cases hq
    have hq0 : H q = none := by rw [upd_ne np.symm] at hq; exact hq
    refine ⟨q, rfl, ⟨_, SqL.of upd_same⟩, fun D hD => ?_⟩
    have nD : D ≠ q := fun z => by rw [z, upd_same] at hD; cases hD
    have nDp : D ≠ p := fun z => by rw [z, upd_ne np, upd_same] at hD; cases hD
    have hD0 : H D = none := by rw [upd_ne nD, upd_ne nDp] at hD; exact hD
    have eL := lifts_are g asc mem
    refine lc_list (K := K) (a := q) (xs := iv L) (fun i H' => Same H H' ∧ H' q = some (.lst (iv L)) ∧ H' D = some (.lst (iv ((L.take i).filter nz))))
      ⟨fun b o e => ?_, (upd_ne nD.symm).trans upd_same, upd_same⟩ (fun i H' _ ⟨_, e, _⟩ => SqL.of e) ?_ ?_
    · rw [upd_ne (ne_of_none e hD0), upd_ne (ne_of_none e hq0), upd_ne (ne_of_none e hp)]
      exact e
    · rintro i y H' hi ⟨s1, e1, e2⟩
      obtain ⟨z, hz, rfl⟩ := iv_at hi
      refine ⟨rfl, _, rfl, rfl, _, rfl, ?_⟩
      by_cases c : z = 0
      · subst c
        refine ifF rfl ⟨s1, e1, ?_⟩
        rw [take_more hz, List.filter_append, List.filter_cons, if_neg (fun q => nz_iff.mp q rfl)]
        exact e2.trans (by rw [List.filter_nil, List.append_nil])
      · refine ifT (by show (!decide (V.int z = V.int 0)) = true; rw [decide_eq_false (fun q => c (V.int.inj q))]; rfl) ?_
        refine ⟨_, rfl, _, e2, ?_, fun b o e => ?_, (upd_ne nD.symm).trans e1, ?_⟩
        · rw [iv_len]
          refine Nat.lt_of_le_of_lt (Nat.le_trans (List.length_filter_le _ _) (List.length_take_le _ _)) ?_
          have := g.few
          show i < 16777216
          have := (List.getElem?_eq_some_iff.mp hz).1
          omega
        · rw [upd_ne (ne_of_none e hD0)]
          exact s1 b o e
        · rw [upd_same, iv_snoc, take_more hz, List.filter_append, List.filter_cons, if_pos (nz_iff.mpr c)]; rfl
    · rintro H' ⟨s1, e1, e2⟩
      rw [iv_len, List.take_length, eL] at e2
      exact k H' D s1 hD0 e2
theorem scC : FnScope ["self", "lift"] ["self"] (defScope sCounts) := ⟨rfl, rfl, rfl, by decide +kernel, rfl, by decide +kernel, by decide +kernel⟩
theorem ok_counts {f fN : Addr} {fd fdN : FuncData} (F : Fun K "lift_counts" "Loom.lift_counts" sCounts f fd) (T : Txt K mg CL CT CO CR) (FN : Fun K "lifts_needed" "Loom.lifts_needed" sNeeded fN fdN) (bN : Binds K fdN ["self"] []) (mN : Meth K CL "lifts_needed" fN) :
    FnOk P w K mg base CX0 2 f fd ["self"] (spCounts CL) := by
  have GN : FnOk P w K mg base CX0 1 fN fdN ["self"] (spNeeded CL) := ok_needed FN T
  refine F.ok scC (fun vs H Q E h => ?_) (fun cdv A outer s H vs Q E hr h => ?_)
  · obtain ⟨x, l, m, rfl, _⟩ := h
    rfl
  · obtain ⟨x, l, m, rfl, ⟨⟨dx, hx⟩, hl⟩, g, k⟩ := h
    refine ⟨_, pss_one (ps_ret (pe_lc (own := [("lift", 1)]) (g := gName 1) (tt := tYes) (te := tLst (tCons (tVar 1) (tCons (tBM K "list" (rCntI K) (tFld K (tVar 0) "picked") (tCons (tVar 1) tNil)) tNil))) rfl scC.nd
      (pi_list (pe_meth0 (pv 0) T.clL mN GN hr bN .nil pass0))
      (blkOk_by (N := ["self", "lift"]) (sc := defScope sCounts) (by decide +kernel)) (fun _ _ _ _ _ => pg_name (i := 1) scC.nd rfl (Or.inl rfl))
      (fun _ _ _ _ _ => pts_nil)
      (fun _ _ _ _ _ => by exact (pe_lst (pa_cons (pv 1) (pa_cons (pe_bm PySem.F.plainAttrs_list PySem.F.slot_list_count PySem.F.type_list_count mt_lcount (pe_fld (pv 0) rfl) (pa_cons (pv 1) pa_nil)) pa_nil)))))), ?_⟩
    refine ⟨_, rfl, x, dx, _, rfl, hx, lF_not (by decide +kernel) (by decide +kernel), x, l, m, rfl, ⟨⟨dx, hx⟩, hl⟩, g, fun H1 q s0 hq eq0 => ?_⟩
    refine ⟨q, rfl, ⟨_, SqL.of eq0⟩, fun D hD => ?_⟩
    have nD : D ≠ q := (ne_of_none eq0 hD).symm
    have sD : Same H1 (upd H1 D (.lst [])) := fun b o e => (upd_ne (ne_of_none e hD)).trans e
    refine lc_list (K := K) (a := q) (xs := nv m.lifts) (fun i H' => ∃ as : List Addr, Same H H' ∧ H' q = some (.lst (nv m.lifts)) ∧ RowsIn H' D ((m.lifts.take i).map (cRow m)) as)
      ⟨[], s0.trans sD, sD _ _ eq0, rfl, upd_same, fun i a l h => nomatch h⟩ (fun i H' _ ⟨_, _, e, _⟩ => SqL.of e) ?_ ?_
    · rintro i y H' hi ⟨as, s1, e1, R⟩
      obtain ⟨b, hb, rfl⟩ := nv_at hi
      have hx' := s1 _ _ hx
      have hl' := s1 _ _ hl
      refine ⟨rfl, yesT (iteT ?_)⟩
      refine ⟨_, rfl, _, rfl, x, CL, dx, _, _, rfl, hx', T.clL, T.nPicked, lF_picked _ _, .inl ⟨rfl, _, SqL.of hl'⟩, _, rfl, l, asInts m.picks, (b : Int), rfl, rfl, SqL.of hl', (by show 2 ≤ sizeLine; decide), fun r hr => ?_⟩
      have nr : D ≠ r := ne_of_none R.lst hr
      have nq : q ≠ r := ne_of_none e1 hr
      have R2 : RowsIn (upd H' r (.lst [.int (b : Int), .int ((asInts m.picks).count (b : Int) : Nat)])) D ((m.lifts.take i).map (cRow m)) as :=
        R.keep fun v o e => (upd_ne (ne_of_none e hr)).trans e
      have R3 := R2.more (w := cRow m b) nr.symm (upd_same.trans (by rw [count_asInts]; rfl))
      refine ⟨as.map V.ref, (upd_ne nr).trans R.lst, ?_, as ++ [r], fun v o e => ?_, (upd_ne nD.symm).trans ((upd_ne nq).trans e1), ?_⟩
      · rw [List.length_map, R.len, List.length_map]
        refine Nat.lt_of_le_of_lt (List.length_take_le _ _) ?_
        have h1 := (List.getElem?_eq_some_iff.mp hb).1
        have h2 : m.lifts.length ≤ 2 ^ m.shafts := by
          unfold Sw87.Loom.lifts
          exact Nat.le_trans (List.length_filter_le _ _) (by rw [List.length_range]; exact Nat.le_refl _)
        have h3 : 2 ^ m.shafts ≤ 2 ^ 4 := Nat.pow_le_pow_right (by decide) g.hi
        show i < 16777216
        omega
      · have q1 := s1 v o e
        have nv' : v ≠ D := fun z => by
          rw [z] at e
          have := s0 _ _ e
          rw [hD] at this; cases this
        rw [upd_ne nv', upd_ne (ne_of_none q1 hr)]
        exact q1
      · rw [take_more hb, List.map_append]
        exact R3
    · rintro H' ⟨as, s1, e1, R⟩
      rw [nv_len, List.take_length] at R
      exact k H' D s1 R.at
end
end Tr
set_option maxRecDepth 100000
set_option maxHeartbeats 4000000
namespace Tr
open PySem PySem.Spec PyProof.Rows L2
section
variable {P : Program} {w : World} {K : PySem.W.Frag} {mg : Str → Option Value} {base : Heap} {CL CT CO CR : Addr}
theorem scRI : FnScope ["self", "numbers"] ["self", "numbers"] (defScope sRInit) := ⟨rfl, rfl, rfl, by decide +kernel, rfl, by decide +kernel, by decide +kernel⟩
theorem ok_rinit {f : Addr} {fd : FuncData} (F : Fun K "__init__" "Reader.__init__" sRInit f fd) (T : Txt K mg CL CT CO CR) : FnOk P w K mg base CX0 1 f fd ["self", "numbers"] (spRInit CR) := by
  refine F.ok scRI (fun vs H Q E h => ?_) (fun cdv A outer s H vs Q E hr h => ?_)
  · obtain ⟨p, dx, a, rfl, _⟩ := h
    rfl
  · obtain ⟨p, dx, a, rfl, hp, k⟩ := h
    refine ⟨_, pss_cons (ps_fld (pv 0) (pv 1) rfl) (pss_one (ps_fld (pv 0) pe_int rfl)), ?_⟩
    refine ⟨_, rfl, _, rfl, p, CR, dx, [], rfl, hp, T.clR, T.nNumbers, (by show 0 < 1000; decide), ?_⟩
    refine ⟨_, rfl, p, CR, dx, _, rfl, upd_same, T.clR, T.nPlace, (by show 1 < 1000; decide), ?_⟩
    exact k _ ⟨dx, upd_same.trans (congrArg (fun q => some (HO.ins CR dx q)) (rF_new a))⟩ fun b o e hb => by
      rw [upd_ne hb, upd_ne hb]
      exact e
theorem scE : FnScope ["self"] ["self"] (defScope sEnd) := ⟨rfl, rfl, rfl, by decide +kernel, rfl, by decide +kernel, by decide +kernel⟩
theorem ok_end {f : Addr} {fd : FuncData} (F : Fun K "at_end" "Reader.at_end" sEnd f fd) (T : Txt K mg CL CT CO CR) : FnOk P w K mg base CX0 1 f fd ["self"] (spEnd K CR) := by
  refine F.ok scE (fun vs H Q E h => ?_) (fun cdv A outer s H vs Q E hr h => ?_)
  · obtain ⟨r, a, p, ns, rfl, _⟩ := h
    rfl
  · obtain ⟨r, a, p, ns, rfl, ⟨dx, hr0⟩, hS, k⟩ := h
    refine ⟨_, pss_one (ps_ret (pe_cmpR op_ge (pe_fld (pv 0) rfl) (pe_callB call_len_seq (by rfl) T.len PySem.boot_len (pa_cons (pe_fld (pv 0) rfl) pa_nil)) (nomark _))), ?_⟩
    refine ⟨_, rfl, r, CR, dx, _, _, rfl, hr0, T.clR, T.nPlace, rF_place _ _, _, rfl, r, CR, dx, _, _, rfl, hr0, T.clR, T.nNumbers, rF_numbers _ _, a, _, rfl, .inl hS, _, _, rfl, rfl, ?_⟩
    rw [iv_len]
    have e : decide ((ns.length : Int) ≤ (p : Int)) = decide (ns.length ≤ p) := by
      by_cases c : ns.length ≤ p
      · rw [decide_eq_true c, decide_eq_true (by omega)]
      · rw [decide_eq_false c, decide_eq_false (by omega)]
    show Q (.bl (decide ((ns.length : Int) ≤ (p : Int)))) H
    rw [e]
    exact k
theorem drop_at {ns rest : List Int} {p : Nat} {z : Int} (h : ns.drop p = z :: rest) : ns[p]? = some z ∧ p < ns.length ∧ ns.drop (p + 1) = rest := by
  have e : (ns.drop p)[0]? = some z := by rw [h]; rfl
  rw [List.getElem?_drop, Nat.add_zero] at e
  refine ⟨e, (List.getElem?_eq_some_iff.mp e).1, ?_⟩
  rw [← List.drop_drop, h]; rfl
theorem scN : FnScope ["self", "number"] ["self"] (defScope sNum) := ⟨rfl, rfl, rfl, by decide +kernel, rfl, by decide +kernel, by decide +kernel⟩
theorem ok_num {f : Addr} {fd : FuncData} (F : Fun K "take_number" "Reader.take_number" sNum f fd) (T : Txt K mg CL CT CO CR) : FnOk P w K mg base CX0 1 f fd ["self"] (spNum K CR) := by
  refine F.ok scN (fun vs H Q E h => ?_) (fun cdv A outer s H vs Q E hr h => ?_)
  · obtain ⟨r, a, p, ns, rest, z, rfl, _⟩ := h
    rfl
  · obtain ⟨r, a, p, ns, rest, z, rfl, ⟨dx, hr0⟩, hS, hlen, hd, k⟩ := h
    obtain ⟨e1, e2, _⟩ := drop_at hd
    refine ⟨_, pss_cons (ps_set (i := 1) scN.nd rfl (Or.inl rfl) (pe_ix ix_list (pe_fld (pv 0) rfl) (pe_fld (pv 0) rfl) (fun _ _ => rfl)))
      (pss_cons (ps_fldaug (pv 0) pe_int in_add) (pss_one (ps_ret (pv 1)))), ?_⟩
    refine ⟨_, rfl, r, CR, dx, _, _, rfl, hr0, T.clR, T.nNumbers, rF_numbers _ _, _, rfl, r, CR, dx, _, _, rfl, hr0, T.clR, T.nPlace, rF_place _ _, a, _, _, .int z, rfl, rfl, hS, atI_nat (by unfold iv; rw [List.getElem?_map, e1]; rfl), ?_⟩
    refine ⟨_, rfl, r, CR, dx, _, _, rfl, hr0, T.clR, T.nPlace, rF_place _ _, _, _, rfl, rfl, dx, _, hr0, (by show 2 < 1000; decide), _, rfl, ?_⟩
    exact k _ ⟨dx, upd_same.trans (congrArg (fun q => some (HO.ins CR dx q)) (rF_put_place a p (p + 1)))⟩ fun b o e hb _ => (upd_ne hb).trans e
theorem slice_at {ns rest x : List Int} {p : Nat} (h : ns.drop p = x ++ rest) (hp : p ≤ ns.length) : cutV (iv ns) (some (p : Int)) (some ((p : Int) + (x.length : Int))) = iv x := by
  have e0 : ns.length - p = x.length + rest.length := by
    have q := congrArg List.length h
    rw [List.length_drop, List.length_append] at q
    exact q
  unfold cutV
  rw [show ((p : Int) + (x.length : Int)) = ((p + x.length : Nat) : Int) from by omega, HT.sIx_nat, HT.sIx_nat, iv_len, Nat.min_eq_left hp, Nat.min_eq_left (by omega), Nat.add_sub_cancel_left]
  unfold iv
  rw [← List.map_drop, h, ← List.map_take, List.take_left]
theorem scL : FnScope ["self", "length", "start"] ["self"] (defScope sList) := ⟨rfl, rfl, rfl, by decide +kernel, rfl, by decide +kernel, by decide +kernel⟩
theorem ok_list {f fN : Addr} {fd fdN : FuncData} (F : Fun K "take_list" "Reader.take_list" sList f fd) (T : Txt K mg CL CT CO CR) (FN : Fun K "take_number" "Reader.take_number" sNum fN fdN) (bN : Binds K fdN ["self"] []) (mN : Meth K CR "take_number" fN) :
    FnOk P w K mg base CX0 2 f fd ["self"] (spList K CR) := by
  have GN : FnOk P w K mg base CX0 1 fN fdN ["self"] (spNum K CR) := ok_num FN T
  refine F.ok scL (fun vs H Q E h => ?_) (fun cdv A outer s H vs Q E hr h => ?_)
  · obtain ⟨r, a, p, ns, rest, x, rfl, _⟩ := h
    rfl
  · obtain ⟨r, a, p, ns, rest, x, rfl, ⟨dx, hr0⟩, far, hlen, hd, k⟩ := h
    have hS := far.seq
    obtain ⟨e1, e2, e3⟩ := drop_at hd
    refine ⟨_, pss_cons (ps_set (i := 1) scL.nd rfl (Or.inl rfl) (pe_meth0 (pv 0) T.clR mN GN hr bN .nil pass0))
      (pss_cons (ps_set (i := 2) scL.nd rfl (Or.inl rfl) (pe_fld (pv 0) rfl))
      (pss_cons (ps_fld (pv 0) (pe_op op_add (pv 2) (pv 1)) rfl)
      (pss_one (ps_ret (pe_slice sl_list (pe_fld (pv 0) rfl) (po_some (pv 2)) (po_some (pe_fld (pv 0) rfl))))))), ?_⟩
    refine ⟨_, rfl, r, dx, _, rfl, hr0, rF_not (by decide +kernel) (by decide +kernel), r, a, p, ns, _, _, rfl, ⟨dx, hr0⟩, hS, hlen, hd, fun H1 ⟨dx1, hr1⟩ k1 => ?_⟩
    refine ⟨_, rfl, r, CR, dx1, _, _, rfl, hr1, T.clR, T.nPlace, rF_place _ _, ?_⟩
    refine ⟨_, rfl, _, rfl, _, _, rfl, rfl, _, rfl, r, CR, dx1, _, rfl, hr1, T.clR, T.nPlace, (by show 2 < 1000; decide), ?_⟩
    have eF : putF "place" (.int (((p + 1 : Nat) : Int) + (x.length : Int))) (rF a (p + 1)) = rF a (p + 1 + x.length) := rF_put_place a (p + 1) (p + 1 + x.length)
    rw [eF]
    have hS1 : SqL K (upd H1 r (.ins CR dx1 (rF a (p + 1 + x.length)))) a (iv ns) :=
      (far.step fun b o e n => (upd_ne (n r List.mem_cons_self)).trans (k1 b o e (n r List.mem_cons_self) (n r List.mem_cons_self))).seq
    refine ⟨_, rfl, r, CR, dx1, _, _, rfl, upd_same, T.clR, T.nNumbers, rF_numbers _ _, _, rfl, _, rfl, _, rfl, r, CR, dx1, _, _, rfl, upd_same, T.clR, T.nPlace, rF_place _ _, _, rfl, a, _, rfl, hS1, fun q hq => ?_⟩
    have nq : r ≠ q := fun z => by rw [← z, upd_same] at hq; cases hq
    have q1 : H1 q = none := by rw [upd_ne nq.symm] at hq; exact hq
    have q0 : H q = none := by
      cases z : H q with
      | none => rfl
      | some o =>
        have := k1 q o z nq.symm nq.symm
        rw [q1] at this; cases this
    refine k _ q ⟨dx1, (upd_ne nq).trans upd_same⟩ (fun b o e hb _ => ?_) q0 (upd_same.trans (congrArg (fun z => some (HO.lst z)) ?_))
    · rw [upd_ne (ne_of_none e q0), upd_ne hb]
      exact k1 b o e hb hb
    · exact slice_at e3 e2
end
end Tr
set_option maxRecDepth 100000
set_option maxHeartbeats 4000000
namespace Tr
open PySem PySem.Spec PyProof.Rows L2
theorem flat_take_le (ls : List (List Nat)) (i : Nat) : (flat (ls.take i)).length ≤ (flat ls).length := by
  have e : flat ls = flat (ls.take i) ++ flat (ls.drop i) := by
    unfold flat
    rw [← List.flatMap_append, List.take_append_drop]
  rw [e, List.length_append]
  exact Nat.le_add_right _ _
theorem flat_take_more {ls : List (List Nat)} {i : Nat} {w : List Nat} (h : ls[i]? = some w) : flat (ls.take (i + 1)) = flat (ls.take i) ++ ((w.length : Int) :: asInts w) := by
  rw [take_more h, flat_snoc]
section
variable {P : Program} {w : World} {K : PySem.W.Frag} {mg : Str → Option Value} {base : Heap} {CL CT CO CR : Addr}
theorem scRo : FnScope ["lists", "row", "numbers"] ["lists"] (defScope sRows) := ⟨rfl, rfl, rfl, by decide +kernel, rfl, by decide +kernel, by decide +kernel⟩
theorem ok_rows {f : Addr} {fd : FuncData} (F : Fun K "counted_lists" "counted_lists" sRows f fd) (T : Txt K mg CL CT CO CR) : FnOk P w K mg base CX0 1 f fd ["lists"] spRows := by
  refine F.ok scRo (fun vs H Q E h => ?_) (fun cdv A outer s H vs Q E hr h => ?_)
  · obtain ⟨p, ls, rfl, _⟩ := h
    rfl
  · obtain ⟨p, ls, rfl, ⟨as, hp, ⟨len, rows⟩⟩, few, k⟩ := h
    refine ⟨_, pss_cons (ps_set (i := 1) scRo.nd rfl (Or.inl rfl) (pe_lst pa_nil))
      (pss_cons (ps_for PassesOwn.never rfl (pi_list (pv 0)) (pg_name (i := 2) scRo.nd rfl (Or.inl rfl))
        (pss_cons (ps_expr (pe_bm PySem.F.plainAttrs_list PySem.F.slot_list_append PySem.F.type_list_append mt_append (pv 1) (pa_cons (pe_callB call_len_seq (by rfl) T.len PySem.boot_len (pa_cons (pv 2) pa_nil)) pa_nil)))
        (pss_one (ps_expr (pe_bm PySem.F.plainAttrs_list PySem.F.slot_list_extend PySem.F.type_list_extend mt_extendS (pv 1) (pa_cons (pv 2) pa_nil))))))
      (pss_one (ps_ret (pv 1)))), ?_⟩
    refine ⟨Nat.zero_le _, fun q hq => ?_⟩
    have s0 : Same H (upd H q (.lst [])) := fun b o e => (upd_ne (ne_of_none e hq)).trans e
    refine ⟨_, rfl, p, rfl, ⟨_, SqL.of (s0 _ _ hp)⟩, for_list (K := K) (a := p) (xs := as.map V.ref) (fun i σ H' => ∃ v : Option V, σ = [some (.ref p), some (.ref q), v] ∧ Same H H' ∧ H' q = some (.lst (iv (flat (ls.take i)))))
      ⟨none, rfl, s0, upd_same⟩ (fun i σ H' _ ⟨_, _, s1, _⟩ => SqL.of (s1 _ _ hp)) ?_ ?_⟩
    · rintro i y σ H' hi ⟨v, rfl, s1, e1⟩
      obtain ⟨a, ha, rfl⟩ : ∃ a, as[i]? = some a ∧ y = V.ref a := by
        rw [List.getElem?_map] at hi
        cases e : as[i]? with
        | none => rw [e] at hi; cases hi
        | some a => rw [e] at hi; exact ⟨a, rfl, (Option.some.inj hi).symm⟩
      obtain ⟨r, hr2⟩ : ∃ r, ls[i]? = some r := ⟨_, List.getElem?_eq_getElem (len ▸ (List.getElem?_eq_some_iff.mp ha).1)⟩
      have hrow := rows i a r ha hr2
      have nq : a ≠ q := hrow.elim (fun h => ne_of_none h hq) fun h => ne_of_none h hq
      have hrow' : RowR H' a r := rowR_stays _ _ _ _ s1 hrow
      have more := flat_take_more hr2
      have le := flat_take_le ls (i + 1)
      rw [more, List.length_append, List.length_cons, asInts_len] at le
      refine ⟨_, rfl, .inl ⟨rfl, _, SqL.of e1⟩, _, rfl, a, nv r, rfl, hrow'.imp SqL.of SqT.of, q, _, _, rfl, rfl, e1, ?_, ?_⟩
      · rw [iv_len]
        show (flat (ls.take i)).length < 16777216
        omega
      · refine ⟨_, rfl, .inl ⟨rfl, _, SqL.of upd_same⟩, _, rfl, q, a, _, nv r, rfl, rfl, upd_same, hrow'.imp (upd_ne nq).trans (upd_ne nq).trans, ?_, ?_⟩
        · rw [List.length_append, iv_len, nv_len]
          show (flat (ls.take i)).length + 1 + r.length ≤ 16777216
          omega
        · refine ⟨_, rfl, fun b o e => ?_, ?_⟩
          · have nb : b ≠ q := ne_of_none e hq
            rw [upd_ne nb, upd_ne nb]
            exact s1 b o e
          · rw [upd_same, more, iv_app, nv_len]
            show some (HO.lst (iv (flat (ls.take i)) ++ [V.int (r.length : Int)] ++ nv r)) = some (HO.lst (iv (flat (ls.take i)) ++ (V.int (r.length : Int) :: nv r)))
            rw [List.append_assoc]; rfl
    · rintro σ H' ⟨v, rfl, s1, e1⟩
      rw [List.length_map, len, List.take_length] at e1
      exact ⟨_, rfl, k H' q s1 hq e1⟩
end
end Tr
set_option maxRecDepth 100000
set_option maxHeartbeats 4000000
namespace Tr
open PySem PySem.Spec PyProof.Rows L2
section
variable {P : Program} {w : World} {K : PySem.W.Frag} {mg : Str → Option Value} {base : Heap} {CL CT CO CR : Addr}
theorem scMay : FnScope ["self", "ties"] ["self", "ties"] (defScope sMay) := ⟨rfl, rfl, rfl, by decide +kernel, rfl, by decide +kernel, by decide +kernel⟩
theorem ok_may {f fH : Addr} {fd fdH : FuncData} (F : Fun K "may_have_treadles" "Loom.may_have_treadles" sMay f fd) (T : Txt K mg CL CT CO CR) (FH : Fun K "has_shafts" "Loom.has_shafts" sHas fH fdH) (bH : Binds K fdH ["self", "shaft_sets"] []) (mH : Meth K CL "has_shafts" fH) :
    FnOk P w K mg base CX0 2 f fd ["self", "ties"] (spMay CL) := by
  have GH : FnOk P w K mg base CX0 1 fH fdH ["self", "shaft_sets"] (spHas CL) := ok_has FH T
  refine F.ok scMay (fun vs H Q E h => ?_) (fun cdv A outer s H vs Q E hr h => ?_)
  · obtain ⟨x, l, b, m, t, rfl, _⟩ := h
    rfl
  · obtain ⟨x, l, b, m, t, rfl, ⟨⟨dx, hx⟩, hl⟩, hb, k⟩ := h
    obtain ⟨t1, g1⟩ := T.gMostT
    refine ⟨_, pss_one (ps_ret (pe_and (pe_cmpR op_le (pe_callB call_len_seq (by rfl) T.len PySem.boot_len (pa_cons (pv 1) pa_nil)) (pe_glob (by rfl) g1 relI) (nomark _))
      (pe_one (pe_meth (pv 0) T.clL mH GH hr bH .nil pass0 (pa_cons (pv 1) pa_nil))))), ?_⟩
    refine ⟨_, rfl, b, _, rfl, .inl (SqL.of hb), _, _, rfl, rfl, _, rfl, ?_⟩
    rw [nv_len]
    by_cases c : t.length ≤ 8
    · refine ifT (decide_eq_true (by omega)) ?_
      refine ⟨_, rfl, x, dx, _, rfl, hx, lF_not (by decide +kernel) (by decide +kernel), _, rfl, x, l, b, m, t, rfl, ⟨⟨dx, hx⟩, hl⟩, hb, ?_⟩
      rw [decide_eq_true c, Bool.true_and] at k
      exact k
    · refine ifF (decide_eq_false (by omega)) ?_
      rw [decide_eq_false c, Bool.false_and] at k
      exact k
theorem scNI : FnScope ["self", "ways", "pick", "lift"] ["self", "ways"] (defScope sNotIn) := ⟨rfl, rfl, rfl, by decide +kernel, rfl, by decide +kernel, by decide +kernel⟩
theorem ok_notIn {f : Addr} {fd : FuncData} (F : Fun K "first_not_in" "Loom.first_not_in" sNotIn f fd) (T : Txt K mg CL CT CO CR) : FnOk P w K mg base CX0 1 f fd ["self", "ways"] (spNotIn CL) := by
  refine F.ok scNI (fun vs H Q E h => ?_) (fun cdv A outer s H vs Q E hr h => ?_)
  · obtain ⟨x, l, d, m, f, rfl, _⟩ := h
    rfl
  · obtain ⟨x, l, d, m, f, rfl, ⟨⟨dx, hx⟩, hl⟩, ⟨kvs, hd, wd⟩, k⟩ := h
    have hu := hu_of hr
    refine ⟨_, pss_cons (ps_for PassesOwn.never rfl (pi_enum (by rfl) T.enumerate (pa_cons (pe_fld (pv 0) rfl) pa_nil)) (pg_tup rfl (pgs_cons (pg_name (i := 2) scNI.nd rfl (Or.inl rfl)) (pgs_cons (pg_name (i := 3) scNI.nd rfl (Or.inl rfl)) pgs_nil)))
      (pss_one (ps_if (pt_cmp (pc_dnotin hu (pv 3) (pv 1))) (pss_one (ps_ret (pv 2))) pss_nil)))
      (pss_one (ps_ret pe_non)), ?_⟩
    refine ⟨_, rfl, x, CL, dx, _, _, rfl, hx, T.clL, T.nPicked, lF_picked _ _, l, nv m.picks, rfl, SqL.of hl, for_it (walk_enum (K := K) (a := l) (xs := nv m.picks))
      (fun i σ H' => ∃ v2 v3 : Option V, σ = [some (.ref x), some (.ref d), v2, v3] ∧ Same H H' ∧ ∀ b ∈ m.picks.take i, f b ≠ none)
      ⟨none, none, rfl, Same.refl _, fun b hb => by rw [List.take_zero] at hb; cases hb⟩ (fun i σ H' _ ⟨_, _, _, s, _⟩ => SqL.of (s _ _ hl)) ?_ ?_⟩
    · rintro i y σ H1 H2 hi ⟨v2, v3, rfl, s1, no⟩ ⟨t, xi, y', rfl, ht, rfl, e1, e2⟩
      cases e1
      obtain ⟨b, hb, rfl⟩ := nv_at e2
      have s2 : Same H (upd H1 t (.tup [.int (i : Nat), .int (b : Int)])) := fun c o e => (upd_ne (ne_of_none (s1 _ _ e) ht)).trans (s1 _ _ e)
      refine ⟨t, _, rfl, SqT.of upd_same, rfl, ?_⟩
      refine ⟨_, _, rfl, _, _, rfl, rfl, _, rfl, _, rfl, d, _, rfl, DGet.k (k := .inl (b : Int)) (s2 _ _ hd), _, rfl, ?_⟩
      cases e : f b with
      | none =>
        rw [(wd b).1 e]
        refine iteT ⟨_, rfl, ?_⟩
        have q : notIn f m.picks = some i := by
          obtain ⟨h1, h2⟩ := List.getElem?_eq_some_iff.mp hb
          unfold notIn
          rw [List.findIdx?_eq_some_iff_getElem]
          refine ⟨h1, by rw [h2, e]; rfl, fun j hj => ?_⟩
          have := no m.picks[j] (List.mem_take_iff_getElem.mpr ⟨j, by omega, rfl⟩)
          cases z : f m.picks[j] with
          | none => exact absurd z this
          | some y => exact fun q => Bool.noConfusion q
        rw [q] at k
        exact k _ s2
      | some p =>
        obtain ⟨a, ea, _⟩ := (wd b).2 p e
        rw [ea]
        refine iteF ⟨_, _, rfl, s2, fun c hc => ?_⟩
        rw [take_more hb, List.mem_append] at hc
        rcases hc with hc | hc
        · exact no c hc
        · rw [List.mem_singleton.mp hc, e]
          exact fun z => nomatch z
    · rintro σ H' ⟨v2, v3, rfl, s1, no⟩
      rw [nv_len, List.take_length] at no
      have q : notIn f m.picks = none := by
        unfold notIn
        rw [List.findIdx?_eq_none_iff]
        intro b hb
        cases z : f b with
        | none => exact absurd z (no b hb)
        | some y => rfl
      rw [q] at k
      exact k _ s1
theorem mapM_get {α β : Type} (f : α → Option β) : ∀ (l : List α) (r : List β), l.mapM f = some r → ∀ (i : Nat) (a : α), l[i]? = some a → ∃ y, r[i]? = some y ∧ f a = some y
  | [], r, _, i, a, h => by cases h
  | b :: l, r, h, i, a, ha => by
    rw [mapM_cons] at h
    cases e : f b with
    | none => rw [e] at h; cases h
    | some x =>
      cases e2 : l.mapM f with
      | none => rw [e, e2] at h; cases h
      | some r' =>
        rw [e, e2] at h
        cases h
        cases i with
        | zero => cases ha; exact ⟨x, rfl, e⟩
        | succ i => exact mapM_get f l r' e2 i a ha
theorem scPr : FnScope ["self", "ways", "lift"] ["self", "ways"] (defScope sPressed) := ⟨rfl, rfl, rfl, by decide +kernel, rfl, by decide +kernel, by decide +kernel⟩
theorem ok_pressed {f : Addr} {fd : FuncData} (F : Fun K "pressed_by" "Loom.pressed_by" sPressed f fd) (T : Txt K mg CL CT CO CR) : FnOk P w K mg base CX0 1 f fd ["self", "ways"] (spPressed CL) := by
  refine F.ok scPr (fun vs H Q E h => ?_) (fun cdv A outer s H vs Q E hr h => ?_)
  · obtain ⟨x, l, d, m, f, ps, rfl, _⟩ := h
    rfl
  · obtain ⟨x, l, d, m, f, ps, rfl, ⟨⟨dx, hx⟩, hl⟩, few, ⟨kvs, hd, wd⟩, eps, k⟩ := h
    have hu := hu_of hr
    refine ⟨_, pss_one (ps_ret (pe_lc (own := [("lift", 2)]) (g := gName 2) (tt := tYes) (te := tDGet (tVar 1) (tVar 2)) rfl scPr.nd
      (pi_list (pe_fld (pv 0) rfl))
      (blkOk_by (N := ["self", "ways", "lift"]) (sc := defScope sPressed) (by decide +kernel)) (fun _ _ _ _ _ => pg_name (i := 2) scPr.nd rfl (Or.inl rfl))
      (fun _ _ _ _ _ => pts_nil)
      (fun _ _ _ _ _ => pe_dget hu (pv 1) (pv 2) (fun _ _ => rfl)))), ?_⟩
    refine ⟨_, rfl, x, CL, dx, _, _, rfl, hx, T.clL, T.nPicked, lF_picked _ _, l, rfl, ⟨_, SqL.of hl⟩, fun D hD => ?_⟩
    refine lc_list (K := K) (a := l) (xs := nv m.picks) (fun i H' => ∃ as : List Addr, Same H H' ∧ H' D = some (.lst (as.map V.ref)) ∧ Each LstR H as (ps.take i))
      ⟨[], fun b o e => (upd_ne (ne_of_none e hD)).trans e, upd_same, .nil⟩ (fun i H' _ ⟨_, s, _⟩ => SqL.of (s _ _ hl)) ?_ ?_
    · rintro i y H' hi ⟨as, s1, e1, E1⟩
      obtain ⟨b, hb, rfl⟩ := nv_at hi
      obtain ⟨p, hp, ep⟩ := mapM_get f _ _ eps i b hb
      obtain ⟨a, ea, ha⟩ := (wd b).2 p ep
      refine ⟨rfl, yesT (iteT ?_)⟩
      refine ⟨_, rfl, _, rfl, d, _, rfl, ea ▸ DGet.k (k := .inl (b : Int)) (s1 _ _ hd), as.map V.ref, e1, ?_, as ++ [a], fun v o e => ?_, ?_, ?_⟩
      · rw [List.length_map, E1.len]
        refine Nat.lt_of_le_of_lt (List.length_take_le _ _) ?_
        have := (List.getElem?_eq_some_iff.mp hb).1
        show i < 16777216
        omega
      · rw [upd_ne (ne_of_none e hD)]
        exact s1 v o e
      · rw [upd_same, refs_snoc]
      · rw [take_more hp]
        exact E1.snoc ha
    · rintro H' ⟨as, s1, e1, E1⟩
      rw [nv_len, ← mapM_len f _ _ eps, List.take_length] at E1
      exact k H' D s1 hD ⟨as, e1, E1.mono lstR_stays s1⟩
end
end Tr
set_option maxRecDepth 100000
set_option maxHeartbeats 4000000
namespace Tr
open PySem PySem.Spec PyProof.Rows L2
theorem or_nat (a b : Nat) : Builtin.bitOr (a : Int) (b : Int) = ((a ||| b : Nat) : Int) := by
  rw [bitOr_nn (Int.natCast_nonneg _) (Int.natCast_nonneg _), Int.toNat_natCast, Int.toNat_natCast]
theorem nv_get {l : List Nat} {i : Nat} (h : i < l.length) : (nv l)[i]? = some (.int (l.getD i 0 : Nat)) := by
  unfold nv iv asInts
  rw [List.map_map, List.getElem?_map, List.getElem?_eq_getElem h, List.getD_eq_getElem?_getD, List.getElem?_eq_getElem h]; rfl
theorem pe_weak {X : Cx} {e : Expr} {t t' : TE} (he : PE X e t) (imp : ∀ σ H Q, t' σ H Q → t σ H Q) : PE X e t' := ⟨fun pins s σ H Q I h => he.run pins s σ H Q I (imp σ H Q h)⟩
theorem pt_weak {X : Cx} {e : Expr} {t t' : TT} (he : PT X e t) (imp : ∀ σ H Q, t' σ H Q → t σ H Q) : PT X e t' := ⟨fun pins s σ H Q I h => he.run pins s σ H Q I (imp σ H Q h)⟩
/-- where a row's next treadle begins, the row in slot i -/
def tStart (a i : Nat) : TE := fun σ H Q => ∃ (r : Addr) (p : List Nat), σ[i]? = some (some (.ref r)) ∧ LstR H r p ∧ Q (.int (nx a p : Nat)) H
theorem nx_last (a : Nat) (l : List Nat) (x : Nat) : nx a (l ++ [x]) = x + 1 := by
  unfold nx
  rw [List.getLast?_concat]
theorem nil_or_last (p : List Nat) : p = [] ∨ ∃ l x, p = l ++ [x] := by
  rcases List.eq_nil_or_concat p with h | ⟨l, x, h⟩
  · exact .inl h
  · exact .inr ⟨l, x, by rw [h, List.concat_eq_append]⟩
theorem flatMap_take_le {α β : Type} (f : α → List β) (ls : List α) (i : Nat) : ((ls.take i).flatMap f).length ≤ (ls.flatMap f).length := by
  have e : ls.flatMap f = (ls.take i).flatMap f ++ (ls.drop i).flatMap f := by rw [← List.flatMap_append, List.take_append_drop]
  rw [e, List.length_append]
  exact Nat.le_add_right _ _
theorem flatMap_take_more {α β : Type} (f : α → List β) {ls : List α} {i : Nat} {x : α} (h : ls[i]? = some x) : (ls.take (i + 1)).flatMap f = (ls.take i).flatMap f ++ f x := by
  rw [take_more h, List.flatMap_append, List.flatMap_cons, List.flatMap_nil, List.append_nil]
theorem range'_more (a n : Nat) : List.range' a (n + 1) = List.range' a n ++ [a + n] := by
  rw [List.range'_concat, Nat.one_mul]
theorem lifted_nil (t : List Nat) : lifted t [] = 0 := rfl
section
variable {P : Program} {w : World} {K : PySem.W.Frag} {mg : Str → Option Value} {base : Heap} {CL CT CO CR : Addr}
theorem scLf : FnScope ["row", "ties", "shaft_set", "treadle"] ["row", "ties"] (defScope sLifted) := ⟨rfl, rfl, rfl, by decide +kernel, rfl, by decide +kernel, by decide +kernel⟩
theorem ok_lifted {f : Addr} {fd : FuncData} (F : Fun K "lifted" "lifted" sLifted f fd) : FnOk P w K mg base CX0 1 f fd ["row", "ties"] spLifted := by
  refine F.ok scLf (fun vs H Q E h => ?_) (fun cdv A outer s H vs Q E hr h => ?_)
  · obtain ⟨a, b, p, t, rfl, _⟩ := h
    rfl
  · obtain ⟨a, b, p, t, rfl, ha, hb, lt, k⟩ := h
    refine ⟨_, pss_cons (ps_set (i := 2) scLf.nd rfl (Or.inl rfl) pe_int)
      (pss_cons (ps_for PassesOwn.never rfl (pi_list (pv 0)) (pg_name (i := 3) scLf.nd rfl (Or.inl rfl))
        (pss_one (ps_set (i := 2) scLf.nd rfl (Or.inl rfl) (pe_op op_or (pv 2) (pe_ix ix_list (pv 1) (pv 3) (fun _ _ => rfl))))))
      (pss_one (ps_ret (pv 2)))), ?_⟩
    refine ⟨_, rfl, a, rfl, ⟨_, SqL.of ha⟩, for_list (K := K) (a := a) (xs := nv p) (fun i σ H' => ∃ v : Option V, σ = [some (.ref a), some (.ref b), some (.int (lifted t (p.take i) : Nat)), v] ∧ H' = H)
      ⟨none, rfl, rfl⟩ (fun i σ H' _ ⟨_, _, e⟩ => by rw [e]; exact SqL.of ha) ?_ ?_⟩
    · rintro i y σ H' hi ⟨v, rfl, rfl⟩
      obtain ⟨z, hz, rfl⟩ := nv_at hi
      refine ⟨_, rfl, _, rfl, _, rfl, b, _, _, _, rfl, rfl, SqL.of hb, atI_nat (nv_get (lt z (List.mem_of_getElem? hz))), _, _, rfl, rfl, ?_⟩
      refine ⟨some (.int (z : Int)), ?_, rfl⟩
      rw [take_more hz, lifted_snoc, ← or_nat]; rfl
    · rintro σ H' ⟨v, rfl, rfl⟩
      rw [nv_len, List.take_length]
      exact ⟨_, rfl, k⟩
theorem scLg : FnScope ["rows", "treadles_there", "longer", "row", "start", "treadle"] ["rows", "treadles_there"] (defScope sLonger) := ⟨rfl, rfl, rfl, by decide +kernel, rfl, by decide +kernel, by decide +kernel⟩
theorem ok_longer {f : Addr} {fd : FuncData} (F : Fun K "rows_one_longer" "rows_one_longer" sLonger f fd) (T : Txt K mg CL CT CO CR) : FnOk P w K mg base CX0 1 f fd ["rows", "treadles_there"] spLonger := by
  refine F.ok scLg (fun vs H Q E h => ?_) (fun cdv A outer s H vs Q E hr h => ?_)
  · obtain ⟨a, n, ls, rfl, _⟩ := h
    rfl
  · obtain ⟨a, n, ls, rfl, ⟨as, ha, EA⟩, hn, small, few, k⟩ := h
    refine ⟨_, pss_cons (ps_set (i := 2) scLg.nd rfl (Or.inl rfl) (pe_lst pa_nil))
      (pss_cons (ps_for PassesOwn.never rfl (pi_list (pv 0)) (pg_name (i := 3) scLg.nd rfl (Or.inr rfl))
        (pss_cons (ps_set (i := 4) scLg.nd rfl (Or.inl rfl) (pe_weak (t' := tStart 0 3) (pe_ifExp (pt_truth (pv 3) (by intro _; rfl)) (pe_op op_add (pe_ix ix_list (pv 3) (pe_un un_neg pe_int) (fun _ _ => rfl)) pe_int) pe_int) (by
          rintro σ H Q ⟨r, p, e, hp, q⟩
          refine ⟨_, e, _, .inl ⟨_, SqL.of hp, rfl⟩, ?_⟩
          rcases nil_or_last p with rfl | ⟨l, x, rfl⟩
          · exact iteF q
          · rw [nv_app]
            refine ifT (by cases nv l <;> rfl) ?_
            refine ⟨_, e, _, rfl, r, _, _, _, rfl, rfl, SqL.of (hp.trans (by rw [nv_app]; rfl)), atI_last _ _, _, _, rfl, rfl, ?_⟩
            rw [nx_last] at q
            exact q)))
        (pss_one (ps_expr (pe_bm PySem.F.plainAttrs_list PySem.F.slot_list_extend PySem.F.type_list_extend mt_extend (pv 2) (pa_cons
          (pe_lc (own := [("treadle", 5)]) (g := gName 5) (tt := tYes) (te := tOp rCat (tVar 3) (tLst (tCons (tVar 5) tNil))) rfl scLg.nd
            (pi_range2 (by rfl) T.range (pa_cons (pv 4) (pa_cons (pv 1) pa_nil)))
            (blkOk_by (N := ["rows", "treadles_there", "longer", "row", "start", "treadle"]) (sc := defScope sLonger) (by decide +kernel)) (fun _ _ _ _ _ => pg_name (i := 5) scLg.nd rfl (Or.inl rfl))
            (fun _ _ _ _ _ => pts_nil)
            (fun _ _ _ _ _ => pe_op op_cat (pv 3) (pe_lst (pa_cons (pv 5) pa_nil)))) pa_nil))))))
      (pss_one (ps_ret (pv 2)))), ?_⟩
    refine ⟨Nat.zero_le _, fun q hq => ?_⟩
    have s0 : Same H (upd H q (.lst [])) := fun b o e => (upd_ne (ne_of_none e hq)).trans e
    refine ⟨_, rfl, a, rfl, ⟨_, SqL.of (s0 _ _ ha)⟩, for_list (K := K) (a := a) (xs := as.map V.ref) (fun i σ H' => ∃ (v3 v4 v5 : Option V) (bs : List Addr), σ = [some (.ref a), some (.int (n : Int)), some (.ref q), v3, v4, v5] ∧ Same H H' ∧
        H' q = some (.lst (bs.map V.ref)) ∧ Each LstR (Off H' (upd H q (.lst []))) bs ((ls.take i).flatMap (grow 0 n)))
      ⟨none, none, none, [], rfl, s0, upd_same, .nil⟩ (fun i σ H' _ ⟨_, _, _, _, _, s, _⟩ => SqL.of (s _ _ ha)) ?_ ?_⟩
    · rintro i y σ H' hi ⟨v3, v4, v5, bs, rfl, s1, e1, E1⟩
      obtain ⟨r, hr1, rfl⟩ := ref_at hi
      obtain ⟨p, hp, hrow⟩ := EA.get hr1
      have hrow' := s1 _ _ hrow
      obtain ⟨sm1, sm2⟩ := small p (List.mem_of_getElem? hp)
      have more := flatMap_take_more (grow 0 n) hp
      have le := flatMap_take_le (grow 0 n) ls (i + 1)
      rw [more, List.length_append] at le
      have nxn : nx 0 p ≤ n := by
        rcases nil_or_last p with rfl | ⟨l, x, rfl⟩
        · exact Nat.zero_le _
        · rw [nx_last]
          exact sm2 x (List.mem_append_right _ List.mem_cons_self)
      have gl : (grow 0 n p).length = n - nx 0 p := by
        unfold grow
        rw [List.length_map, List.length_range']
      refine ⟨r, p, rfl, hrow', ?_⟩
      refine ⟨_, rfl, .inl ⟨rfl, _, SqL.of e1⟩, ?_⟩
      refine ⟨_, rfl, _, rfl, _, _, rfl, ⟨by omega, by omega, by omega, by omega⟩, fun D hD => ?_⟩
      have nDq : D ≠ q := (ne_of_none e1 hD).symm
      have BD : upd (upd H q (.lst [])) D (.lst []) D = some (.lst []) := upd_same
      refine lc_range (lo := ((nx 0 p : Nat) : Int)) (n := ((n : Int) - ((nx 0 p : Nat) : Int)).toNat) (fun j H2 => ∃ cs : List Addr, Same H' H2 ∧ H2 D = some (.lst (cs.map V.ref)) ∧
          Each LstR (Off H2 (upd (upd H q (.lst [])) D (.lst []))) cs ((List.range' (nx 0 p) j).map fun k => p ++ [k]))
        ⟨[], fun b o e => (upd_ne (ne_of_none e hD)).trans e, upd_same, .nil⟩ ?_ ?_
      · rintro j H2 hj ⟨cs, s2, e2, E2⟩
        refine ⟨rfl, yesT (iteT ?_)⟩
        refine ⟨_, rfl, _, rfl, (by show 1 ≤ sizeLine; decide), fun u hu => ?_⟩
        have hrow2 := s2 _ _ hrow'
        have nru : r ≠ u := ne_of_none hrow2 hu
        have nDu : D ≠ u := ne_of_none e2 hu
        refine ⟨r, u, _, _, rfl, rfl, (upd_ne nru).trans hrow2, upd_same, ?_, fun v hv => ?_⟩
        · rw [nv_len]
          show p.length + 1 ≤ 16777216
          omega
        have nvu : v ≠ u := fun z => by rw [z, upd_same] at hv; cases hv
        have hv2 : H2 v = none := by rw [upd_ne nvu] at hv; exact hv
        have nDv : D ≠ v := ne_of_none e2 hv2
        have s3 : Same H2 (upd (upd H2 u (.lst [.int (((nx 0 p : Nat) : Int) + (j : Nat))])) v (.lst (nv p ++ [.int (((nx 0 p : Nat) : Int) + (j : Nat))]))) := fun b o e => by
          rw [upd_ne (ne_of_none e hv2), upd_ne (ne_of_none e hu)]
          exact e
        have B1 : Cov (upd (upd H q (.lst [])) D (.lst [])) H2 := (((Cov.of_same s1).more e1).same s2).more e2
        have e3 := s3 _ _ e2
        refine ⟨cs.map V.ref, e3, ?_, cs ++ [v], fun b o e => (upd_ne (ne_of_none e hD)).trans (s3 _ _ (s2 _ _ e)), ?_, ?_⟩
        · rw [List.length_map, E2.len, List.length_map, List.length_range']
          show j < 16777216
          omega
        · rw [upd_same, refs_snoc]
        · rw [range'_more, List.map_append]
          refine E2.grow lstR_stays BD s3 (.one (off_of (B1 v hv2) (upd_same.trans ?_)))
          rw [nv_app]; rfl
      · rintro H2 ⟨cs, s2, e2, E2⟩
        have ej : ((n : Int) - ((nx 0 p : Nat) : Int)).toNat = n - nx 0 p := by omega
        rw [ej] at E2
        have B1 : Cov (upd H q (.lst [])) H2 := ((Cov.of_same s1).more e1).same s2
        have e1' := s2 _ _ e1
        refine ⟨q, D, _, _, rfl, rfl, e1', e2, ?_, ?_⟩
        · rw [List.length_map, List.length_map, E1.len, E2.len]
          show ((ls.take i).flatMap (grow 0 n)).length + (grow 0 n p).length ≤ 16777216
          omega
        · refine ⟨some (.ref r), some (.int ((nx 0 p : Nat) : Int)), _, bs ++ cs, rfl, fun b o e => (upd_ne (ne_of_none e hq)).trans (s2 _ _ (s1 _ _ e)), ?_, ?_⟩
          · rw [upd_same, List.map_append]
          · rw [more]
            refine E1.grow lstR_stays upd_same s2 (E2.mono lstR_stays (off_less fun b e => ?_))
            by_cases z : b = D
            · rw [z, upd_same] at e; cases e
            · rw [upd_ne z] at e; exact e
    · rintro σ H' ⟨v3, v4, v5, bs, rfl, s1, e1, E1⟩
      rw [List.length_map, EA.len, List.take_length] at E1
      exact ⟨_, rfl, k H' q s1 hq ⟨bs, e1, E1.mono lstR_stays off_same⟩⟩
end
end Tr
set_option maxRecDepth 100000
set_option maxHeartbeats 4000000
namespace Tr
open PySem PySem.Spec PyProof.Rows L2
/-- the dict of ways behind these rows -/
def WInv (t : List Nat) (W : List (List Nat)) (H : Hp) (d : Addr) : Prop := ∃ kvs : List (Key × V), H d = some (.dK kvs) ∧ kvs.length ≤ W.length ∧
  ∀ b : Nat, (firstWay t W b = none → valV kvs (.inl (b : Int)) = none) ∧ ∀ p, firstWay t W b = some p → ∃ a, valV kvs (.inl (b : Int)) = some (.ref a) ∧ LstR H a p
theorem WInv.keep {t : List Nat} {W : List (List Nat)} {H H' : Hp} {d : Addr} (h : WInv t W H d) (s : Same H H') : WInv t W H' d :=
  let ⟨kvs, h1, h2, h3⟩ := h
  ⟨kvs, s _ _ h1, h2, fun b => ⟨(h3 b).1, fun p e => let ⟨a, e1, e2⟩ := (h3 b).2 p e; ⟨a, e1, s _ _ e2⟩⟩⟩
theorem key_ne {a b : Nat} (h : a ≠ b) : ¬ ((.inl (a : Int) : Key) = .inl (b : Int)) := fun z => h (by injection z with z; omega)
section
variable {P : Program} {w : World} {K : PySem.W.Frag} {mg : Str → Option Value} {base : Heap} {CL CT CO CR : Addr}
theorem scWy : FnScope ["ties", "feet", "ways", "rows", "foot", "row"] ["ties", "feet"] (defScope sWays) := ⟨rfl, rfl, rfl, by decide +kernel, rfl, by decide +kernel, by decide +kernel⟩
theorem ok_ways {f fL fF : Addr} {fd dL dF : FuncData} (F : Fun K "first_ways" "first_ways" sWays f fd) (T : Txt K mg CL CT CO CR)
    (gL : mg "rows_one_longer" = some (.ref fL)) (kL : PySem.W.keepIn K (.ref fL) = true) (bL : Binds K dL ["rows", "treadles_there"] []) (GL : FnOk P w K mg base CX0 1 fL dL ["rows", "treadles_there"] spLonger)
    (gF : mg "lifted" = some (.ref fF)) (kF : PySem.W.keepIn K (.ref fF) = true) (bF : Binds K dF ["row", "ties"] []) (GF : FnOk P w K mg base CX0 1 fF dF ["row", "ties"] spLifted) :
    FnOk P w K mg base CX0 2 f fd ["ties", "feet"] spWays := by
  refine F.ok scWy (fun vs H Q E h => ?_) (fun cdv A outer s H vs Q E hr h => ?_)
  · obtain ⟨b, f, t, rfl, _⟩ := h
    rfl
  · obtain ⟨b, f, t, rfl, hb, ht, hf, k⟩ := h
    refine ⟨_, pss_cons (ps_set (i := 2) scWy.nd rfl (Or.inl rfl) (pe_disp (pps_cons pe_int (pe_lst pa_nil) pps_nil) (by rfl) (by rfl) (fun z => by cases z) (by decide)))
      (pss_cons (ps_set (i := 3) scWy.nd rfl (Or.inl rfl) (pe_lst (pa_cons (pe_lst pa_nil) pa_nil)))
      (pss_cons (ps_for PassesOwn.never rfl (pi_range1 rfl T.range (pa_cons (pe_callB (call_min2 rfl) (by rfl) T.min (by decide +kernel) (pa_cons (pv 1) (pa_cons (pe_callB call_len_seq (by rfl) T.len PySem.boot_len (pa_cons (pv 0) pa_nil)) pa_nil))) pa_nil)) (pg_name (i := 4) scWy.nd rfl (Or.inl rfl))
        (pss_cons (ps_set (i := 3) scWy.nd rfl (Or.inl rfl) (pe_call GL hr (by rfl) gL kL bL .nil pass0 (pa_cons (pv 3) (pa_cons (pe_callB call_len_seq (by rfl) T.len PySem.boot_len (pa_cons (pv 0) pa_nil)) pa_nil))))
        (pss_one (ps_for PassesOwn.never rfl (pi_list (pv 3)) (pg_name (i := 5) scWy.nd rfl (Or.inl rfl))
          (pss_one (ps_expr (pe_dsetd (pv 2) (pe_call GF hr (by rfl) gF kF bF .nil pass0 (pa_cons (pv 5) (pa_cons (pv 0) pa_nil))) (pv 5) ⟨rfl, rfl, rfl, rfl⟩)))))))
      (pss_one (ps_ret (pv 2))))), ?_⟩
    intro d hd
    refine ⟨Nat.zero_le _, fun l0 hl0 => ?_⟩
    have nl0 : l0 ≠ d := fun z => by rw [z, upd_same] at hl0; cases hl0
    have hl0' : H l0 = none := by rw [upd_ne nl0] at hl0; exact hl0
    refine ⟨(upd_ne nl0.symm).trans upd_same, [(.inl 0, .ref l0)], rfl, (by show 1 ≤ 15; decide), ?_⟩
    refine ⟨Nat.zero_le _, fun r0 hr0 => ⟨(by show 1 ≤ sizeLine; decide), fun rw0 hrw => ?_⟩⟩
    -- the heap ahead of the loop
    generalize eH : upd (upd (upd (upd (upd H d (.dK [])) l0 (.lst [])) d (.dK (mergeK [] [(.inl 0, .ref l0)]))) r0 (.lst [])) rw0 (.lst [.ref r0]) = H0
    have hl1 : (upd (upd (upd H d (.dK [])) l0 (.lst [])) d (.dK (mergeK [] [(.inl 0, .ref l0)]))) l0 = some (.lst []) := (upd_ne nl0).trans upd_same
    have n1 : r0 ≠ d := fun z => by rw [z, upd_same] at hr0; cases hr0
    have n2 : r0 ≠ l0 := fun z => by rw [z, hl1] at hr0; cases hr0
    have n3 : rw0 ≠ r0 := fun z => by rw [z, upd_same] at hrw; cases hrw
    rw [upd_ne n3] at hrw
    have n4 : rw0 ≠ d := fun z => by rw [z, upd_same] at hrw; cases hrw
    have n5 : rw0 ≠ l0 := fun z => by rw [z, hl1] at hrw; cases hrw
    have hr0' : H r0 = none := by rw [upd_ne n1, upd_ne n2, upd_ne n1] at hr0; exact hr0
    have hrw' : H rw0 = none := by rw [upd_ne n4, upd_ne n5, upd_ne n4] at hrw; exact hrw
    have s0 : Same H H0 := fun c o e => by
      rw [← eH, upd_ne (ne_of_none e hrw'), upd_ne (ne_of_none e hr0'), upd_ne (ne_of_none e hd), upd_ne (ne_of_none e hl0'), upd_ne (ne_of_none e hd)]
      exact e
    have e1 : H0 d = some (.dK [(.inl 0, .ref l0)]) := by
      rw [← eH, upd_ne n4.symm, upd_ne n1.symm, upd_same]; rfl
    have e2 : LstR H0 l0 [] := by
      show H0 l0 = _
      rw [← eH, upd_ne n5.symm, upd_ne n2.symm, hl1]; rfl
    have e3 : ListOf LstR H0 rw0 [[]] := by
      refine ⟨[r0], by rw [← eH, upd_same]; rfl, .one ?_⟩
      show H0 r0 = _
      rw [← eH, upd_ne n3.symm, upd_same]; rfl
    have W0 : WInv t (Sw87.presses 0 t.length) H0 d := by
      rw [presses_zero]
      refine ⟨_, e1, Nat.le_refl _, fun c => ?_⟩
      have ew : firstWay t [[]] c = if 0 = c then some [] else none := firstWay_snoc t [] [] c
      by_cases z : 0 = c
      · subst z
        rw [ew, if_pos rfl]
        refine ⟨(fun q => nomatch q), fun p q => ?_⟩
        cases q
        exact ⟨l0, rfl, e2⟩
      · rw [ew, if_neg z]
        refine ⟨fun _ => valV_neg (key_ne z), fun p q => nomatch q⟩
    have em : (if ((t.length : Nat) : Int) < (f : Int) then ((t.length : Nat) : Int) else (f : Int)) = ((min f t.length : Nat) : Int) := by
      by_cases c : t.length < f
      · rw [if_pos (by omega), Nat.min_eq_right (by omega)]
      · rw [if_neg (by omega), Nat.min_eq_left (by omega)]
    refine ⟨_, rfl, _, rfl, b, _, rfl, .inl (SqL.of (s0 _ _ hb)), ?_⟩
    refine ⟨_, _, rfl, ?_⟩
    rw [nv_len, em]
    refine ⟨_, rfl, by omega, by omega, ?_⟩
    refine for_range (lo := 0) (n := ((min f t.length : Nat) : Int).toNat) (fun i σ H' => ∃ (v4 v5 : Option V) (rw1 : Addr), σ = [some (.ref b), some (.int (f : Int)), some (.ref d), some (.ref rw1), v4, v5] ∧ Same H H' ∧
        ListOf LstR H' rw1 (Sw87.choose i (List.range t.length)) ∧ WInv t (Sw87.presses i t.length) H' d)
      ⟨none, none, rw0, rfl, s0, by rw [choose_zero]; exact e3, W0⟩ ?_ ?_
    · rintro i σ H' hi ⟨v4, v5, rw1, rfl, s1, L1, W1⟩
      rw [Int.toNat_natCast] at hi
      have hb1 := s1 _ _ hb
      have cl : (Sw87.choose (i + 1) (List.range t.length)).length ≤ 256 := by
        refine Nat.le_trans (choose_len _ _) ?_
        rw [List.length_range]
        exact Nat.pow_le_pow_right (by decide) ht
      refine ⟨_, rfl, _, rfl, b, _, rfl, .inl (SqL.of hb1), rw1, t.length, _, (by rw [nv_len]; rfl), L1, ht, fun p hp => ?_, ?_, fun H2 rw2 s2 _ L2' => ?_⟩
      · obtain ⟨_, len⟩ := mem_choose.mp hp
        exact ⟨by omega, choose_lt hp⟩
      · rw [← choose_grow_range]
        omega
      rw [← choose_grow_range] at L2'
      obtain ⟨as, has, EA⟩ := L2'
      refine ⟨_, rfl, rw2, rfl, ⟨_, SqL.of has⟩, ?_⟩
      refine for_list (K := K) (a := rw2) (xs := as.map V.ref) (fun j σ H3 => ∃ (v5 : Option V), σ = [some (.ref b), some (.int (f : Int)), some (.ref d), some (.ref rw2), some (.int (0 + (i : Nat))), v5] ∧ Same H H3 ∧
          H3 rw2 = some (.lst (as.map V.ref)) ∧ Each LstR H3 as (Sw87.choose (i + 1) (List.range t.length)) ∧ WInv t (Sw87.presses i t.length ++ (Sw87.choose (i + 1) (List.range t.length)).take j) H3 d)
        ⟨_, rfl, s1.trans s2, has, EA, by rw [List.take_zero, List.append_nil]; exact W1.keep s2⟩ (fun j σ H3 _ ⟨_, _, _, e, _⟩ => SqL.of e) ?_ ?_
      · rintro j y σ H3 hj ⟨v5, rfl, s3, e3', E3, kvs, hd3, len3, wd⟩
        obtain ⟨r, hr1, rfl⟩ := ref_at hj
        obtain ⟨p, hp, hrow⟩ := E3.get hr1
        have hb3 := s3 _ _ hb
        have pl := choose_lt (List.mem_of_getElem? hp)
        refine ⟨_, rfl, d, rfl, .inl ⟨kvs, .inl hd3⟩, _, rfl, _, rfl, r, b, p, t, rfl, hrow, hb3, pl, _, rfl, kvs, .inl (lifted t p : Nat), hd3, rfl, ?_, fun v hv => ?_, fun hn => ?_⟩
        · have := presses_len t.length i
          have h2 : 2 ^ t.length ≤ 2 ^ 8 := Nat.pow_le_pow_right (by decide) ht
          have h3 : (i + 1) * 2 ^ t.length ≤ 4 * 2 ^ 8 := Nat.mul_le_mul (by omega) h2
          rw [List.length_append] at len3
          have := List.length_take_le j (Sw87.choose (i + 1) (List.range t.length))
          have h4 : (List.take j (Sw87.choose (i + 1) (List.range t.length))).length ≤ 256 := Nat.le_trans (List.length_take_le' _ _) cl
          show kvs.length < 16777216
          omega
        · -- it is told already
          refine ⟨some (.ref r), rfl, s3, e3', E3, kvs, hd3, ?_, fun c => ?_⟩
          · rw [take_more hp, ← List.append_assoc, List.length_append]
            omega
          · rw [take_more hp, ← List.append_assoc]
            by_cases z : c = lifted t p
            · subst z
              cases q : firstWay t (Sw87.presses i t.length ++ (Sw87.choose (i + 1) (List.range t.length)).take j) (lifted t p) with
              | none => rw [(wd _).1 q] at hv; cases hv
              | some p' =>
                rw [firstWay_old q]
                refine ⟨(fun w => nomatch w), fun p2 w => ?_⟩
                cases w
                exact (wd _).2 _ q
            · rw [firstWay_other z]
              exact wd c
        · have sK : ∀ (c : Addr) (o : HO), H3 c = some o → c ≠ d → upd H3 d (.dK (putK kvs (.inl (lifted t p : Nat)) (.ref r))) c = some o := fun c o e n => (upd_ne n).trans e
          have nrd : ∀ {c : Addr} {l : List Nat}, LstR H3 c l → c ≠ d := fun h => ne_of h hd3 (by intro z; cases z)
          have sHd : ∀ c o, H c = some o → c ≠ d := fun c o e => ne_of_none e hd
          refine ⟨some (.ref r), rfl, fun c o e => sK _ _ (s3 _ _ e) (sHd _ _ e), sK _ _ e3' (ne_of e3' hd3 (by intro z; cases z)), ⟨E3.len, fun x c l h1 h2 => sK _ _ (E3.each x c l h1 h2) (nrd (E3.each x c l h1 h2))⟩, _, upd_same, ?_, fun c => ?_⟩
          · rw [putK_new _ hn, take_more hp, ← List.append_assoc, List.length_append, List.length_append]
            show kvs.length + 1 ≤ _ + 1
            omega
          · rw [take_more hp, ← List.append_assoc]
            by_cases z : c = lifted t p
            · subst z
              cases q : firstWay t (Sw87.presses i t.length ++ (Sw87.choose (i + 1) (List.range t.length)).take j) (lifted t p) with
              | some p' =>
                obtain ⟨a, ea, _⟩ := (wd _).2 _ q
                rw [hn] at ea; cases ea
              | none =>
                rw [firstWay_new q]
                refine ⟨(fun w => nomatch w), fun p2 w => ?_⟩
                cases w
                exact ⟨r, by rw [valV_put, if_pos rfl], sK _ _ hrow (nrd hrow)⟩
            · rw [firstWay_other z, valV_put, if_neg (key_ne z)]
              refine ⟨(wd c).1, fun p2 w => ?_⟩
              obtain ⟨a, ea, ha⟩ := (wd c).2 p2 w
              exact ⟨a, ea, sK _ _ ha (nrd ha)⟩
      · rintro σ H3 ⟨v5, rfl, s3, e3', E3, W3⟩
        rw [List.length_map, EA.len, List.take_length, ← presses_succ] at W3
        exact ⟨_, _, rw2, rfl, s3, ⟨as, e3', E3⟩, W3⟩
    · rintro σ H' ⟨v4, v5, rw1, rfl, s1, L1, kvs, hd1, _, wd⟩
      rw [Int.toNat_natCast] at wd
      refine ⟨_, rfl, k H' d s1 ⟨kvs, hd1, fun c => ?_⟩⟩
      rw [← firstWay_made]
      exact wd c
end
end Tr
set_option maxRecDepth 100000
set_option maxHeartbeats 4000000
namespace Tr
open PySem PySem.Spec PyProof.Rows L2
/-! The dict of a tie-up, grown by one treadle. -/
theorem valV_mem {κ : Type} [DecidableEq κ] : ∀ {kvs : List (κ × V)} {k : κ} {v : V}, valV kvs k = some v → (k, v) ∈ kvs
  | [], _, _, h => nomatch h
  | p :: r, k, v, h => by
    by_cases e : p.1 = k
    · rw [valV_pos e] at h
      cases h
      subst e
      exact List.mem_cons_self
    · rw [valV_neg e] at h
      exact List.mem_cons_of_mem _ (valV_mem h)
theorem putK_mem {κ : Type} [DecidableEq κ] {kvs : List (κ × V)} {k : κ} {x : V} {kv : κ × V} (h : kv ∈ putK kvs k x) : kv ∈ kvs ∨ kv = (k, x) := by
  unfold putK at h
  split at h
  · obtain ⟨y, hy, e⟩ := List.mem_map.mp h
    by_cases c : y.1 = k
    · rw [if_pos c] at e
      subst e
      exact .inr (by rw [c])
    · rw [if_neg c] at e
      subst e
      exact .inl hy
  · rcases List.mem_append.mp h with q | q
    · exact .inl q
    · exact .inr (List.mem_singleton.mp q)
theorem putK_few {κ : Type} [DecidableEq κ] (kvs : List (κ × V)) (k : κ) (x : V) : (putK kvs k x).length ≤ kvs.length + 1 := by
  unfold putK
  split
  · rw [List.length_map]; exact Nat.le_succ _
  · rw [List.length_append]; exact Nat.le_refl _
theorem madeOk_start (feet : Nat) : MadeOk feet [] [(.inl 0, .int 0)] := by
  refine ⟨fun kv h => ?_, fun p h _ => ?_, Nat.le_refl _⟩
  · rw [List.mem_singleton.mp h]
    exact ⟨0, 0, [], rfl, Nat.zero_le _, List.nil_sublist _, rfl, rfl⟩
  · rw [List.sublist_nil.mp h]
    exact ⟨0, Nat.zero_le _, rfl⟩
/-- the dict while it grows, i of its older pairs gone through -/
structure Mid (feet : Nat) (c : List Nat) (tie : Nat) (kvs : List (Key × V)) (i : Nat) (kvs' : List (Key × V)) : Prop where
  sound : ∀ kv ∈ kvs', ∃ (b v : Nat) (p : List Nat), kv = (.inl (b : Int), .int (v : Int)) ∧ v ≤ feet ∧ p.Sublist (c ++ [tie]) ∧ p.length = v ∧ Sw87.union p = b
  keep : ∀ b v : Nat, valV kvs (.inl (b : Int)) = some (.int (v : Int)) → ∃ u : Nat, u ≤ v ∧ valV kvs' (.inl (b : Int)) = some (.int (u : Int))
  done : ∀ j b v : Nat, j < i → kvs[j]? = some (.inl (b : Int), .int (v : Int)) → v + 1 ≤ feet → ∃ u : Nat, u ≤ v + 1 ∧ valV kvs' (.inl ((b ||| tie : Nat) : Int)) = some (.int (u : Int))
  len : kvs'.length ≤ kvs.length + i
section
variable {feet tie : Nat} {c : List Nat} {kvs kvs' : List (Key × V)} {i : Nat}
theorem Mid.start (M : MadeOk feet c kvs) : Mid feet c tie kvs 0 kvs := by
  refine ⟨fun kv h => ?_, fun b v h => ⟨v, Nat.le_refl _, h⟩, fun j b v hj => absurd hj (Nat.not_lt_zero _), Nat.le_refl _⟩
  obtain ⟨b, v, p, e1, e2, e3, e4, e5⟩ := M.sound kv h
  exact ⟨b, v, p, e1, e2, e3.trans (List.sublist_append_left _ _), e4, e5⟩
/-- what the dict tells is a number -/
theorem Mid.num (D : Mid feet c tie kvs i kvs') {b : Nat} {x : V} (h : valV kvs' (.inl (b : Int)) = some x) : ∃ u : Nat, x = .int (u : Int) ∧ u ≤ feet := by
  obtain ⟨b', v, p, e1, e2, _⟩ := D.sound _ (valV_mem h)
  injection e1 with _ e
  exact ⟨v, e, e2⟩
theorem Mid.same (D : Mid feet c tie kvs i kvs') {b v : Nat} (hi : kvs[i]? = some (.inl (b : Int), .int (v : Int))) (no : v + 1 ≤ feet → ∃ u : Nat, u ≤ v + 1 ∧ valV kvs' (.inl ((b ||| tie : Nat) : Int)) = some (.int (u : Int))) : Mid feet c tie kvs (i + 1) kvs' := by
  refine ⟨D.sound, D.keep, fun j b' v' hj hb le => ?_, Nat.le_trans D.len (by omega)⟩
  by_cases z : j = i
  · subst z
    rw [hi] at hb
    injection hb with hb
    injection hb with h1 h2
    injection h1 with h1
    injection h2 with h2
    have e1 : b = b' := by omega
    have e2 : v = v' := by omega
    subst e1 e2
    exact no le
  · exact D.done j b' v' (by omega) hb le
theorem Mid.put (M : MadeOk feet c kvs) (D : Mid feet c tie kvs i kvs') {b v : Nat} (hi : kvs[i]? = some (.inl (b : Int), .int (v : Int))) (le : v + 1 ≤ feet)
    (less : ∀ u : Nat, valV kvs' (.inl ((b ||| tie : Nat) : Int)) = some (.int (u : Int)) → v + 1 ≤ u) : Mid feet c tie kvs (i + 1) (putK kvs' (.inl ((b ||| tie : Nat) : Int)) (.int ((v + 1 : Nat) : Int))) := by
  have new : ∀ (b' u : Nat), u ≤ feet + 1 → (∃ w : Nat, w ≤ u ∧ valV kvs' (.inl (b' : Int)) = some (.int (w : Int))) → ∃ w : Nat, w ≤ u ∧ valV (putK kvs' (.inl ((b ||| tie : Nat) : Int)) (.int ((v + 1 : Nat) : Int))) (.inl (b' : Int)) = some (.int (w : Int)) := fun b' u _ ⟨w, h1, h2⟩ => by
    rw [valV_put]
    by_cases z : b' = b ||| tie
    · subst z
      exact ⟨v + 1, Nat.le_trans (less w h2) h1, if_pos rfl⟩
    · exact ⟨w, h1, by rw [if_neg (key_ne z)]; exact h2⟩
  refine ⟨fun kv h => ?_, fun b' u h => ?_, fun j b' u hj hb le' => ?_, ?_⟩
  · rcases putK_mem h with h | h
    · exact D.sound kv h
    · obtain ⟨b', v', p, e1, e2, e3, e4, e5⟩ := M.sound _ (List.mem_of_getElem? hi)
      injection e1 with h1 h2
      injection h1 with h1
      injection h2 with h2
      have f1 : b = b' := by omega
      have f2 : v = v' := by omega
      subst f1 f2
      refine ⟨b ||| tie, v + 1, p ++ [tie], h, le, e3.append (List.Sublist.refl _), by rw [List.length_append, e4]; rfl, ?_⟩
      rw [union_snoc, e5]
  · have hu : u ≤ feet := by
      obtain ⟨b', v', p, e1, e2, _⟩ := M.sound _ (valV_mem h)
      injection e1 with _ h2
      injection h2 with h2
      omega
    exact new b' u (by omega) (D.keep b' u h)
  · by_cases z : j = i
    · subst z
      rw [hi] at hb
      injection hb with hb
      injection hb with h1 h2
      injection h1 with h1
      injection h2 with h2
      have e1 : b = b' := by omega
      have e2 : v = u := by omega
      subst e1 e2
      exact ⟨v + 1, Nat.le_refl _, by rw [valV_put, if_pos rfl]⟩
    · exact new _ (u + 1) (by omega) (D.done j b' u (by omega) hb le')
  · have := putK_few kvs' (.inl ((b ||| tie : Nat) : Int)) (.int ((v + 1 : Nat) : Int))
    have := D.len
    omega
theorem Mid.end (M : MadeOk feet c kvs) (D : Mid feet c tie kvs kvs.length kvs') : MadeOk feet (c ++ [tie]) kvs' := by
  refine ⟨D.sound, fun p hp hl => ?_, ?_⟩
  · obtain ⟨p1, p2, rfl, h1, h2⟩ := List.sublist_append_iff.mp hp
    rcases List.sublist_cons_iff.mp h2 with h2 | ⟨p3, rfl, h3⟩
    · have : p2 = [] := List.sublist_nil.mp h2
      subst this
      rw [List.append_nil] at hl ⊢
      obtain ⟨v, e1, e2⟩ := M.full p1 h1 hl
      obtain ⟨u, e3, e4⟩ := D.keep _ _ e2
      exact ⟨u, by omega, e4⟩
    · have : p3 = [] := List.sublist_nil.mp h3
      subst this
      rw [List.length_append, List.length_singleton] at hl ⊢
      obtain ⟨v, e1, e2⟩ := M.full p1 h1 (by omega)
      obtain ⟨j, hj⟩ := List.mem_iff_getElem?.mp (valV_mem e2)
      obtain ⟨u, e3, e4⟩ := D.done j _ v (List.getElem?_eq_some_iff.mp hj).1 hj (by omega)
      exact ⟨u, by omega, by rw [union_snoc]; exact e4⟩
  · rw [List.length_append, List.length_singleton, Nat.pow_succ]
    have := D.len
    have := M.len
    omega
/-- a lift is told in the dict just if it is made -/
theorem MadeOk.told (M : MadeOk feet c kvs) (b : Nat) : (valV kvs (.inl (b : Int))).isSome = (Sw87.made c feet b).isSome := by
  cases e : valV kvs (.inl (b : Int)) with
  | some x =>
    obtain ⟨b', v, p, e1, e2, e3, e4, e5⟩ := M.sound _ (valV_mem e)
    injection e1 with h1 _
    injection h1 with h1
    have f1 : b = b' := by omega
    exact (made_can.mpr ⟨p, e3, by omega, e5.trans f1.symm⟩).symm
  | none =>
    cases q : Sw87.made c feet b with
    | none => rfl
    | some y =>
      obtain ⟨p, e1, e2, e3⟩ := made_can.mp (show (Sw87.made c feet b).isSome = true by rw [q]; rfl)
      obtain ⟨v, _, e4⟩ := M.full p e1 e2
      rw [e3, e] at e4
      cases e4
end
end Tr
set_option maxRecDepth 100000
set_option maxHeartbeats 4000000
namespace Tr
open PySem PySem.Spec PyProof.Rows L2
theorem tF_ties (l d : Addr) : (tF l d).lookup ("ties" : Str) = some (.ref l) := lk_here
theorem tF_made (l d : Addr) : (tF l d).lookup ("made" : Str) = some (.ref d) := (lk_past (by decide +kernel)).trans lk_here
theorem tF_not {l d : Addr} {k : Str} (h1 : (k == ("ties" : Str)) = false) (h2 : (k == ("made" : Str)) = false) : (tF l d).lookup k = none := (lk_past h1).trans ((lk_past h2).trans rfl)
theorem tF_new (l d : Addr) : putF "made" (.ref d) (putF "ties" (.ref l) []) = tF l d := (put_past (by decide +kernel)).trans rfl
section
variable {P : Program} {w : World} {K : PySem.W.Frag} {mg : Str → Option Value} {base : Heap} {CL CT CO CR : Addr}
theorem scTI : FnScope ["self", "ties", "made"] ["self", "ties", "made"] (defScope sTInit) := ⟨rfl, rfl, rfl, by decide +kernel, rfl, by decide +kernel, by decide +kernel⟩
theorem ok_tinit {f : Addr} {fd : FuncData} (F : Fun K "__init__" "TieUp.__init__" sTInit f fd) (T : Txt K mg CL CT CO CR) : FnOk P w K mg base CX0 1 f fd ["self", "ties", "made"] (spTInit CT) := by
  refine F.ok scTI (fun vs H Q E h => ?_) (fun cdv A outer s H vs Q E hr h => ?_)
  · obtain ⟨p, dx, l, d, rfl, _⟩ := h
    rfl
  · obtain ⟨p, dx, l, d, rfl, hp, k⟩ := h
    refine ⟨_, pss_cons (ps_fld (pv 0) (pv 1) rfl) (pss_one (ps_fld (pv 0) (pv 2) rfl)), ?_⟩
    refine ⟨_, rfl, _, rfl, p, CT, dx, [], rfl, hp, T.clT, T.nTies, (by show 0 < 1000; decide), ?_⟩
    refine ⟨_, rfl, _, rfl, p, CT, dx, _, rfl, upd_same, T.clT, T.nMade, (by show 1 < 1000; decide), ?_⟩
    exact k _ (by rw [upd_upd, tF_new])
theorem scWi : FnScope ["self", "tie", "feet", "more", "lift", "pressed"] ["self", "tie", "feet"] (defScope sWith) := ⟨rfl, rfl, rfl, by decide +kernel, rfl, by decide +kernel, by decide +kernel⟩
theorem ok_with {f fI : Addr} {fd dI : FuncData} (F : Fun K "with_tie" "TieUp.with_tie" sWith f fd) (T : Txt K mg CL CT CO CR) (MI : Mk K CT fI) (GI : FnOk P w K mg base CX0 1 fI dI ["self", "ties", "made"] (spTInit CT)) (bI : Binds K dI ["self", "ties", "made"] []) :
    FnOk P w K mg base CX0 3 f fd ["self", "tie", "feet"] (spWith CT) := by
  refine F.ok scWi (fun vs H Q E h => ?_) (fun cdv A outer s H vs Q E hr h => ?_)
  · obtain ⟨x, tie, feet, c, rfl, _⟩ := h
    rfl
  · obtain ⟨x, tie, feet, c, rfl, ⟨dx, l, d, kvs, hx, hl, hd, M⟩, hc, k⟩ := h
    have hu := hu_of hr
    refine ⟨_, pss_cons (ps_set (i := 3) scWi.nd rfl (Or.inl rfl) (pe_callTy call_dictD (by rfl) T.dict (by decide +kernel) (pa_cons (pe_fld (pv 0) rfl) pa_nil)))
      (pss_cons (ps_lock (ps_for PassesOwn.never rfl (pi_items (pe_fld (pv 0) rfl)) (pg_tup rfl (pgs_cons (pg_name (i := 4) scWi.nd rfl (Or.inl rfl)) (pgs_cons (pg_name (i := 5) scWi.nd rfl (Or.inl rfl)) pgs_nil)))
        (pss_one (ps_if (pt_cmpR op_lt (pe_op op_add (pv 5) pe_int) (pe_dget2 hu (pv 3) (pe_op op_or (pv 4) (pv 1)) (pe_op op_add (pv 2) pe_int) ⟨rfl, rfl, rfl, rfl⟩) (nomark _))
          (pss_one (ps_dput hu (pv 3) (pe_op op_or (pv 4) (pv 1)) (pe_op op_add (pv 5) pe_int) rfl)) pss_nil))))
      (pss_one (ps_ret (pe_make MI GI hr (by rfl) T.gTieUp bI .nil pass0 (pa_cons (pe_op op_cat (pe_fld (pv 0) rfl) (pe_lst (pa_cons (pv 1) pa_nil))) (pa_cons (pv 3) pa_nil)))))), ?_⟩
    refine ⟨_, rfl, x, CT, dx, _, _, rfl, hx, T.clT, T.nMade, tF_made _ _, d, kvs, rfl, .inl hd, fun mo hmo => ?_⟩
    have ndm : d ≠ mo := ne_of_none hd hmo
    refine ⟨d, _, (upd_ne ndm).trans hd, trivial, fun od => ?_⟩
    have nxd : x ≠ d := ne_of hx hd (by intro z; cases z)
    have nxm : x ≠ mo := ne_of_none hx hmo
    refine ⟨_, rfl, x, CT, dx, _, _, rfl, (upd_ne nxd).trans ((upd_ne nxm).trans hx), T.clT, T.nMade, tF_made _ _, d, od, kvs, rfl, upd_same, ?_⟩
    refine for_it (walk_items (d := d) (o := od) (kvs := kvs)) (fun i σ H' => ∃ (v4 v5 : Option V) (kvs' : List (Key × V)), σ = [some (.ref x), some (.int (tie : Int)), some (.int (feet : Int)), some (.ref mo), v4, v5] ∧
        (∀ b o, H b = some o → b ≠ d → H' b = some o) ∧ H' d = some (.frz od (.dK kvs)) ∧ H' mo = some (.dK kvs') ∧ Mid feet c tie kvs i kvs')
      ⟨none, none, kvs, rfl, fun b o e n => (upd_ne n).trans ((upd_ne (ne_of_none e hmo)).trans e), upd_same, (upd_ne ndm.symm).trans upd_same, .start M⟩ (fun i σ H' _ ⟨_, _, _, _, _, e, _⟩ => e) ?_ ?_
    · rintro i y σ H1 H2 hi ⟨v4, v5, kvs', rfl, s1, e1, e2, D⟩ ⟨t, xi, yi, rfl, ht, rfl, f1, f2⟩
      obtain ⟨⟨key, val⟩, hkv⟩ : ∃ kv, kvs[i]? = some kv := ⟨_, List.getElem?_eq_getElem hi⟩
      obtain ⟨b, v, p, ekv, le, _⟩ := M.sound _ (List.mem_of_getElem? hkv)
      injection ekv with ek ev
      subst ek ev
      have f1' : kV (Sum.inl (b : Int) : Key) = xi := by
        have : (kvs[i]?.map fun kv => kV kv.1) = some xi := f1
        rw [hkv] at this
        exact Option.some.inj this
      have f2' : V.int (v : Int) = yi := by
        have : (kvs[i]?.map Prod.snd) = some yi := f2
        rw [hkv] at this
        exact Option.some.inj this
      subst f1' f2'
      have ntm : mo ≠ t := ne_of_none e2 ht
      have e2' : (upd H1 t (.tup [kV (.inl (b : Int)), .int (v : Int)])) mo = some (.dK kvs') := (upd_ne ntm).trans e2
      have ntd : d ≠ t := ne_of_none e1 ht
      have s1' : ∀ b' o, H b' = some o → b' ≠ d → (upd H1 t (.tup [kV (.inl (b : Int)), .int (v : Int)])) b' = some o := fun b' o e n => (upd_ne (ne_of_none (s1 _ _ e n) ht)).trans (s1 _ _ e n)
      have get : DGet (upd H1 t (.tup [kV (.inl (b : Int)), .int (v : Int)])) mo (.int (Builtin.bitOr (b : Int) (tie : Int))) (valV kvs' (.inl ((b ||| tie : Nat) : Int))) := by
        rw [or_nat]
        exact DGet.k (k := .inl ((b ||| tie : Nat) : Int)) e2'
      have put : DPut (upd H1 t (.tup [kV (.inl (b : Int)), .int (v : Int)])) mo (.int (Builtin.bitOr (b : Int) (tie : Int))) (.int ((v : Int) + 1)) (upd (upd H1 t (.tup [kV (.inl (b : Int)), .int (v : Int)])) mo (.dK (putK kvs' (.inl ((b ||| tie : Nat) : Int)) (.int ((v + 1 : Nat) : Int))))) := by
        rw [or_nat]
        refine DPut.k (k := .inl ((b ||| tie : Nat) : Int)) e2' ?_
        have h1 := D.len
        have h2 := M.len
        have h3 : 2 ^ c.length ≤ 2 ^ 15 := Nat.pow_le_pow_right (by decide) hc
        show kvs'.length < 16777216
        omega
      have nmd : mo ≠ d := ndm.symm
      have s2 : ∀ kv2, ∀ b' o, H b' = some o → b' ≠ d → (upd (upd H1 t (.tup [kV (.inl (b : Int)), .int (v : Int)])) mo (.dK kv2)) b' = some o := fun kv2 b' o e n => (upd_ne (ne_of_none e hmo)).trans (s1' _ _ e n)
      refine ⟨t, _, rfl, SqT.of upd_same, rfl, _, _, rfl, _, _, rfl, rfl, ?_⟩
      refine ⟨_, rfl, _, _, rfl, rfl, _, rfl, mo, rfl, .inl ⟨kvs', .inl e2'⟩, _, rfl, _, rfl, _, _, rfl, rfl, _, rfl, _, _, rfl, rfl, _, get, ?_⟩
      cases e : valV kvs' (.inl ((b ||| tie : Nat) : Int)) with
      | none =>
        refine ⟨_, _, rfl, rfl, _, rfl, ?_⟩
        by_cases q : v + 1 ≤ feet
        · refine ifT (decide_eq_true (by omega)) ?_
          refine ⟨_, rfl, _, _, rfl, rfl, _, rfl, _, rfl, _, rfl, _, _, rfl, rfl, mo, _, rfl, put, ?_⟩
          exact ⟨_, _, _, rfl, s2 _, (upd_ne ndm).trans ((upd_ne ntd).trans e1), upd_same, Mid.put M D hkv (by omega) fun u' eu => by rw [e] at eu; cases eu⟩
        · refine ifF (decide_eq_false (by omega)) ?_
          exact ⟨_, _, kvs', rfl, s1', (upd_ne ntd).trans e1, e2', D.same hkv fun z => absurd z q⟩
      | some z =>
        obtain ⟨u, rfl, lu⟩ := D.num e
        refine ⟨_, _, rfl, rfl, _, rfl, ?_⟩
        by_cases q : v + 1 < u
        · refine ifT (decide_eq_true (by omega)) ?_
          refine ⟨_, rfl, _, _, rfl, rfl, _, rfl, _, rfl, _, rfl, _, _, rfl, rfl, mo, _, rfl, put, ?_⟩
          exact ⟨_, _, _, rfl, s2 _, (upd_ne ndm).trans ((upd_ne ntd).trans e1), upd_same, Mid.put M D hkv (by omega) fun u' eu => by rw [e] at eu; injection eu with eu; injection eu with eu; omega⟩
        · refine ifF (decide_eq_false (by omega)) ?_
          exact ⟨_, _, kvs', rfl, s1', (upd_ne ntd).trans e1, e2', D.same hkv fun _ => ⟨u, by omega, e⟩⟩
    · rintro σ H' ⟨v4, v5, kvs', rfl, s1, e1, e2, D⟩
      refine ⟨e1, ?_⟩
      have s2 : Same H (upd H' d (.dK kvs)) := fun b o e => by
        by_cases z : b = d
        · subst z
          rw [hd] at e
          cases e
          exact upd_same
        · exact (upd_ne z).trans (s1 b o e z)
      have e2' : (upd H' d (.dK kvs)) mo = some (.dK kvs') := (upd_ne ndm.symm).trans e2
      generalize upd H' d (.dK kvs) = H3 at s2 e2'
      have hx3 := s2 _ _ hx
      have hl3 := s2 _ _ hl
      refine ⟨_, rfl, x, CT, dx, _, _, rfl, hx3, T.clT, T.nTies, tF_ties _ _, _, rfl, (by show 1 ≤ sizeLine; decide), fun u hu3 => ?_⟩
      have nlu : l ≠ u := ne_of_none hl3 hu3
      refine ⟨l, u, _, _, rfl, rfl, (upd_ne nlu).trans hl3, upd_same, ?_, fun r hr3 => ?_⟩
      · rw [nv_len]
        show c.length + 1 ≤ 16777216
        omega
      refine ⟨_, rfl, ?_⟩
      intro z dz nz ndz ne
      have nru : r ≠ u := fun q => by rw [q, upd_same] at hr3; cases hr3
      rw [upd_ne nru] at hr3
      refine ⟨z, dz, r, mo, rfl, upd_same, fun H4 e4 => ⟨rfl, ?_⟩⟩
      have nzr : z ≠ r := fun q => by rw [q, upd_same] at nz; cases nz
      have nzu : z ≠ u := fun q => by rw [q, upd_ne nru.symm, upd_same] at nz; cases nz
      have nz3 : H3 z = none := by rw [upd_ne nzr, upd_ne nzu] at nz; exact nz
      have ndr : dz ≠ r := fun q => by rw [q, upd_same] at ndz; cases ndz
      have ndu : dz ≠ u := fun q => by rw [q, upd_ne nru.symm, upd_same] at ndz; cases ndz
      have ndz3 : H3 dz = none := by rw [upd_ne ndr, upd_ne ndu] at ndz; exact ndz
      have s4 : Same H3 H4 := fun b o e => by
        rw [e4, upd_ne (ne_of_none e nz3), upd_ne (ne_of_none e nz3), upd_ne (ne_of_none e ndz3), upd_ne (ne_of_none e hr3), upd_ne (ne_of_none e hu3)]
        exact e
      have g1 : H4 z = some (.ins CT dz (tF r mo)) := by rw [e4, upd_same]
      have g2 : H4 r = some (.lst (nv (c ++ [tie]))) := by
        rw [e4, upd_ne nzr.symm, upd_ne nzr.symm, upd_ne ndr.symm, upd_same, nv_app]; rfl
      refine k H4 z (s2.trans s4) ⟨dz, r, mo, kvs', off_of (s2.free nz3) g1, off_of (s2.free hr3) g2, off_of hmo (s4 _ _ e2'), Mid.end M D⟩
end
end Tr
set_option maxRecDepth 100000
set_option maxHeartbeats 4000000
namespace Tr
open PySem PySem.Spec PyProof.Rows L2
section
variable {P : Program} {w : World} {K : PySem.W.Frag} {mg : Str → Option Value} {base : Heap} {CL CT CO CR : Addr}
theorem scNM : FnScope ["self", "lifts", "lift"] ["self", "lifts"] (defScope sNotMade) := ⟨rfl, rfl, rfl, by decide +kernel, rfl, by decide +kernel, by decide +kernel⟩
theorem ok_notMade {f : Addr} {fd : FuncData} (F : Fun K "first_not_made" "TieUp.first_not_made" sNotMade f fd) (T : Txt K mg CL CT CO CR) : FnOk P w K mg base CX0 1 f fd ["self", "lifts"] (spNotMade CT) := by
  refine F.ok scNM (fun vs H Q E h => ?_) (fun cdv A outer s H vs Q E hr h => ?_)
  · obtain ⟨x, b, feet, m, c, rfl, _⟩ := h
    rfl
  · obtain ⟨x, lb, feet, m, c, rfl, ⟨dx, l, d, kvs, hx, hl, hd, M⟩, hb, k⟩ := h
    have hu := hu_of hr
    refine ⟨_, pss_cons (ps_for PassesOwn.never rfl (pi_list (pv 1)) (pg_name (i := 2) scNM.nd rfl (Or.inl rfl))
      (pss_one (ps_if (pt_cmp (pc_dnotin hu (pv 2) (pe_fld (pv 0) rfl))) (pss_one (ps_ret (pv 2))) pss_nil)))
      (pss_one (ps_ret pe_non)), ?_⟩
    refine ⟨_, rfl, lb, rfl, ⟨_, SqL.of hb⟩, for_list (K := K) (a := lb) (xs := nv m.lifts) (fun i σ H' => ∃ v : Option V, σ = [some (.ref x), some (.ref lb), v] ∧ H' = H ∧ ∀ b ∈ m.lifts.take i, (Sw87.made c feet b).isNone = false)
      ⟨none, rfl, rfl, fun b hb => by rw [List.take_zero] at hb; cases hb⟩ (fun i σ H' _ ⟨_, _, e, _⟩ => by rw [e]; exact SqL.of hb) ?_ ?_⟩
    · rintro i y σ H' hi ⟨v, rfl, rfl, no⟩
      obtain ⟨b, hb2, rfl⟩ := nv_at hi
      refine ⟨_, rfl, _, rfl, x, CT, dx, _, _, rfl, hx, T.clT, T.nMade, tF_made _ _, d, _, rfl, DGet.k (k := .inl (b : Int)) hd, _, rfl, ?_⟩
      rw [M.told b]
      cases e : Sw87.made c feet b with
      | none =>
        refine iteT ⟨_, rfl, ?_⟩
        have q : firstNot m feet c = some b := by
          obtain ⟨h1, h2⟩ := List.getElem?_eq_some_iff.mp hb2
          unfold firstNot
          rw [List.find?_eq_some_iff_getElem]
          refine ⟨by rw [e]; rfl, i, h1, h2, fun j hj => ?_⟩
          rw [no m.lifts[j] (List.mem_take_iff_getElem.mpr ⟨j, by omega, rfl⟩)]; rfl
        rw [q] at k
        exact k
      | some p =>
        refine iteF ⟨_, rfl, rfl, fun b' hb' => ?_⟩
        rw [take_more hb2, List.mem_append] at hb'
        rcases hb' with h | h
        · exact no b' h
        · rw [List.mem_singleton.mp h, e]; rfl
    · rintro σ H' ⟨v, rfl, rfl, no⟩
      rw [nv_len, List.take_length] at no
      have q : firstNot m feet c = none := by
        unfold firstNot
        rw [List.find?_eq_none]
        intro b hb'
        rw [no b hb']
        exact Bool.false_ne_true
      rw [q] at k
      exact k
theorem scMo : FnScope ["self", "lifts", "feet", "start", "tie"] ["self", "lifts", "feet"] (defScope sMore) := ⟨rfl, rfl, rfl, by decide +kernel, rfl, by decide +kernel, by decide +kernel⟩
/-- where the next tie begins -/
def tNextTie (CT : Addr) (i : Nat) : TE := fun σ H Q => ∃ (x dx l d : Addr) (c : List Nat), σ[i]? = some (some (.ref x)) ∧ H x = some (.ins CT dx (tF l d)) ∧ LstR H l c ∧ Q (.int (nx 1 c : Nat)) H
theorem ok_more {f fN fW : Addr} {fd dN dW : FuncData} (F : Fun K "with_one_more" "TieUp.with_one_more" sMore f fd) (T : Txt K mg CL CT CO CR)
    (mN : Meth K CT "first_not_made" fN) (GN : FnOk P w K mg base CX0 1 fN dN ["self", "lifts"] (spNotMade CT)) (bN : Binds K dN ["self", "lifts"] [])
    (mW : Meth K CT "with_tie" fW) (GW : FnOk P w K mg base CX0 3 fW dW ["self", "tie", "feet"] (spWith CT)) (bW : Binds K dW ["self", "tie", "feet"] []) :
    FnOk P w K mg base CX0 4 f fd ["self", "lifts", "feet"] (spMore CT) := by
  refine F.ok scMo (fun vs H Q E h => ?_) (fun cdv A outer s H vs Q E hr h => ?_)
  · obtain ⟨x, b, feet, m, c, rfl, _⟩ := h
    rfl
  · obtain ⟨x, lb, feet, m, c, rfl, tu, hb, hs, hc, lt, ne, k⟩ := h
    have hr1 : Room 1 _ := hr.mono (by decide)
    refine ⟨_, pss_cons (ps_set (i := 3) scMo.nd rfl (Or.inl rfl) (pe_weak (t' := tNextTie CT 0) (pe_ifExp (pt_truth (pe_fld (pv 0) rfl) (by intro _; rfl)) (pe_op op_add (pe_ix ix_list (pe_fld (pv 0) rfl) (pe_un un_neg pe_int) (fun _ _ => rfl)) pe_int) pe_int) (by
          rintro σ H Q ⟨x, dx, l, d, c, e, hx, hl, q⟩
          refine ⟨_, e, x, CT, dx, _, _, rfl, hx, T.clT, T.nTies, tF_ties _ _, _, .inl ⟨_, SqL.of hl, rfl⟩, ?_⟩
          rcases nil_or_last c with rfl | ⟨c, y, rfl⟩
          · exact iteF q
          · rw [nv_app]
            refine ifT (by cases nv c <;> rfl) ?_
            refine ⟨_, e, x, CT, dx, _, _, rfl, hx, T.clT, T.nTies, tF_ties _ _, _, rfl, l, _, _, _, rfl, rfl, SqL.of (hl.trans (by rw [nv_app]; rfl)), atI_last _ _, _, _, rfl, rfl, ?_⟩
            rw [nx_last] at q
            exact q)))
      (pss_one (ps_ret (pe_lc (own := [("tie", 4)]) (g := gName 4) (tt := tYes) rfl scMo.nd
        (pi_range2 (by rfl) T.range (pa_cons (pv 3) (pa_cons (pe_op op_add (pe_meth (pv 0) T.clT mN GN hr1 bN .nil pass0 (pa_cons (pv 1) pa_nil)) pe_int) pa_nil)))
        (blkOk_by (N := ["self", "lifts", "feet", "start", "tie"]) (sc := defScope sMore) (by decide +kernel)) (fun _ _ _ _ _ => pg_name (i := 4) scMo.nd rfl (Or.inl rfl))
        (fun _ _ _ _ _ => pts_nil)
        (fun _ _ _ _ _ => pe_meth (pv 0) T.clT mW GW hr bW .nil pass0 (pa_cons (pv 4) (pa_cons (pv 2) pa_nil)))))), ?_⟩
    obtain ⟨dx, l, d, kvs, hx, hl, hd, M⟩ := id tu
    obtain ⟨L, eL⟩ : ∃ L, firstNot m feet c = some L := by
      cases e : firstNot m feet c with
      | none => exact absurd e ne
      | some L => exact ⟨L, rfl⟩
    have lL : L < 16 := by
      have h1 := lifts_lt (firstNot_some eL).1
      have h2 : 2 ^ m.shafts ≤ 2 ^ 4 := Nat.pow_le_pow_right (by decide) hs
      omega
    have ew : wider m feet c = (List.range' (nx 1 c) (L + 1 - nx 1 c)).map fun i => c ++ [i] := by
      unfold wider
      rw [eL]
    refine ⟨x, dx, l, d, c, rfl, hx, hl, ?_⟩
    refine ⟨_, rfl, _, rfl, x, dx, _, rfl, hx, tF_not (by decide +kernel) (by decide +kernel), _, rfl, x, lb, feet, m, c, rfl, tu, hb, ?_⟩
    rw [eL]
    have nxb : nx 1 c ≤ 17 := by
      rcases nil_or_last c with rfl | ⟨c', y, rfl⟩
      · decide
      · rw [nx_last]
        have h1 := lt y (List.mem_append_right _ List.mem_cons_self)
        have h2 : 2 ^ m.shafts ≤ 2 ^ 4 := Nat.pow_le_pow_right (by decide) hs
        omega
    refine ⟨_, _, rfl, rfl, _, _, rfl, ⟨by omega, by omega, by omega, by omega⟩, fun D hD => ?_⟩
    have en : (((L : Nat) : Int) + 1 - ((nx 1 c : Nat) : Int)).toNat = L + 1 - nx 1 c := by omega
    refine lc_range (lo := ((nx 1 c : Nat) : Int)) (n := (((L : Nat) : Int) + 1 - ((nx 1 c : Nat) : Int)).toNat) (fun j H' => ∃ as : List Addr, Same H H' ∧ H' D = some (.lst (as.map V.ref)) ∧
        Each (TuAt CT feet) (Off H' (upd H D (.lst []))) as ((List.range' (nx 1 c) j).map fun i => c ++ [i]))
      ⟨[], fun b o e => (upd_ne (ne_of_none e hD)).trans e, upd_same, .nil⟩ ?_ ?_
    · rintro j H' hj ⟨as, s1, e1, E1⟩
      refine ⟨rfl, yesT (iteT ?_)⟩
      refine ⟨_, rfl, x, dx, _, rfl, s1 _ _ hx, tF_not (by decide +kernel) (by decide +kernel), _, rfl, _, rfl, x, nx 1 c + j, feet, c, rfl, tuAt_stays _ _ _ _ s1 tu, hc, fun H2 q s2 tq => ?_⟩
      refine ⟨as.map V.ref, s2 _ _ e1, ?_, as ++ [q], fun b o e => (upd_ne (ne_of_none e hD)).trans (s2 _ _ (s1 _ _ e)), ?_, ?_⟩
      · rw [List.length_map, E1.len, List.length_map, List.length_range']
        show j < 16777216
        omega
      · rw [upd_same, refs_snoc]
      · rw [range'_more, List.map_append]
        refine E1.grow tuAt_stays upd_same s2 (.one (tuAt_stays _ _ _ _ (off_less fun b e => ?_) tq))
        exact ((Cov.of_same s1).more e1) b e
    · rintro H' ⟨as, s1, e1, E1⟩
      rw [en] at E1
      refine k H' D as s1 hD e1 ?_
      rw [ew]
      refine E1.mono tuAt_stays (off_less fun b e => ?_)
      by_cases z : b = D
      · rw [z, upd_same] at e; cases e
      · rw [upd_ne z] at e; exact e
end
end Tr
set_option maxRecDepth 100000
set_option maxHeartbeats 4000000
namespace Tr
open PySem PySem.Spec PyProof.Rows L2
section
variable {P : Program} {w : World} {K : PySem.W.Frag} {mg : Str → Option Value} {base : Heap} {CL CT CO CR : Addr}
theorem scDo : FnScope ["tie_ups", "lifts", "tie_up"] ["tie_ups", "lifts"] (defScope sDo) := ⟨rfl, rfl, rfl, by decide +kernel, rfl, by decide +kernel, by decide +kernel⟩
theorem ok_do {f fN : Addr} {fd dN : FuncData} (F : Fun K "sets_that_do" "sets_that_do" sDo f fd) (T : Txt K mg CL CT CO CR)
    (mN : Meth K CT "first_not_made" fN) (GN : FnOk P w K mg base CX0 1 fN dN ["self", "lifts"] (spNotMade CT)) (bN : Binds K dN ["self", "lifts"] []) : FnOk P w K mg base CX0 2 f fd ["tie_ups", "lifts"] (spDo CT) := by
  refine F.ok scDo (fun vs H Q E h => ?_) (fun cdv A outer s H vs Q E hr h => ?_)
  · obtain ⟨a, b, feet, m, cs, rfl, _⟩ := h
    rfl
  · obtain ⟨a, lb, feet, m, cs, rfl, ⟨xs, ha, EX⟩, hb, few, k⟩ := h
    refine ⟨_, pss_one (ps_ret (pe_lc (own := [("tie_up", 2)]) (g := gName 2) (te := tFld K (tVar 2) "ties") rfl scDo.nd
        (pi_list (pv 0))
        (blkOk_by (N := ["tie_ups", "lifts", "tie_up"]) (sc := defScope sDo) (by decide +kernel)) (fun _ _ _ _ _ => pg_name (i := 2) scDo.nd rfl (Or.inl rfl))
        (fun _ _ _ _ _ => pts_one (pt_cmpR op_isN (pe_meth (pv 2) T.clT mN GN hr bN .nil pass0 (pa_cons (pv 1) pa_nil)) pe_non (nomark _)))
        (fun _ _ _ _ _ => pe_fld (pv 2) rfl))), ?_⟩
    refine ⟨_, rfl, a, rfl, ⟨_, SqL.of ha⟩, fun D hD => ?_⟩
    refine lc_list (K := K) (a := a) (xs := xs.map V.ref) (fun i H' => ∃ as : List Addr, Same H H' ∧ H' D = some (.lst (as.map V.ref)) ∧ Each LstR H as ((cs.take i).filter (m.enough feet)))
      ⟨[], fun b o e => (upd_ne (ne_of_none e hD)).trans e, upd_same, .nil⟩ (fun i H' _ ⟨_, s, _⟩ => SqL.of (s _ _ ha)) ?_ ?_
    · rintro i y H' hi ⟨as, s1, e1, E1⟩
      obtain ⟨x, hx1, rfl⟩ := ref_at hi
      obtain ⟨c, hc, tu⟩ := EX.get hx1
      obtain ⟨dx, l, d, kvs, hx, hl, hd, M⟩ := id tu
      refine ⟨rfl, _, rfl, x, dx, _, rfl, s1 _ _ hx, tF_not (by decide +kernel) (by decide +kernel), _, rfl, x, lb, feet, m, c, rfl, tuAt_stays _ _ _ _ s1 tu, s1 _ _ hb, rfl, _, rfl, ?_⟩
      cases e : firstNot m feet c with
      | some L =>
        refine ifF (decide_eq_false fun q => nomatch q) ⟨as, s1, e1, ?_⟩
        rw [take_more hc, List.filter_append, List.filter_cons, if_neg (fun q => by rw [enough_iff.mp q] at e; cases e)]
        rw [List.filter_nil, List.append_nil]
        exact E1
      | none =>
        refine ifT (decide_eq_true rfl) ?_
        refine ⟨_, rfl, x, CT, dx, _, _, rfl, s1 _ _ hx, T.clT, T.nTies, tF_ties _ _, as.map V.ref, e1, ?_, as ++ [l], fun b o e => (upd_ne (ne_of_none e hD)).trans (s1 _ _ e), ?_, ?_⟩
        · rw [List.length_map, E1.len]
          refine Nat.lt_of_le_of_lt (List.length_filter_le _ _) (Nat.lt_of_le_of_lt (List.length_take_le' _ _) ?_)
          show cs.length < 16777216
          omega
        · rw [upd_same, refs_snoc]
        · rw [take_more hc, List.filter_append, List.filter_cons, if_pos (enough_iff.mpr e)]
          exact E1.snoc hl
    · rintro H' ⟨as, s1, e1, E1⟩
      rw [List.length_map, EX.len, List.take_length] at E1
      exact k H' D s1 hD ⟨as, e1, E1.mono lstR_stays s1⟩
theorem scLa : FnScope ["tie_ups", "lifts", "feet", "larger", "tie_up"] ["tie_ups", "lifts", "feet"] (defScope sLarger) := ⟨rfl, rfl, rfl, by decide +kernel, rfl, by decide +kernel, by decide +kernel⟩
theorem ok_larger {f fM : Addr} {fd dM : FuncData} (F : Fun K "tie_ups_one_larger" "tie_ups_one_larger" sLarger f fd) (T : Txt K mg CL CT CO CR)
    (mM : Meth K CT "with_one_more" fM) (GM : FnOk P w K mg base CX0 4 fM dM ["self", "lifts", "feet"] (spMore CT)) (bM : Binds K dM ["self", "lifts", "feet"] []) : FnOk P w K mg base CX0 5 f fd ["tie_ups", "lifts", "feet"] (spLarger CT) := by
  refine F.ok scLa (fun vs H Q E h => ?_) (fun cdv A outer s H vs Q E hr h => ?_)
  · obtain ⟨a, b, feet, m, cs, rfl, _⟩ := h
    rfl
  · obtain ⟨a, lb, feet, m, cs, rfl, ⟨xs, ha, EX⟩, hb, hs, each, few, k⟩ := h
    refine ⟨_, pss_cons (ps_set (i := 3) scLa.nd rfl (Or.inl rfl) (pe_lst pa_nil))
      (pss_cons (ps_for PassesOwn.never rfl (pi_list (pv 0)) (pg_name (i := 4) scLa.nd rfl (Or.inl rfl))
        (pss_one (ps_expr (pe_bm PySem.F.plainAttrs_list PySem.F.slot_list_extend PySem.F.type_list_extend mt_extend (pv 3) (pa_cons (pe_meth (pv 4) T.clT mM GM hr bM .nil pass0 (pa_cons (pv 1) (pa_cons (pv 2) pa_nil))) pa_nil)))))
      (pss_one (ps_ret (pv 3)))), ?_⟩
    refine ⟨Nat.zero_le _, fun q hq => ?_⟩
    have s0 : Same H (upd H q (.lst [])) := fun b o e => (upd_ne (ne_of_none e hq)).trans e
    refine ⟨_, rfl, a, rfl, ⟨_, SqL.of (s0 _ _ ha)⟩, for_list (K := K) (a := a) (xs := xs.map V.ref) (fun i σ H' => ∃ (v : Option V) (bs : List Addr), σ = [some (.ref a), some (.ref lb), some (.int (feet : Int)), some (.ref q), v] ∧ Same H H' ∧
        H' q = some (.lst (bs.map V.ref)) ∧ Each (TuAt CT feet) (Off H' (upd H q (.lst []))) bs ((cs.take i).flatMap (wider m feet)))
      ⟨none, [], rfl, s0, upd_same, .nil⟩ (fun i σ H' _ ⟨_, _, _, s, _⟩ => SqL.of (s _ _ ha)) ?_ ?_⟩
    · rintro i y σ H' hi ⟨v, bs, rfl, s1, e1, E1⟩
      obtain ⟨x, hx1, rfl⟩ := ref_at hi
      obtain ⟨c, hc, tu⟩ := EX.get hx1
      obtain ⟨dx, l, d, kvs, hx, hl, hd, M⟩ := id tu
      obtain ⟨c1, c2, c3⟩ := each c (List.mem_of_getElem? hc)
      have more := flatMap_take_more (wider m feet) hc
      have le := flatMap_take_le (wider m feet) cs (i + 1)
      rw [more, List.length_append] at le
      refine ⟨_, rfl, .inl ⟨rfl, _, SqL.of e1⟩, _, rfl, x, dx, _, rfl, s1 _ _ hx, tF_not (by decide +kernel) (by decide +kernel), _, rfl, _, rfl, x, lb, feet, m, c, rfl, tuAt_stays _ _ _ _ s1 tu, s1 _ _ hb, hs, c1, c2, c3, fun H2 r as s2 hr2 er ER => ?_⟩
      have e1' := s2 _ _ e1
      refine ⟨q, r, _, _, rfl, rfl, e1', er, ?_, ?_⟩
      · rw [List.length_map, List.length_map, E1.len, ER.len]
        show ((cs.take i).flatMap (wider m feet)).length + (wider m feet c).length ≤ 16777216
        omega
      · refine ⟨_, bs ++ as, rfl, fun b o e => (upd_ne (ne_of_none e hq)).trans (s2 _ _ (s1 _ _ e)), ?_, ?_⟩
        · rw [upd_same, List.map_append]
        · rw [more]
          exact E1.grow tuAt_stays upd_same s2 (ER.mono tuAt_stays (off_less ((Cov.of_same s1).more e1)))
    · rintro σ H' ⟨v, bs, rfl, s1, e1, E1⟩
      rw [List.length_map, EX.len, List.take_length] at E1
      exact ⟨_, rfl, k H' q s1 hq ⟨bs, e1, E1.mono tuAt_stays off_same⟩⟩
end
end Tr
set_option maxRecDepth 100000
set_option maxHeartbeats 4000000
namespace Tr
open PySem PySem.Spec PyProof.Rows L2
theorem while_rel {c : TT} {tb : TS} {D : Ends} {σ : L2.St} {H : Hp} (W : Nat → L2.St → Hp → Prop) (n : Nat) (h0 : W n σ H)
    (hs : ∀ n σ H, W n σ H → c σ H fun b H1 => if b = true then ∃ N : L2.St → Hp → Prop, (∀ σ' H', N σ' H' → ∃ m, m < n ∧ W m σ' H') ∧ tb { D with nx := N, ct := N, bk := D.nx } σ H1 else D.nx σ H1) : tWhile c tb D σ H := ⟨W, ⟨n, h0⟩, hs⟩
theorem refs_some {as : List Addr} {α : Type} {ls : List α} (h : as.length = ls.length) (ne : ls ≠ []) : (!(as.map V.ref).isEmpty) = true := by
  cases as with
  | nil =>
    cases ls with
    | nil => exact absurd rfl ne
    | cons x l => cases h
  | cons a as => rfl
theorem refs_none {as : List Addr} {α : Type} {ls : List α} (h : as.length = ls.length) (e : ls = []) : (!(as.map V.ref).isEmpty) = false := by
  subst e
  cases as with
  | nil => rfl
  | cons a as => cases h
section
variable {P : Program} {w : World} {K : PySem.W.Frag} {mg : Str → Option Value} {base : Heap} {CL CT CO CR : Addr}
theorem scLe : FnScope ["lifts", "feet", "tie_ups", "done"] ["lifts", "feet"] (defScope sLeast) := ⟨rfl, rfl, rfl, by decide +kernel, rfl, by decide +kernel, by decide +kernel⟩
theorem ok_least {f fI fD fG : Addr} {fd dI dD dG : FuncData} (F : Fun K "least_sets" "least_sets" sLeast f fd) (T : Txt K mg CL CT CO CR)
    (MI : Mk K CT fI) (GI : FnOk P w K mg base CX0 1 fI dI ["self", "ties", "made"] (spTInit CT)) (bI : Binds K dI ["self", "ties", "made"] [])
    (gD : mg "sets_that_do" = some (.ref fD)) (kD : PySem.W.keepIn K (.ref fD) = true) (bD : Binds K dD ["tie_ups", "lifts"] []) (GD : FnOk P w K mg base CX0 2 fD dD ["tie_ups", "lifts"] (spDo CT))
    (gG : mg "tie_ups_one_larger" = some (.ref fG)) (kG : PySem.W.keepIn K (.ref fG) = true) (bG : Binds K dG ["tie_ups", "lifts", "feet"] []) (GG : FnOk P w K mg base CX0 5 fG dG ["tie_ups", "lifts", "feet"] (spLarger CT)) :
    FnOk P w K mg base CX0 6 f fd ["lifts", "feet"] spLeast := by
  refine F.ok scLe (fun vs H Q E h => ?_) (fun cdv A outer s H vs Q E hr h => ?_)
  · obtain ⟨b, feet, m, rfl, _⟩ := h
    rfl
  · obtain ⟨lb, feet, m, rfl, hb, hs, hf, k⟩ := h
    have hr2 : Room 2 _ := hr.mono (by decide)
    obtain ⟨N, t, r, _, no, yes, few⟩ := fewest_is m hf
    refine ⟨_, pss_cons (ps_set (i := 2) scLe.nd rfl (Or.inl rfl) (pe_lst (pa_cons (pe_make MI GI hr2 (by rfl) T.gTieUp bI .nil pass0 (pa_cons (pe_lst pa_nil) (pa_cons (pe_disp (pps_cons pe_int pe_int pps_nil) (by rfl) (by rfl) (fun z => by cases z) (by decide)) pa_nil))) pa_nil)))
      (pss_cons (ps_set (i := 3) scLe.nd rfl (Or.inl rfl) (pe_call GD hr2 (by rfl) gD kD bD .nil pass0 (pa_cons (pv 2) (pa_cons (pv 0) pa_nil))))
      (pss_cons (ps_while PassesOwn.never (PW.pt (pw_and (pt_truth (pv 2) (by intro _; rfl)) (pw_and1 (pt_not (pt_truth (pv 3) (by intro _; rfl))))))
        (pss_cons (ps_set (i := 2) scLe.nd rfl (Or.inl rfl) (pe_call GG hr (by rfl) gG kG bG .nil pass0 (pa_cons (pv 2) (pa_cons (pv 0) (pa_cons (pv 1) pa_nil)))))
        (pss_one (ps_set (i := 3) scLe.nd rfl (Or.inl rfl) (pe_call GD hr2 (by rfl) gD kD bD .nil pass0 (pa_cons (pv 2) (pa_cons (pv 0) pa_nil)))))))
      (pss_one (ps_ret (pv 3))))), ?_⟩
    refine ⟨Nat.zero_le _, fun l hl => ?_⟩
    intro d hd
    refine ⟨upd_same, [(.inl 0, .int 0)], rfl, (by show 1 ≤ 15; decide), ?_⟩
    have hd2 : mergeK [] [((.inl 0 : Key), V.int 0)] = [(.inl 0, .int 0)] := rfl
    rw [hd2, upd_upd]
    have ndl : d ≠ l := fun z => by rw [z, upd_same] at hd; cases hd
    have hd0 : H d = none := by rw [upd_ne ndl] at hd; exact hd
    intro x dx nx ndx ne
    have nxd : x ≠ d := fun z => by rw [z, upd_same] at nx; cases nx
    rw [upd_ne nxd] at nx
    have nxl : x ≠ l := fun z => by rw [z, upd_same] at nx; cases nx
    rw [upd_ne nxl] at nx
    have ndd : dx ≠ d := fun z => by rw [z, upd_same] at ndx; cases ndx
    rw [upd_ne ndd] at ndx
    have ndl' : dx ≠ l := fun z => by rw [z, upd_same] at ndx; cases ndx
    rw [upd_ne ndl'] at ndx
    refine ⟨x, dx, l, d, rfl, upd_same, fun H1 e1 => ⟨rfl, (by show 1 ≤ sizeLine; decide), fun tu htu => ?_⟩⟩
    have s1 : Same H H1 := fun b o e => by
      rw [e1, upd_ne (ne_of_none e nx), upd_ne (ne_of_none e nx), upd_ne (ne_of_none e ndx), upd_ne (ne_of_none e hd0), upd_ne (ne_of_none e hl)]
      exact e
    have tu0 : TuAt CT feet H1 x [] := by
      refine ⟨dx, l, d, [(.inl 0, .int 0)], by rw [e1, upd_same], ?_, ?_, madeOk_start feet⟩
      · show H1 l = _
        rw [e1, upd_ne nxl.symm, upd_ne nxl.symm, upd_ne ndl'.symm, upd_ne ndl.symm, upd_same]; rfl
      · rw [e1, upd_ne nxd.symm, upd_ne nxd.symm, upd_ne ndd.symm, upd_same]
    have s2 : Same H1 (upd H1 tu (.lst [.ref x])) := fun b o e => (upd_ne (ne_of_none e htu)).trans e
    have s02 := s1.trans s2
    refine ⟨_, rfl, _, rfl, tu, lb, feet, m, level m feet 0, rfl, ?_, s02 _ _ hb, ?_, fun H3 dn s3 hdn LD => ?_⟩
    · rw [level_zero]
      exact ⟨[x], upd_same, .one (tuAt_stays _ _ _ _ s2 tu0)⟩
    · rw [level_zero]
      decide
    refine while_rel (fun n σ H' => ∃ (j : Nat) (tu dn : Addr), n = N - j ∧ j ≤ N ∧ σ = [some (.ref lb), some (.int (feet : Int)), some (.ref tu), some (.ref dn)] ∧ Same H H' ∧ ListOf (TuAt CT feet) H' tu (level m feet j) ∧
        ListOf LstR H' dn ((level m feet j).filter (m.enough feet)) ∧ H dn = none) N ⟨0, tu, dn, rfl, Nat.zero_le _, rfl, s02.trans s3, ?_, LD, s02.free hdn⟩ ?_
    · rw [level_zero]
      exact ⟨[x], s3 _ _ upd_same, .one (tuAt_stays _ _ _ _ (s2.trans s3) tu0)⟩
    · rintro n σ H' ⟨j, tu, dn, rfl, jN, rfl, s4, LT, LD', fdn⟩
      obtain ⟨as, has, EA⟩ := LT
      obtain ⟨ds, hds, ED⟩ := LD'
      have e1 := refs_some EA.len (level_ne no yes jN)
      refine ⟨_, rfl, _, .inl ⟨_, SqL.of has, rfl⟩, ifT e1 ?_⟩
      refine ⟨_, rfl, _, .inl ⟨_, SqL.of hds, rfl⟩, ?_⟩
      by_cases c : j = N
      · subst c
        have le := level_enough no
        rw [yes] at le
        have e2 := refs_some ED.len (by rw [le]; exact List.cons_ne_nil _ _)
        rw [e2]
        refine ifF rfl ⟨_, rfl, ?_⟩
        rw [le] at ED
        exact k H' dn t r few s4 fdn ⟨ds, hds, ED⟩
      · have lt : j < N := by omega
        have no' : ∀ i, i < j → (Sw87.choose i (ties m)).filter (m.enough feet) = [] := fun i hi => no i (by omega)
        have em : (level m feet j).filter (m.enough feet) = [] := (level_enough no').trans (no j lt)
        rw [refs_none ED.len em]
        refine ifT rfl ?_
        refine ⟨fun σ H' => ∃ (j' : Nat) (tu dn : Addr), N - j' < N - j ∧ j' ≤ N ∧ σ = [some (.ref lb), some (.int (feet : Int)), some (.ref tu), some (.ref dn)] ∧ Same H H' ∧ ListOf (TuAt CT feet) H' tu (level m feet j') ∧
          ListOf LstR H' dn ((level m feet j').filter (m.enough feet)) ∧ H dn = none, fun σ' H' ⟨j', tu, dn, h1, h2, h3⟩ => ⟨_, h1, j', tu, dn, rfl, h2, h3⟩, ?_⟩
        refine ⟨_, rfl, _, rfl, _, rfl, tu, lb, feet, m, level m feet j, rfl, ⟨as, has, EA⟩, s4 _ _ hb, hs, fun c hc => ?_, ?_, fun H5 tu2 s5 htu2 L5 => ?_⟩
        · obtain ⟨c1, c2, c3⟩ := level_mem hc
          refine ⟨?_, c3, fun z => ?_⟩
          · have h2 : 2 ^ m.shafts ≤ 2 ^ 4 := Nat.pow_le_pow_right (by decide) hs
            omega
          · have : c ∈ (level m feet j).filter (m.enough feet) := List.mem_filter.mpr ⟨hc, enough_iff.mpr z⟩
            rw [em] at this
            cases this
        · rw [← level_succ]
          exact Nat.le_trans (level_len m hs feet _) (by decide)
        rw [← level_succ] at L5
        refine ⟨_, rfl, _, rfl, tu2, lb, feet, m, _, rfl, L5, s5 _ _ (s4 _ _ hb), Nat.le_trans (level_len m hs feet _) (by decide), fun H6 dn2 s6 hdn2 L6 => ?_⟩
        exact ⟨j + 1, tu2, dn2, by omega, by omega, rfl, (s4.trans s5).trans s6, L5.mono tuAt_stays s6, L6, (s4.trans s5).free hdn2⟩
end
end Tr
set_option maxRecDepth 100000
set_option maxHeartbeats 4000000
namespace Tr
open PySem PySem.Spec PyProof.Rows L2
theorem oF_dist (D W : Nat) (fo be : V) : (oF D W fo be).lookup ("distance" : Str) = some (.int (D : Int)) := lk_here
theorem oF_ways (D W : Nat) (fo be : V) : (oF D W fo be).lookup ("ways" : Str) = some (.int (W : Int)) := (lk_past (by decide +kernel)).trans lk_here
theorem oF_foll (D W : Nat) (fo be : V) : (oF D W fo be).lookup ("following" : Str) = some fo := (lk_past (by decide +kernel)).trans ((lk_past (by decide +kernel)).trans lk_here)
theorem oF_bey (D W : Nat) (fo be : V) : (oF D W fo be).lookup ("beyond" : Str) = some be := (lk_past (by decide +kernel)).trans ((lk_past (by decide +kernel)).trans ((lk_past (by decide +kernel)).trans lk_here))
theorem oF_put (D W U : Nat) (fo be : V) : putF "ways" (.int (U : Int)) (oF D W fo be) = oF D U fo be := (put_past (by decide +kernel)).trans (congrArg _ put_here)
theorem oF_new (D W : Nat) (fo be : V) : putF "beyond" be (putF "following" fo (putF "ways" (.int (W : Int)) (putF "distance" (.int (D : Int)) []))) = oF D W fo be := by
  have e1 : putF "ways" (V.int (W : Int)) (putF "distance" (V.int (D : Int)) []) = [(("distance" : Str), V.int (D : Int)), (("ways" : Str), V.int (W : Int))] := (put_past (by decide +kernel)).trans rfl
  have e2 : putF "following" fo [(("distance" : Str), V.int (D : Int)), (("ways" : Str), V.int (W : Int))] = [(("distance" : Str), V.int (D : Int)), (("ways" : Str), V.int (W : Int)), (("following" : Str), fo)] :=
    (put_past (by decide +kernel)).trans (congrArg _ ((put_past (by decide +kernel)).trans rfl))
  have e3 : putF "beyond" be [(("distance" : Str), V.int (D : Int)), (("ways" : Str), V.int (W : Int)), (("following" : Str), fo)] = oF D W fo be :=
    (put_past (by decide +kernel)).trans (congrArg _ ((put_past (by decide +kernel)).trans (congrArg _ ((put_past (by decide +kernel)).trans rfl))))
  rw [e1, e2, e3]
section
variable {P : Program} {w : World} {K : PySem.W.Frag} {mg : Str → Option Value} {base : Heap} {CL CT CO CR : Addr}
theorem scOI : FnScope ["self", "distance", "ways", "following", "beyond"] ["self", "distance", "ways", "following", "beyond"] (defScope sOInit) := ⟨rfl, rfl, rfl, by decide +kernel, rfl, by decide +kernel, by decide +kernel⟩
theorem ok_oinit {f : Addr} {fd : FuncData} (F : Fun K "__init__" "Onward.__init__" sOInit f fd) (T : Txt K mg CL CT CO CR) : FnOk P w K mg base CX0 1 f fd ["self", "distance", "ways", "following", "beyond"] (spOInit CO) := by
  refine F.ok scOI (fun vs H Q E h => ?_) (fun cdv A outer s H vs Q E hr h => ?_)
  · obtain ⟨p, dx, D, W, fo, be, rfl, _⟩ := h
    rfl
  · obtain ⟨p, dx, D, W, fo, be, rfl, hp, k⟩ := h
    refine ⟨_, pss_cons (ps_fld (pv 0) (pv 1) rfl) (pss_cons (ps_fld (pv 0) (pv 2) rfl) (pss_cons (ps_fld (pv 0) (pv 3) rfl) (pss_one (ps_fld (pv 0) (pv 4) rfl)))), ?_⟩
    refine ⟨_, rfl, _, rfl, p, CO, dx, [], rfl, hp, T.clO, T.nDist, (by show 0 < 1000; decide), ?_⟩
    refine ⟨_, rfl, _, rfl, p, CO, dx, _, rfl, upd_same, T.clO, T.nWays, (by show 1 < 1000; decide), ?_⟩
    refine ⟨_, rfl, _, rfl, p, CO, dx, _, rfl, upd_same, T.clO, T.nFoll, (by show 2 < 1000; decide), ?_⟩
    refine ⟨_, rfl, _, rfl, p, CO, dx, _, rfl, upd_same, T.clO, T.nBeyond, (by show 3 < 1000; decide), ?_⟩
    exact k _ (by rw [upd_same, oF_new]) fun b n => by rw [upd_ne n, upd_ne n, upd_ne n, upd_ne n]
theorem scGo : FnScope ["place", "following"] ["place", "following"] (defScope sGone) := ⟨rfl, rfl, rfl, by decide +kernel, rfl, by decide +kernel, by decide +kernel⟩
theorem ok_gone {f : Addr} {fd : FuncData} (F : Fun K "gone" "gone" sGone f fd) (T : Txt K mg CL CT CO CR) : FnOk P w K mg base CX0 1 f fd ["place", "following"] spGone := by
  refine F.ok scGo (fun vs H Q E h => ?_) (fun cdv A outer s H vs Q E hr h => ?_)
  · obtain ⟨v, q, p, f, rfl, _⟩ := h
    rfl
  · obtain ⟨v, q, p, x, rfl, hv, hq, k⟩ := h
    refine ⟨_, pss_cons (ps_if (pt_cmpR op_isN (pv 0) pe_non (nomark _)) (pss_one (ps_ret pe_int)) pss_nil)
      (pss_one (ps_ret (pe_op op_add
        (pe_callB call_abs (by rfl) T.abs (by decide +kernel) (pa_cons (pe_op op_sub (pe_ix ix_tup (pv 0) pe_int (fun _ _ => rfl)) (pe_ix ix_tup (pv 1) pe_int (fun _ _ => rfl))) pa_nil))
        (pe_callB call_abs (by rfl) T.abs (by decide +kernel) (pa_cons (pe_op op_sub (pe_ix ix_tup (pv 0) pe_int (fun _ _ => rfl)) (pe_ix ix_tup (pv 1) pe_int (fun _ _ => rfl))) pa_nil))))), ?_⟩
    cases p with
    | none =>
      have e : v = .non := hv
      subst e
      exact ⟨_, rfl, rfl, _, rfl, ifT (decide_eq_true rfl) k⟩
    | some y =>
      obtain ⟨p, rfl, hp⟩ := hv
      refine ⟨_, rfl, rfl, _, rfl, ifF (decide_eq_false fun z => nomatch z) ?_⟩
      refine ⟨_, rfl, p, _, _, _, rfl, rfl, SqT.of hp, atI_nat (j := 0) rfl, _, rfl, q, _, _, _, rfl, rfl, SqT.of hq, atI_nat (j := 0) rfl, _, _, rfl, rfl, _, rfl, ?_⟩
      refine ⟨_, rfl, p, _, _, _, rfl, rfl, SqT.of hp, atI_nat (j := 1) rfl, _, rfl, q, _, _, _, rfl, rfl, SqT.of hq, atI_nat (j := 1) rfl, _, _, rfl, rfl, _, rfl, ?_⟩
      refine ⟨_, _, rfl, rfl, ?_⟩
      have e : (if (y.1 : Int) - (x.1 : Int) < 0 then -((y.1 : Int) - (x.1 : Int)) else (y.1 : Int) - (x.1 : Int)) + (if (y.2 : Int) - (x.2 : Int) < 0 then -((y.2 : Int) - (x.2 : Int)) else (y.2 : Int) - (x.2 : Int)) = ((goneN (some y) x : Nat) : Int) := by
        rw [absolute, absolute]; rfl
      show Q (.int ((if (y.1 : Int) - (x.1 : Int) < 0 then -((y.1 : Int) - (x.1 : Int)) else (y.1 : Int) - (x.1 : Int)) + (if (y.2 : Int) - (x.2 : Int) < 0 then -((y.2 : Int) - (x.2 : Int)) else (y.2 : Int) - (x.2 : Int)))) H
      rw [e]
      exact k
theorem each_pl_upd {H : Hp} {q : Addr} {as : List Addr} {fs : List Sw87.Feet} {xs : List V} {o : HO} (E : Each PlR H as fs) (h : H q = some (.lst xs)) : Each PlR (upd H q o) as fs :=
  ⟨E.len, fun i a f h1 h2 => (upd_ne (ne_of (E.each i a f h1 h2) h (by intro z; cases z))).trans (E.each i a f h1 h2)⟩
theorem scPa : FnScope ["self", "places", "onward"] ["self"] (defScope sPath) := ⟨rfl, rfl, rfl, by decide +kernel, rfl, by decide +kernel, by decide +kernel⟩
theorem ok_path {f : Addr} {fd : FuncData} (F : Fun K "path" "Onward.path" sPath f fd) (T : Txt K mg CL CT CO CR) : FnOk P w K mg base CX0 1 f fd ["self"] (spPath CO) := by
  refine F.ok scPa (fun vs H Q E h => ?_) (fun cdv A outer s H vs Q E hr h => ?_)
  · obtain ⟨a, b, rfl, _⟩ := h
    rfl
  · obtain ⟨a, b, rfl, ⟨dx, fo, be, ha, hpath⟩, few, k⟩ := h
    refine ⟨_, pss_cons (ps_set (i := 1) scPa.nd rfl (Or.inl rfl) (pe_lst pa_nil))
      (pss_cons (ps_set (i := 2) scPa.nd rfl (Or.inl rfl) (pv 0))
      (pss_cons (ps_while PassesOwn.never (pt_cmpR op_notN (pe_fld (pv 2) rfl) pe_non (nomark _))
        (pss_cons (ps_expr (pe_bm PySem.F.plainAttrs_list PySem.F.slot_list_append PySem.F.type_list_append mt_append (pv 1) (pa_cons (pe_fld (pv 2) rfl) pa_nil)))
        (pss_one (ps_set (i := 2) scPa.nd rfl (Or.inl rfl) (pe_fld (pv 2) rfl)))))
      (pss_one (ps_ret (pv 1))))), ?_⟩
    refine ⟨Nat.zero_le _, fun q hq => ?_⟩
    have s0 : Same H (upd H q (.lst [])) := fun b o e => (upd_ne (ne_of_none e hq)).trans e
    refine ⟨_, rfl, while_rel (fun n σ H' => ∃ (x dx : Addr) (D W : Nat) (fo be : V) (l done : List Sw87.Feet) (as : List Addr), n = l.length ∧ σ = [some (.ref a), some (.ref q), some (.ref x)] ∧ Same H H' ∧
        H x = some (.ins CO dx (oF D W fo be)) ∧ PathAt CO H fo be l ∧ done ++ l = b.feet ∧ H' q = some (.lst (as.map V.ref)) ∧ Each PlR H as done) b.feet.length
      ⟨a, dx, b.far, b.many, fo, be, b.feet, [], [], rfl, rfl, s0, ha, hpath, rfl, upd_same, .nil⟩ ?_⟩
    rintro n σ H' ⟨x, dx, D, W, fo, be, l, done, as, rfl, rfl, s1, hx, hp, el, e1, E1⟩
    refine ⟨_, rfl, x, CO, dx, _, _, rfl, s1 _ _ hx, T.clO, T.nFoll, oF_foll _ _ _ _, rfl, _, rfl, ?_⟩
    cases l with
    | nil =>
      obtain ⟨rfl, rfl⟩ := hp
      rw [List.append_nil] at el
      subst el
      exact ifF rfl ⟨_, rfl, k H' q s1 hq ⟨as, e1, E1.mono plR_stays s1⟩⟩
    | cons f r =>
      obtain ⟨p, x', dx', D', W', fo', be', rfl, rfl, hpf, hx', hr'⟩ := hp
      refine ifT rfl ?_
      refine ⟨fun σ H' => ∃ (x dx : Addr) (D W : Nat) (fo be : V) (done : List Sw87.Feet) (as : List Addr), σ = [some (.ref a), some (.ref q), some (.ref x)] ∧ Same H H' ∧
        H x = some (.ins CO dx (oF D W fo be)) ∧ PathAt CO H fo be r ∧ done ++ r = b.feet ∧ H' q = some (.lst (as.map V.ref)) ∧ Each PlR H as done,
        fun σ' H2 ⟨x, dx, D, W, fo, be, done, as, h⟩ => ⟨r.length, Nat.lt_succ_self _, x, dx, D, W, fo, be, r, done, as, rfl, h⟩, ?_⟩
      refine ⟨_, rfl, .inl ⟨rfl, _, SqL.of e1⟩, _, rfl, x, CO, dx, _, _, rfl, s1 _ _ hx, T.clO, T.nFoll, oF_foll _ _ _ _, q, _, _, rfl, rfl, e1, ?_, ?_⟩
      · have : done.length + (f :: r).length = b.feet.length := by rw [← List.length_append, el]
        rw [List.length_map, E1.len]
        show done.length < 16777216
        omega
      have s2 : Same H (upd H' q (.lst (as.map V.ref ++ [.ref p]))) := fun b o e => (upd_ne (ne_of_none e hq)).trans (s1 _ _ e)
      refine ⟨_, rfl, x, CO, dx, _, _, rfl, s2 _ _ hx, T.clO, T.nBeyond, oF_bey _ _ _ _, ?_⟩
      refine ⟨x', dx', D', W', fo', be', done ++ [f], as ++ [p], rfl, s2, hx', hr', by rw [List.append_assoc]; exact el, by rw [upd_same, refs_snoc], E1.snoc hpf⟩
end
end Tr
set_option maxRecDepth 100000
set_option maxHeartbeats 4000000
namespace Tr
open PySem PySem.Spec PyProof.Rows L2
theorem over_all (f : Sw87.Feet) (p : List Nat) : (p.map fun (i : Nat) => inV (.int (i : Int)) [.int (f.1 : Int), .int (f.2 : Int)]).all id = Sw87.over f p := by
  unfold Sw87.over
  rw [List.all_map]
  refine all_same fun i _ => ?_
  show (eqV (.int (f.1 : Int)) (.int (i : Int)) || (eqV (.int (f.2 : Int)) (.int (i : Int)) || false)) = (i == f.1 || i == f.2)
  rw [Bool.or_false]
  have e : ∀ a b : Nat, eqV (.int (a : Int)) (.int (b : Int)) = (b == a) := fun a b => by
    show ((a : Int) == (b : Int)) = (b == a)
    by_cases h : a = b
    · subst h
      simp
    · rw [beq_eq_false_iff_ne.mpr (by omega : (a : Int) ≠ (b : Int)), beq_eq_false_iff_ne.mpr (fun z => h z.symm)]
  rw [e, e]
/-- the places that are looked at: all rows below i, and j of row i -/
def seen (n i j : Nat) : List Sw87.Feet := (List.range i).flatMap (rowOf n) ++ (List.range' (i + 1) j).map fun b => (i, b)
theorem seen_zero (n : Nat) : seen n 0 0 = [] := rfl
theorem seen_more (n i j : Nat) : seen n i (j + 1) = seen n i j ++ [(i, i + 1 + j)] := by
  unfold seen
  rw [range'_more, List.map_append, List.append_assoc]; rfl
theorem seen_row (n i : Nat) : seen n i (n - (i + 1)) = seen n (i + 1) 0 := by
  unfold seen
  rw [List.range_succ, List.flatMap_append, List.flatMap_cons, List.flatMap_nil, List.append_nil]
  show _ = ((List.range i).flatMap (rowOf n) ++ rowOf n i) ++ []
  rw [List.append_nil]; rfl
theorem seen_all (n : Nat) : seen n n 0 = Sw87.places n := by
  unfold seen
  rw [places_rows]
  exact List.append_nil _
theorem places_upto (n i j : Nat) (h : i + 1 + j ≤ n) : ∃ r, seen n n 0 = seen n i j ++ r := by
  refine ⟨(List.range' (i + 1 + j) (n - (i + 1 + j))).map (fun b => (i, b)) ++ (List.range' (i + 1) (n - (i + 1))).flatMap (rowOf n), ?_⟩
  unfold seen
  have e1 : List.range n = List.range i ++ i :: List.range' (i + 1) (n - (i + 1)) := by
    have q : List.range n = List.range i ++ List.range' i (n - i) := by
      rw [List.range_eq_range', List.range_eq_range']
      have := List.range'_append_1 (s := 0) (m := i) (n := n - i)
      rw [Nat.zero_add, show i + (n - i) = n by omega] at this
      exact this.symm
    rw [q, show n - i = (n - (i + 1)) + 1 by omega, List.range'_succ]
  have e2 : rowOf n i = (List.range' (i + 1) j).map (fun b => (i, b)) ++ (List.range' (i + 1 + j) (n - (i + 1 + j))).map fun b => (i, b) := by
    unfold rowOf
    rw [← List.map_append, List.range'_append_1, show j + (n - (i + 1 + j)) = n - (i + 1) by omega]
  conv => lhs; rw [e1]
  rw [List.flatMap_append, List.flatMap_cons, e2]
  simp only [List.append_assoc, List.range'_zero, List.map_nil, List.append_nil]
section
variable {P : Program} {w : World} {K : PySem.W.Frag} {mg : Str → Option Value} {base : Heap} {CL CT CO CR : Addr}
theorem scOv : FnScope ["row", "treadles_there", "places", "left", "right", "treadle"] ["row", "treadles_there"] (defScope sPlaces) := ⟨rfl, rfl, rfl, by decide +kernel, rfl, by decide +kernel, by decide +kernel⟩
theorem ok_places {f : Addr} {fd : FuncData} (F : Fun K "places_over" "places_over" sPlaces f fd) (T : Txt K mg CL CT CO CR) : FnOk P w K mg base CX0 1 f fd ["row", "treadles_there"] spPlaces := by
  refine F.ok scOv (fun vs H Q E h => ?_) (fun cdv A outer s H vs Q E hr h => ?_)
  · obtain ⟨a, n, p, rfl, _⟩ := h
    rfl
  · obtain ⟨a, n, p, rfl, ha, hn, hp, k⟩ := h
    refine ⟨_, pss_cons (ps_set (i := 2) scOv.nd rfl (Or.inl rfl) (pe_lst pa_nil))
      (pss_cons (ps_for PassesOwn.never rfl (pi_range1 rfl T.range (pa_cons (pv 1) pa_nil)) (pg_name (i := 3) scOv.nd rfl (Or.inr rfl))
        (pss_one (ps_for PassesOwn.never rfl (pi_range2 (by rfl) T.range (pa_cons (pe_op op_add (pv 3) pe_int) (pa_cons (pv 1) pa_nil))) (pg_name (i := 4) scOv.nd rfl (Or.inr rfl))
          (pss_one (ps_if (pt_val (pe_callB (cr_all rfl) (by rfl) T.all (by decide +kernel) (pa_cons
              (pe_lc (own := [("treadle", 5)]) (g := gName 5) (tt := tYes) (te := tOp (rIn K false) (tVar 5) (tTup (tCons (tVar 3) (tCons (tVar 4) tNil)))) rfl scOv.nd
                (pi_list (pv 0))
                (blkOk_by (N := ["row", "treadles_there", "places", "left", "right", "treadle"]) (sc := defScope sPlaces) (by decide +kernel)) (fun _ _ _ _ _ => pg_name (i := 5) scOv.nd rfl (Or.inl rfl))
                (fun _ _ _ _ _ => pts_nil)
                (fun _ _ _ _ _ => pe_cmpR op_in_seq (pv 5) (pe_tup (pa_cons (pv 3) (pa_cons (pv 4) pa_nil))) (by rfl))) pa_nil)))
            (pss_one (ps_expr (pe_bm PySem.F.plainAttrs_list PySem.F.slot_list_append PySem.F.type_list_append mt_append (pv 2) (pa_cons (pe_tup (pa_cons (pv 3) (pa_cons (pv 4) pa_nil))) pa_nil)))) pss_nil)))))
      (pss_one (ps_ret (pv 2)))), ?_⟩
    refine ⟨Nat.zero_le _, fun q hq => ?_⟩
    have s0 : Same H (upd H q (.lst [])) := fun b o e => (upd_ne (ne_of_none e hq)).trans e
    have lens : ∀ (fs : List Sw87.Feet), fs.Sublist (Sw87.places n) → fs.length ≤ 64 := fun fs h => by
      refine Nat.le_trans h.length_le (Nat.le_trans (places_len n) ?_)
      exact Nat.mul_le_mul hn hn
    refine ⟨_, rfl, _, rfl, by omega, by omega, ?_⟩
    refine for_range (lo := 0) (n := (n : Int).toNat) (fun i σ H' => ∃ (v3 v4 v5 : Option V) (as : List Addr), σ = [some (.ref a), some (.int (n : Int)), some (.ref q), v3, v4, v5] ∧ Same H H' ∧ H' q = some (.lst (as.map V.ref)) ∧
        Each PlR H' as ((seen n i 0).filter (Sw87.over · p)))
      ⟨none, none, none, [], rfl, s0, upd_same, .nil⟩ ?_ ?_
    · rintro i σ H' hi ⟨v3, v4, v5, as, rfl, s1, e1, E1⟩
      rw [Int.toNat_natCast] at hi
      refine ⟨_, rfl, _, _, rfl, rfl, _, rfl, _, _, rfl, ⟨by omega, by omega, by omega, by omega⟩, ?_⟩
      have ej : ((n : Int) - (0 + (i : Nat) + 1)).toNat = n - (i + 1) := by omega
      refine for_range (lo := 0 + (i : Nat) + 1) (n := ((n : Int) - (0 + (i : Nat) + 1)).toNat) (fun j σ H' => ∃ (v4 v5 : Option V) (as : List Addr), σ = [some (.ref a), some (.int (n : Int)), some (.ref q), some (.int (0 + (i : Nat))), v4, v5] ∧ Same H H' ∧ H' q = some (.lst (as.map V.ref)) ∧
          Each PlR H' as ((seen n i j).filter (Sw87.over · p)))
        ⟨v4, v5, as, rfl, s1, e1, E1⟩ ?_ ?_
      · rintro j σ H2 hj ⟨v4, v5, as, rfl, s2, e2, E2⟩
        rw [ej] at hj
        have c3 : (0 : Int) + (i : Nat) = (i : Int) := by omega
        have c4 : (i : Int) + 1 + (j : Nat) = ((i + 1 + j : Nat) : Int) := by omega
        rw [c3, c4]
        refine ⟨_, rfl, a, rfl, ⟨_, SqL.of (s2 _ _ ha)⟩, fun D hD => ?_⟩
        refine lc_list (K := K) (a := a) (xs := nv p) (fun r H3 => Same H2 H3 ∧ H3 D = some (.lst (((p.take r).map fun (x : Nat) => inV (.int (x : Int)) [.int (i : Int), .int ((i + 1 + j : Nat) : Int)]).map V.bl)))
          ⟨fun b o e => (upd_ne (ne_of_none e hD)).trans e, upd_same⟩ (fun r H3 _ ⟨s3, _⟩ => SqL.of (s3 _ _ (s2 _ _ ha))) ?_ ?_
        · rintro r y H3 hr3 ⟨s3, e3⟩
          obtain ⟨x, hx, rfl⟩ := nv_at hr3
          refine ⟨rfl, yesT (iteT ?_)⟩
          refine ⟨_, rfl, _, rfl, _, rfl, (by show 2 ≤ sizeLine; decide), fun t ht => ?_⟩
          have nDt : D ≠ t := ne_of_none e3 ht
          refine ⟨t, _, rfl, .inr (SqT.of upd_same), rfl, rfl, _, (upd_ne nDt).trans e3, ?_, fun b o e => ?_, ?_⟩
          · rw [List.length_map, List.length_map]
            refine Nat.lt_of_le_of_lt (List.length_take_le' _ _) ?_
            show p.length < 16777216
            omega
          · rw [upd_ne (ne_of_none e hD), upd_ne (ne_of_none (s3 _ _ e) ht)]
            exact s3 _ _ e
          · rw [upd_same, take_more hx, List.map_append, List.map_append]; rfl
        · rintro H3 ⟨s3, e3⟩
          rw [nv_len, List.take_length] at e3
          refine ⟨D, _, rfl, SqL.of e3, ?_⟩
          rw [over_all (i, i + 1 + j) p]
          have e2' := s3 _ _ e2
          have E2' : Each PlR H3 as ((seen n i j).filter (Sw87.over · p)) := E2.mono plR_stays s3
          refine ⟨_, rfl, ?_⟩
          cases c : Sw87.over (i, i + 1 + j) p with
          | false =>
            refine iteF ⟨_, _, as, rfl, s2.trans s3, e2', ?_⟩
            rw [seen_more, List.filter_append, List.filter_cons, if_neg (by rw [c]; exact Bool.false_ne_true), List.filter_nil, List.append_nil]
            exact E2'
          | true =>
            refine iteT ?_
            refine ⟨_, rfl, .inl ⟨rfl, _, SqL.of e2'⟩, _, rfl, _, rfl, (by show 2 ≤ sizeLine; decide), fun t ht => ?_⟩
            have nqt : q ≠ t := ne_of_none e2' ht
            have s4 : Same H3 (upd H3 t (.tup [.int (i : Int), .int ((i + 1 + j : Nat) : Int)])) := fun b o e => (upd_ne (ne_of_none e ht)).trans e
            refine ⟨q, _, _, rfl, rfl, s4 _ _ e2', ?_, ?_⟩
            · rw [List.length_map, E2'.len]
              refine Nat.lt_of_le_of_lt (lens _ ?_) (by decide)
              refine List.filter_sublist.trans ?_
              obtain ⟨r, er⟩ := places_upto n i j (by omega)
              rw [← seen_all, er]
              exact List.sublist_append_left _ _
            · refine ⟨_, _, as ++ [t], rfl, fun b o e => (upd_ne (ne_of_none e hq)).trans (s4 _ _ (s3 _ _ (s2 _ _ e))), by rw [upd_same, refs_snoc], ?_⟩
              rw [seen_more, List.filter_append, List.filter_cons, if_pos c]
              exact each_pl_upd ((E2'.mono plR_stays s4).snoc upd_same) (s4 _ _ e2')
      · rintro σ H2 ⟨v4, v5, as, rfl, s2, e2, E2⟩
        rw [ej, seen_row] at E2
        exact ⟨_, v4, v5, as, rfl, s2, e2, E2⟩
    · rintro σ H' ⟨v3, v4, v5, as, rfl, s1, e1, E1⟩
      rw [Int.toNat_natCast, seen_all] at E1
      exact ⟨_, rfl, k H' q as s1 hq e1 E1⟩
end
end Tr
set_option maxRecDepth 100000
set_option maxHeartbeats 4000000
namespace Tr
open PySem PySem.Spec PyProof.Rows L2
theorem walk_itemsT {d : Addr} {o : Obj} {kvs : List (List Key × V)} : Walk (ItiT d o kvs) kvs.length (fun H => H d = some (.frz o (.dT kvs)))
    (fun i H x H' => ∃ T k v q, kvs[i]? = some (k, v) ∧ H q = some (.tup (k.map kV)) ∧ x = .ref T ∧ H T = none ∧ H' = upd H T (.tup [.ref q, v])) :=
  ⟨fun _ _ hi q => ⟨q, hi⟩, fun _ q => ⟨q, Nat.le_refl _⟩, fun _ _ _ _ _ _ y => y⟩
theorem pick_more (l : List Sw87.Best) {b : Sw87.Best} : pick (l ++ [b]) = Sw87.better (pick l) (some b) := pick_snoc l b
/-- the best so far, by its object -/
def BestAt (C : Addr) (H0 H : Hp) (v : V) : Option Sw87.Best → Prop
  | none => v = .non
  | some b => ∃ (z dz q a : Addr) (f : Sw87.Feet) (r : List Sw87.Feet), v = .ref z ∧ H0 z = none ∧ H z = some (.ins C dz (oF b.far b.many (.ref q) (.ref a))) ∧ PlR H q f ∧ b.feet = f :: r ∧
      ∃ (dx : Addr) (D W : Nat) (fo be : V), H0 a = some (.ins C dx (oF D W fo be)) ∧ PathAt C H0 fo be r
section
variable {P : Program} {w : World} {K : PySem.W.Frag} {mg : Str → Option Value} {base : Heap} {CL CT CO CR : Addr}
theorem scOn : FnScope ["place", "ahead", "best", "following", "beyond", "distance"] ["place", "ahead"] (defScope sOnward) := ⟨rfl, rfl, rfl, by decide +kernel, rfl, by decide +kernel, by decide +kernel⟩
theorem ok_onward {f fI fG : Addr} {fd dI dG : FuncData} (F : Fun K "onward_from" "onward_from" sOnward f fd) (T : Txt K mg CL CT CO CR)
    (MI : Mk K CO fI) (GI : FnOk P w K mg base CX0 1 fI dI ["self", "distance", "ways", "following", "beyond"] (spOInit CO)) (bI : Binds K dI ["self", "distance", "ways", "following", "beyond"] [])
    (gG : mg "gone" = some (.ref fG)) (kG : PySem.W.keepIn K (.ref fG) = true) (bG : Binds K dG ["place", "following"] []) (GG : FnOk P w K mg base CX0 1 fG dG ["place", "following"] spGone) :
    FnOk P w K mg base CX0 3 f fd ["place", "ahead"] (spOnward CO) := by
  refine F.ok scOn (fun vs H Q E h => ?_) (fun cdv A outer s H vs Q E hr h => ?_)
  · obtain ⟨v, d, p, kvs, l, b, rfl, _⟩ := h
    rfl
  · obtain ⟨v, d, p, kvs, l, b, rfl, hv, hd, ah, eb, k⟩ := h
    have hr1 : Room 1 _ := hr.mono (by decide)
    refine ⟨_, pss_cons (ps_if (pt_not (pt_truthR (pv 1) tru_dT (by intro _; rfl))) (pss_one (ps_ret (pe_make MI GI hr (by rfl) T.gOnward bI .nil pass0 (pa_cons pe_int (pa_cons pe_int (pa_cons pe_non (pa_cons pe_non pa_nil))))))) pss_nil)
      (pss_cons (ps_set (i := 2) scOn.nd rfl (Or.inl rfl) pe_non)
      (pss_cons (ps_lock (ps_for PassesOwn.never rfl (pi_itemsT (pv 1)) (pg_tup rfl (pgs_cons (pg_name (i := 3) scOn.nd rfl (Or.inl rfl)) (pgs_cons (pg_name (i := 4) scOn.nd rfl (Or.inl rfl)) pgs_nil)))
        (pss_cons (ps_set (i := 5) scOn.nd rfl (Or.inl rfl) (pe_op op_add (pe_call GG hr1 (by rfl) gG kG bG .nil pass0 (pa_cons (pv 0) (pa_cons (pv 3) pa_nil))) (pe_fld (pv 4) rfl)))
        (pss_one (ps_if (PW.pt (pw_or (pt_cmpR op_isN (pv 2) pe_non (nomark _)) (pw_or1 (pt_cmpR op_lt (pv 5) (pe_fld (pv 2) rfl) (nomark _)))))
          (pss_one (ps_set (i := 2) scOn.nd rfl (Or.inl rfl) (pe_make MI GI hr (by rfl) T.gOnward bI .nil pass0 (pa_cons (pv 5) (pa_cons (pe_fld (pv 4) rfl) (pa_cons (pv 3) (pa_cons (pv 4) pa_nil)))))))
          (pss_one (ps_if (pt_cmpR op_eq (pv 5) (pe_fld (pv 2) rfl) (nomark _)) (pss_one (ps_fldaug (pv 2) (pe_fld (pv 4) rfl) in_add)) pss_nil)))))))
      (pss_one (ps_ret (pv 2))))), ?_⟩
    refine ⟨_, rfl, d, kvs, rfl, hd, ?_⟩
    obtain ⟨len, at'⟩ := id ah
    cases l with
    | nil =>
      have ek : kvs = [] := List.eq_nil_of_length_eq_zero len
      subst ek
      refine ifT rfl ?_
      intro z dz nz ndz ne
      have ez : b = ⟨0, 1, []⟩ := (Option.some.inj eb).symm
      subst ez
      refine ⟨z, dz, 0, 1, .non, .non, rfl, upd_same, fun H1 e1 e2 => ⟨rfl, k H1 z (fun c o e => ?_) ⟨dz, _, _, e1, rfl, rfl⟩⟩⟩
      rw [e2 c (ne_of_none e nz), upd_ne (ne_of_none e nz), upd_ne (ne_of_none e ndz)]
      exact e
    | cons x0 l0 =>
      have eb' : pick ((x0 :: l0).map (onBy p)) = some b := eb
      have hne : kvs ≠ [] := fun z => by rw [z] at len; cases len
      have hk : (!(!kvs.isEmpty)) = false := by
        cases kvs with
        | nil => exact absurd rfl hne
        | cons y r => rfl
      generalize x0 :: l0 = l at len at' eb'
      refine ifF hk ?_
      refine ⟨d, _, hd, trivial, fun od => ?_⟩
      refine ⟨_, rfl, d, od, kvs, rfl, upd_same, ?_⟩
      refine for_it (walk_itemsT (d := d) (o := od) (kvs := kvs)) (fun i σ H' => ∃ (bv : V) (v3 v4 v5 : Option V), σ = [some v, some (.ref d), some bv, v3, v4, v5] ∧ (∀ c o, H c = some o → c ≠ d → H' c = some o) ∧ H' d = some (.frz od (.dT kvs)) ∧
          BestAt CO H H' bv (pick ((l.take i).map (onBy p))))
        ⟨.non, none, none, none, rfl, fun c o e n => (upd_ne n).trans e, upd_same, rfl⟩ (fun i σ H' _ ⟨_, _, _, _, _, _, e, _⟩ => e) ?_ ?_
      · rintro i y σ H1 H2 hi ⟨bv, v3, v4, v5, rfl, s1, e1, B1⟩ ⟨t, key, val, q, ekv, hq, rfl, ht, rfl⟩
        obtain ⟨⟨x, b1⟩, hx⟩ : ∃ z, l[i]? = some z := ⟨_, List.getElem?_eq_getElem (len ▸ hi)⟩
        obtain ⟨a, ea, on⟩ := at' i x b1 hx
        rw [ea] at ekv
        injection ekv with ekv
        injection ekv with ek ev
        subst ek ev
        obtain ⟨dxa, fo, be, ha, hpath⟩ := id on
        have hq : PlR H1 q x := hq
        have nqt : q ≠ t := ne_of_none hq ht
        have s2 : Same H1 (upd H1 t (.tup [.ref q, .ref a])) := fun c o e => (upd_ne (ne_of_none e ht)).trans e
        generalize eH2 : upd H1 t (.tup [.ref q, .ref a]) = H2 at s2
        have ht2 : H2 t = some (.tup [.ref q, .ref a]) := by rw [← eH2, upd_same]
        have s3 : ∀ c o, H c = some o → c ≠ d → H2 c = some o := fun c o e n => s2 _ _ (s1 c o e n)
        have hd2 := s2 _ _ e1
        have hq2 : PlR H2 q x := s2 _ _ hq
        have nad : a ≠ d := ne_of ha hd (by intro z; cases z)
        have ha2 := s3 _ _ ha nad
        have hv2 : FromV H2 v p := by
          cases p with
          | none => exact hv
          | some y =>
            obtain ⟨pp, e, hpp⟩ := hv
            exact ⟨pp, e, s3 _ _ hpp (ne_of hpp hd (by intro z; cases z))⟩
        have em : (l.take (i + 1)).map (onBy p) = (l.take i).map (onBy p) ++ [onBy p (x, b1)] := by rw [take_more hx, List.map_append]; rfl
        -- a new best
        have next : ∀ (z dz : Addr) (H3 : Hp) (v4 v5 : Option V), H2 z = none → H3 z = some (.ins CO dz (oF (goneN p x + b1.far) b1.many (.ref q) (.ref a))) → Same H2 H3 → pick ((l.take (i + 1)).map (onBy p)) = some (onBy p (x, b1)) →
            ∃ (bv : V) (w3 w4 w5 : Option V), [some v, some (.ref d), some (.ref z), some (.ref q), v4, v5] = [some v, some (.ref d), some bv, w3, w4, w5] ∧ (∀ c o, H c = some o → c ≠ d → H3 c = some o) ∧ H3 d = some (.frz od (.dT kvs)) ∧
              BestAt CO H H3 bv (pick ((l.take (i + 1)).map (onBy p))) := fun z dz H3 v4 v5 nz hz s4 ep => by
          refine ⟨.ref z, some (.ref q), v4, v5, rfl, fun c o e n => s4 _ _ (s3 c o e n), s4 _ _ hd2, ?_⟩
          rw [ep]
          refine ⟨z, dz, q, a, x, b1.feet, rfl, ?_, hz, s4 _ _ hq2, rfl, dxa, _, _, fo, be, ha, hpath⟩
          cases e : H z with
          | none => rfl
          | some o =>
            have n : z ≠ d := fun w => by rw [w, hd2] at nz; cases nz
            have := s3 z o e n
            rw [nz] at this
            cases this
        refine ⟨t, _, rfl, SqT.of ht2, rfl, _, _, rfl, _, _, rfl, rfl, ?_⟩
        refine ⟨_, rfl, _, rfl, v, q, p, x, rfl, hv2, hq2, ?_⟩
        refine ⟨_, rfl, a, CO, dxa, _, _, rfl, ha2, T.clO, T.nDist, oF_dist _ _ _ _, _, _, rfl, rfl, ?_⟩
        cases pk : pick ((l.take i).map (onBy p)) with
        | none =>
          rw [pk] at B1
          have ebv : bv = .non := B1
          subst ebv
          have ep : pick ((l.take (i + 1)).map (onBy p)) = some (onBy p (x, b1)) := by rw [em, pick_more, pk]; rfl
          refine ⟨_, rfl, rfl, _, rfl, ifT (decide_eq_true rfl) ?_⟩
          refine ⟨_, rfl, _, rfl, a, CO, dxa, _, _, rfl, ha2, T.clO, T.nWays, oF_ways _ _ _ _, _, rfl, _, rfl, ?_⟩
          intro z dz nz ndz ne
          refine ⟨z, dz, goneN p x + b1.far, b1.many, .ref q, .ref a, rfl, upd_same, fun H3 g1 g2 => ⟨rfl, next z dz H3 _ _ nz g1 (fun c o e => ?_) ep⟩⟩
          rw [g2 c (ne_of_none e nz), upd_ne (ne_of_none e nz), upd_ne (ne_of_none e ndz)]
          exact e
        | some b0 =>
          rw [pk] at B1
          obtain ⟨z0, dz0, q0, a0, f0, r0, rfl, nz0, hz0, hq0, ef0, rest0⟩ := B1
          have hz2 := s2 _ _ hz0
          refine ⟨_, rfl, rfl, _, rfl, ifF (decide_eq_false fun w => nomatch w) ?_⟩
          refine ⟨_, rfl, _, rfl, z0, CO, dz0, _, _, rfl, hz2, T.clO, T.nDist, oF_dist _ _ _ _, _, _, rfl, rfl, _, rfl, ?_⟩
          by_cases c1 : goneN p x + b1.far < b0.far
          · have ep : pick ((l.take (i + 1)).map (onBy p)) = some (onBy p (x, b1)) := by rw [em, pick_more, pk]; exact better_less c1
            refine ifT (decide_eq_true (by omega)) ?_
            refine ⟨_, rfl, _, rfl, a, CO, dxa, _, _, rfl, ha2, T.clO, T.nWays, oF_ways _ _ _ _, _, rfl, _, rfl, ?_⟩
            intro z dz nz ndz ne
            refine ⟨z, dz, goneN p x + b1.far, b1.many, .ref q, .ref a, rfl, upd_same, fun H3 g1 g2 => ⟨rfl, next z dz H3 _ _ nz g1 (fun c o e => ?_) ep⟩⟩
            rw [g2 c (ne_of_none e nz), upd_ne (ne_of_none e nz), upd_ne (ne_of_none e ndz)]
            exact e
          · refine ifF (decide_eq_false (by omega)) ?_
            refine ⟨_, rfl, _, rfl, z0, CO, dz0, _, _, rfl, hz2, T.clO, T.nDist, oF_dist _ _ _ _, rfl, _, rfl, ?_⟩
            by_cases c2 : goneN p x + b1.far = b0.far
            · have ep : pick ((l.take (i + 1)).map (onBy p)) = some ⟨b0.far, b0.many + b1.many, b0.feet⟩ := by rw [em, pick_more, pk]; exact better_same c2
              refine ifT (decide_eq_true (congrArg V.int (by omega))) ?_
              refine ⟨_, rfl, z0, CO, dz0, _, _, rfl, hz2, T.clO, T.nWays, oF_ways _ _ _ _, _, rfl, a, CO, dxa, _, _, rfl, ha2, T.clO, T.nWays, oF_ways _ _ _ _, _, _, rfl, rfl, dz0, _, hz2, (by show 4 < 1000; decide), ?_⟩
              have nz : ∀ c o, H c = some o → c ≠ z0 := fun c o e => ne_of_none e nz0
              refine ⟨.ref z0, _, _, _, rfl, fun c o e n => (upd_ne (nz c o e)).trans (s3 c o e n), (upd_ne (ne_of hd2 hz2 (by intro w; cases w))).trans hd2, ?_⟩
              rw [ep]
              refine ⟨z0, dz0, q0, a0, f0, r0, rfl, nz0, ?_, (upd_ne (ne_of (s2 _ _ hq0) hz2 (by intro w; cases w))).trans (s2 _ _ hq0), ef0, rest0⟩
              rw [upd_same]
              exact congrArg (fun w => some (HO.ins CO dz0 w)) (oF_put b0.far b0.many (b0.many + b1.many) (.ref q0) (.ref a0))
            · have ep : pick ((l.take (i + 1)).map (onBy p)) = some b0 := by
                rw [em, pick_more, pk]
                exact better_more (show b0.far < goneN p x + b1.far by omega)
              refine ifF (decide_eq_false fun w => c2 (by injection w with w; omega)) ?_
              refine ⟨.ref z0, _, _, _, rfl, s3, hd2, ?_⟩
              rw [ep]
              exact ⟨z0, dz0, q0, a0, f0, r0, rfl, nz0, hz2, s2 _ _ hq0, ef0, rest0⟩
      · rintro σ H' ⟨bv, v3, v4, v5, rfl, s1, e1, B1⟩
        rw [len, List.take_length, eb'] at B1
        obtain ⟨z, dz, q, a, x, r, rfl, nz, hz, hq, ef, dx, D, W, fo, be, ha, hpath⟩ := B1
        have s2 : Same H (upd H' d (.dT kvs)) := fun c o e => by
          by_cases n : c = d
          · subst n
            rw [hd] at e
            cases e
            exact upd_same
          · exact (upd_ne n).trans (s1 c o e n)
        have nzd : z ≠ d := ne_of hz e1 (by intro w; cases w)
        have nqd : q ≠ d := ne_of hq e1 (by intro w; cases w)
        refine ⟨e1, _, rfl, k _ z s2 ⟨dz, .ref q, .ref a, (upd_ne nzd).trans hz, ?_⟩⟩
        rw [ef]
        exact ⟨q, a, dx, D, W, fo, be, rfl, rfl, (upd_ne nqd).trans hq, s2 _ _ ha, hpath.keep (.of_same s2)⟩
end
end Tr
set_option maxRecDepth 100000
set_option maxHeartbeats 4000000
namespace Tr
open PySem PySem.Spec PyProof.Rows L2
theorem onFrom_next {n : Nat} : ∀ {l : List (List Nat)}, (∀ p ∈ l, ∃ x ∈ Sw87.places n, Sw87.over x p = true) → ∀ f : Sw87.Feet, onFrom (some f) (aheadOf n l) = some (Tail n l f)
  | [], _, _ => rfl
  | p :: l, h, f => by
    have hp := h p List.mem_cons_self
    have ne : aheadOf n (p :: l) ≠ [] := fun z => filter_places_ne hp (List.map_eq_nil_iff.mp z)
    have e : onFrom (some f) (aheadOf n (p :: l)) = pick ((aheadOf n (p :: l)).map (onBy (some f))) := by
      unfold onFrom
      cases q : aheadOf n (p :: l) with
      | nil => exact absurd q ne
      | cons y r => rfl
    rw [e]
    unfold aheadOf
    rw [List.map_map]
    exact tail_pick hp f
theorem onFrom_walk {n : Nat} : ∀ {l : List (List Nat)}, (∀ p ∈ l, ∃ x ∈ Sw87.places n, Sw87.over x p = true) → onFrom none (aheadOf n l) = Sw87.walk n l
  | [], _ => rfl
  | p :: l, h => by
    have hp := h p List.mem_cons_self
    have ne : aheadOf n (p :: l) ≠ [] := fun z => filter_places_ne hp (List.map_eq_nil_iff.mp z)
    have e : onFrom none (aheadOf n (p :: l)) = pick ((aheadOf n (p :: l)).map (onBy none)) := by
      unfold onFrom
      cases q : aheadOf n (p :: l) with
      | nil => exact absurd q ne
      | cons y r => rfl
    rw [e, walk_eq h]
    unfold aheadOf
    rw [List.map_map]
    refine congrArg pick (List.map_congr_left fun x _ => ?_)
    show Sw87.Best.mk (0 + (Tail n l x).far) (Tail n l x).many (x :: (Tail n l x).feet) = _
    rw [Nat.zero_add]
theorem valV_no {κ : Type} [DecidableEq κ] : ∀ {kvs : List (κ × V)} {k : κ}, (∀ kv ∈ kvs, kv.1 ≠ k) → valV kvs k = none
  | [], _, _ => rfl
  | p :: r, k, h => by
    rw [valV_neg (h p List.mem_cons_self)]
    exact valV_no fun kv hk => h kv (List.mem_cons_of_mem _ hk)
theorem kp_inj {f g : Sw87.Feet} (h : kp f = kp g) : f = g := by
  unfold kp at h
  injection h with h1 h2
  injection h2 with h2 _
  injection h1 with h1
  injection h2 with h2
  obtain ⟨a, b⟩ := f
  obtain ⟨c, d⟩ := g
  have e1 : a = c := by
    have : (a : Int) = (c : Int) := h1
    omega
  have e2 : b = d := by
    have : (b : Int) = (d : Int) := h2
    omega
  rw [e1, e2]
theorem AheadAt.none {C : Addr} {H : Hp} {kvs : List (List Key × V)} {l : List (Sw87.Feet × Sw87.Best)} (A : AheadAt C H kvs l) {f : Sw87.Feet} (h : ∀ y ∈ l, y.1 ≠ f) : valV kvs (kp f) = Option.none := by
  refine valV_no fun kv hk e => ?_
  obtain ⟨i, hi⟩ := List.mem_iff_getElem?.mp hk
  have lt : i < l.length := A.1 ▸ (List.getElem?_eq_some_iff.mp hi).1
  have hl : l[i]? = some (l[i].1, l[i].2) := List.getElem?_eq_getElem lt
  obtain ⟨a, ea, _⟩ := A.2 i _ _ hl
  rw [hi] at ea
  cases ea
  exact h _ (List.getElem_mem lt) (kp_inj e)
theorem AheadAt.more {C : Addr} {H : Hp} {kvs : List (List Key × V)} {l : List (Sw87.Feet × Sw87.Best)} (A : AheadAt C H kvs l) {f : Sw87.Feet} {b : Sw87.Best} {a : Addr} (h : OnAt C H a b) : AheadAt C H (kvs ++ [(kp f, .ref a)]) (l ++ [(f, b)]) := by
  refine ⟨by rw [List.length_append, List.length_append, A.1]; rfl, fun i g c e => ?_⟩
  by_cases lt : i < l.length
  · rw [List.getElem?_append_left lt] at e
    obtain ⟨a', ea, on⟩ := A.2 i g c e
    exact ⟨a', by rw [List.getElem?_append_left (A.1 ▸ lt)]; exact ea, on⟩
  · rw [List.getElem?_append_right (by omega)] at e
    rw [List.getElem?_append_right (by have := A.1; omega), A.1]
    cases q : i - l.length with
    | zero =>
      rw [q] at e
      cases e
      exact ⟨a, rfl, h⟩
    | succ j => rw [q] at e; cases e
section
variable {P : Program} {w : World} {K : PySem.W.Frag} {mg : Str → Option Value} {base : Heap} {CL CT CO CR : Addr}
theorem scSh : FnScope ["places_by_pick", "ahead", "places", "here", "place"] ["places_by_pick"] (defScope sShort) := ⟨rfl, rfl, rfl, by decide +kernel, rfl, by decide +kernel, by decide +kernel⟩
theorem ok_short {f fO : Addr} {fd dO : FuncData} (F : Fun K "shortest_walk" "shortest_walk" sShort f fd) (T : Txt K mg CL CT CO CR)
    (gO : mg "onward_from" = some (.ref fO)) (kO : PySem.W.keepIn K (.ref fO) = true) (bO : Binds K dO ["place", "ahead"] []) (GO : FnOk P w K mg base CX0 3 fO dO ["place", "ahead"] (spOnward CO)) :
    FnOk P w K mg base CX0 4 f fd ["places_by_pick"] (spShort CO) := by
  refine F.ok scSh (fun vs H Q E h => ?_) (fun cdv A outer s H vs Q E hr h => ?_)
  · obtain ⟨a, n, ps, b, rfl, _⟩ := h
    rfl
  · obtain ⟨a, n, ps, b, rfl, hn, ⟨as, ha, EA⟩, ok, eb, k⟩ := h
    have hu := hu_of hr
    refine ⟨_, pss_cons (ps_set (i := 1) scSh.nd rfl (Or.inl rfl) pe_dnewT)
      (pss_cons (ps_for PassesOwn.never rfl (pi_reversed (by rfl) T.reversed (pa_cons (pv 0) pa_nil)) (pg_name (i := 2) scSh.nd rfl (Or.inl rfl))
        (pss_cons (ps_set (i := 3) scSh.nd rfl (Or.inl rfl) pe_dnewT)
        (pss_cons (ps_for PassesOwn.never rfl (pi_list (pv 2)) (pg_name (i := 4) scSh.nd rfl (Or.inl rfl))
          (pss_one (ps_dput hu (pv 3) (pv 4) (pe_call GO hr (by rfl) gO kO bO .nil pass0 (pa_cons (pv 4) (pa_cons (pv 1) pa_nil))) rfl)))
        (pss_one (ps_set (i := 1) scSh.nd rfl (Or.inl rfl) (pv 3))))))
      (pss_one (ps_ret (pe_call GO hr (by rfl) gO kO bO .nil pass0 (pa_cons pe_non (pa_cons (pv 1) pa_nil)))))), ?_⟩
    intro d0 hd0
    have len : as.length = ps.length := EA.len.trans (List.length_map ..)
    refine ⟨_, rfl, a, as.map V.ref, rfl, SqL.of ((upd_ne (ne_of_none ha hd0)).trans ha), ?_⟩
    refine for_it (walk_rev (K := K) (a := a) (xs := as.map V.ref)) (fun i σ H' => ∃ (v2 v3 v4 : Option V) (d : Addr) (kvs : List (List Key × V)), σ = [some (.ref a), some (.ref d), v2, v3, v4] ∧ Same H H' ∧ H' d = some (.dT kvs) ∧
        AheadAt CO H' kvs (aheadOf n (ps.drop (ps.length - i))))
      ⟨none, none, none, d0, [], rfl, fun c o e => (upd_ne (ne_of_none e hd0)).trans e, upd_same, ?_⟩ (fun i σ H' _ ⟨_, _, _, _, _, _, s, _⟩ => SqL.of (s _ _ ha)) ?_ ?_
    · rw [Nat.sub_zero, List.drop_length]
      exact ⟨rfl, fun i f b h => nomatch h⟩
    · rintro i y σ H1 H2 hi ⟨v2, v3, v4, d, kvs, rfl, s1, hd1, A1⟩ ⟨rfl, hy⟩
      rw [List.length_map, len] at hi hy
      obtain ⟨pl, hpl, rfl⟩ := ref_at hy
      obtain ⟨fs, hfs, pas, hpas, EP⟩ := EA.get hpl
      rw [List.getElem?_map] at hfs
      obtain ⟨p, hp, rfl⟩ : ∃ p, ps[ps.length - 1 - i]? = some p ∧ (Sw87.places n).filter (Sw87.over · p) = fs := by
        cases e : ps[ps.length - 1 - i]? with
        | none => rw [e] at hfs; cases hfs
        | some p => rw [e] at hfs; exact ⟨p, rfl, Option.some.inj hfs⟩
      -- what lies behind this pick
      have ed : ps.drop (ps.length - (i + 1)) = p :: ps.drop (ps.length - i) := by
        have lt : ps.length - 1 - i < ps.length := by omega
        have e1 : ps.length - (i + 1) = ps.length - 1 - i := by omega
        have e2 : ps.length - i = ps.length - 1 - i + 1 := by omega
        rw [e1, e2, List.drop_eq_getElem_cons lt]
        rw [List.getElem?_eq_getElem lt] at hp
        rw [Option.some.inj hp]
      generalize ps.drop (ps.length - i) = rest at A1 ed
      have okr : ∀ q ∈ rest, ∃ x ∈ Sw87.places n, Sw87.over x q = true := fun q hq => ok q (List.mem_of_mem_drop (i := ps.length - (i + 1)) (by rw [ed]; exact List.mem_cons_of_mem _ hq))
      intro hr0 hnew
      have s2 : Same H2 (upd H2 hr0 (.dT [])) := fun c o e => (upd_ne (ne_of_none e hnew)).trans e
      refine ⟨_, rfl, pl, rfl, ⟨_, SqL.of (s2 _ _ (s1 _ _ hpas))⟩, ?_⟩
      have ndh : d ≠ hr0 := ne_of_none hd1 hnew
      refine for_list (K := K) (a := pl) (xs := pas.map V.ref) (fun j σ H' => ∃ (v4 : Option V) (kv2 : List (List Key × V)), σ = [some (.ref a), some (.ref d), some (.ref pl), some (.ref hr0), v4] ∧ (∀ c o, H2 c = some o → H' c = some o) ∧
          H' hr0 = some (.dT kv2) ∧ AheadAt CO H' kv2 ((((Sw87.places n).filter (Sw87.over · p)).take j).map fun f => (f, Tail n rest f)))
        ⟨v4, [], rfl, s2, upd_same, ⟨rfl, fun i f b h => nomatch h⟩⟩ (fun j σ H' _ ⟨_, _, _, s, _⟩ => SqL.of (s _ _ (s1 _ _ hpas))) ?_ ?_
      · rintro j y σ H3 hj ⟨v4, kv2, rfl, s3, e3, A3⟩
        obtain ⟨t, ht, rfl⟩ := ref_at hj
        obtain ⟨f, hf, hpt⟩ := EP.get ht
        have hpt3 : PlR H3 t f := s3 _ _ (s1 _ _ hpt)
        refine ⟨_, rfl, _, rfl, .ref t, d, some f, kvs, aheadOf n rest, Tail n rest f, rfl, ⟨t, rfl, hpt3⟩, s3 _ _ hd1, A1.keep (.of_same s3), onFrom_next okr f, fun H4 z s4 on => ?_⟩
        have e4 := s4 _ _ e3
        have hpt4 : PlR H4 t f := s4 _ _ hpt3
        have A4 := A3.keep (.of_same s4)
        have fnew : valV kv2 (kp f) = none := by
          refine A4.none fun y hy => ?_
          obtain ⟨g, hg, rfl⟩ := List.mem_map.mp hy
          obtain ⟨i', hi', rfl⟩ := List.mem_take_iff_getElem.mp hg
          intro z
          have nd : ((Sw87.places n).filter (Sw87.over · p)).Nodup := (places_nodup n).sublist List.filter_sublist
          obtain ⟨lj, ej⟩ := List.getElem?_eq_some_iff.mp hf
          have := (List.getElem_inj nd).mp (z.trans ej.symm)
          omega
        have few : kv2.length < 100 := by
          rw [A3.1, List.length_map]
          refine Nat.lt_of_le_of_lt (List.length_take_le' _ _) (Nat.lt_of_le_of_lt (List.length_filter_le _ _) (Nat.lt_of_le_of_lt (places_len n) ?_))
          exact Nat.lt_of_le_of_lt (Nat.mul_le_mul hn hn) (by decide)
        have keep : KeepO H4 (upd H4 hr0 (.dT (putK kv2 (kp f) (.ref z)))) := fun c o e ho => (upd_ne (ne_of e e4 (by
          rcases ho with ⟨xs, rfl⟩ | ⟨C, dx, fs, rfl⟩
          · intro w; cases w
          · intro w; cases w))).trans e
        refine ⟨_, rfl, _, rfl, hr0, _, rfl, DPut.t (k := kp f) e4 hpt4 (Nat.lt_trans few (by decide)), ?_⟩
        have nh : ∀ c o, H2 c = some o → c ≠ hr0 := fun c o e => ne_of_none e hnew
        refine ⟨_, _, rfl, fun c o e => (upd_ne (nh c o e)).trans (s4 _ _ (s3 _ _ e)), upd_same, ?_⟩
        rw [putK_new _ fnew, take_more hf, List.map_append]
        rw [putK_new _ fnew] at keep
        exact (A4.more (f := f) on).keep keep
      · rintro σ H3 ⟨v4, kv2, rfl, s3, e3, A3⟩
        rw [List.length_map, EP.len, List.take_length] at A3
        refine ⟨_, rfl, ?_⟩
        refine ⟨_, _, _, hr0, kv2, rfl, s1.trans s3, e3, ?_⟩
        rw [ed]
        exact A3
    · rintro σ H' ⟨v2, v3, v4, d, kvs, rfl, s1, hd1, A1⟩
      rw [List.length_map, len, Nat.sub_self, List.drop_zero] at A1
      exact ⟨_, rfl, .non, d, none, kvs, aheadOf n ps, b, rfl, rfl, hd1, A1, (onFrom_walk ok).trans eb, fun H2 q s2 on => k H2 q (s1.trans s2) on⟩
end
end Tr
set_option maxRecDepth 100000
set_option maxHeartbeats 4000000
namespace Tr
open PySem PySem.Spec PyProof.Rows L2
theorem step_fewest_no {m : Sw87.Loom} {f : Nat} (h : ¬ (1 ≤ f ∧ f ≤ 3)) : (Sw87.step m (.fewest f)).2 = Sw87.ok (-1) := by
  show (if f < 1 ∨ 3 < f then (m, Sw87.ok (-1)) else _).2 = _
  rw [if_pos (by omega)]
theorem step_fewest_ok {m : Sw87.Loom} {f n : Nat} {t : List Nat} (h : 1 ≤ f ∧ f ≤ 3) (e : m.fewest f = some ⟨n, t⟩) : (Sw87.step m (.fewest f)).2 = ⟨(t.length : Nat), [[n], t]⟩ := by
  show (if f < 1 ∨ 3 < f then (m, Sw87.ok (-1)) else (m, match m.fewest f with
    | some x => (⟨(x.treadles.length : Nat), [[x.many], x.treadles]⟩ : Sw87.Ans)
    | none => Sw87.ok (-6))).2 = _
  rw [if_neg (by omega), e]
section
variable {P : Program} {w : World} {K : PySem.W.Frag} {mg : Str → Option Value} {base : Heap} {CL CT CO CR : Addr}
theorem scFt : FnScope ["feet"] ["feet"] (defScope sFeet) := ⟨rfl, rfl, rfl, by decide +kernel, rfl, by decide +kernel, by decide +kernel⟩
theorem ok_feet {f : Addr} {fd : FuncData} (F : Fun K "feet_in_range" "feet_in_range" sFeet f fd) (T : Txt K mg CL CT CO CR) : FnOk P w K mg base CX0 1 f fd ["feet"] spFeet := by
  refine F.ok scFt (fun vs H Q E h => ?_) (fun cdv A outer s H vs Q E hr h => ?_)
  · obtain ⟨f, rfl, _⟩ := h
    rfl
  · obtain ⟨f, rfl, k⟩ := h
    obtain ⟨t1, g1⟩ := T.gMostF
    refine ⟨_, pss_one (ps_ret (pe_and (pe_cmpR op_ge (pv 0) pe_int (nomark _)) (pe_one (pe_cmpR op_le (pv 0) (pe_glob (by rfl) g1 relI) (nomark _))))), ?_⟩
    refine ⟨_, rfl, _, _, rfl, rfl, _, rfl, ?_⟩
    by_cases c : 1 ≤ f
    · refine ifT (decide_eq_true (by omega)) ⟨_, rfl, _, _, rfl, rfl, ?_⟩
      have e : decide (1 ≤ f ∧ f ≤ 3) = decide ((f : Int) ≤ 3) := by
        by_cases c2 : f ≤ 3
        · rw [decide_eq_true ⟨c, c2⟩, decide_eq_true (by omega)]
        · rw [decide_eq_false (fun z => c2 z.2), decide_eq_false (by omega)]
      rw [e] at k
      exact k
    · refine ifF (decide_eq_false (by omega)) ?_
      rw [decide_eq_false (fun z => c z.1)] at k
      exact k
theorem scFw : FnScope ["loom", "feet", "sets"] ["loom", "feet"] (defScope sFewest) := ⟨rfl, rfl, rfl, by decide +kernel, rfl, by decide +kernel, by decide +kernel⟩
theorem ok_fewest {f fF fN fL fR : Addr} {fd dF dN dL dR : FuncData} (F : Fun K "fewest" "fewest" sFewest f fd) (T : Txt K mg CL CT CO CR)
    (gF : mg "feet_in_range" = some (.ref fF)) (kF : PySem.W.keepIn K (.ref fF) = true) (bF : Binds K dF ["feet"] []) (GF : FnOk P w K mg base CX0 1 fF dF ["feet"] spFeet)
    (mN : Meth K CL "lifts_needed" fN) (bN : Binds K dN ["self"] []) (GN : FnOk P w K mg base CX0 1 fN dN ["self"] (spNeeded CL))
    (gL : mg "least_sets" = some (.ref fL)) (kL : PySem.W.keepIn K (.ref fL) = true) (bL : Binds K dL ["lifts", "feet"] []) (GL : FnOk P w K mg base CX0 6 fL dL ["lifts", "feet"] spLeast)
    (gR : mg "counted_lists" = some (.ref fR)) (kR : PySem.W.keepIn K (.ref fR) = true) (bR : Binds K dR ["lists"] []) (GR : FnOk P w K mg base CX0 1 fR dR ["lists"] spRows) :
    FnOk P w K mg base CX0 7 f fd ["loom", "feet"] (spFewest CL) := by
  refine F.ok scFw (fun vs H Q E h => ?_) (fun cdv A outer s H vs Q E hr h => ?_)
  · obtain ⟨x, l, m, f, rfl, _⟩ := h
    rfl
  · obtain ⟨x, l, m, f, rfl, L, g, few, k⟩ := h
    have hr1 : Room 1 _ := hr.mono (by decide)
    obtain ⟨t1, g1⟩ := T.gOut
    obtain ⟨⟨dx, hx⟩, hl⟩ := id L
    refine ⟨_, pss_cons (ps_if (pt_not (pt_val (pe_call GF hr1 (by rfl) gF kF bF .nil pass0 (pa_cons (pv 1) pa_nil)))) (pss_one (ps_ret (pe_lst (pa_cons (pe_glob (by rfl) g1 relI) pa_nil)))) pss_nil)
      (pss_cons (ps_set (i := 2) scFw.nd rfl (Or.inl rfl) (pe_call GL hr (by rfl) gL kL bL .nil pass0 (pa_cons (pe_meth0 (pv 0) T.clL mN GN hr1 bN .nil pass0) (pa_cons (pv 1) pa_nil))))
      (pss_one (ps_ret (pe_op op_cat (pe_lst (pa_cons (pe_callB call_len_seq (by rfl) T.len PySem.boot_len (pa_cons (pe_ix ix_list (pv 2) pe_int (fun _ _ => rfl)) pa_nil)) pa_nil))
        (pe_call GR hr1 (by rfl) gR kR bR .nil pass0 (pa_cons (pe_lst (pa_cons (pe_lst (pa_cons (pe_callB call_len_seq (by rfl) T.len PySem.boot_len (pa_cons (pv 2) pa_nil)) pa_nil)) (pa_cons (pe_ix ix_list (pv 2) pe_int (fun _ _ => rfl)) pa_nil))) pa_nil)))))), ?_⟩
    refine ⟨_, rfl, f, rfl, _, rfl, ?_⟩
    by_cases c : 1 ≤ f ∧ f ≤ 3
    · refine ifF (by rw [decide_eq_true c]; rfl) ?_
      refine ⟨_, rfl, x, dx, _, rfl, hx, lF_not (by decide +kernel) (by decide +kernel), x, l, m, rfl, L, g, fun H1 q1 s1 hq1 e1 => ?_⟩
      refine ⟨_, rfl, q1, f, m, rfl, e1, g.hi, c.1, fun H2 q2 t r ef s2 hq2 L2 => ?_⟩
      rw [step_fewest_ok c ef] at k few
      obtain ⟨as, has, EA⟩ := L2
      obtain ⟨a0, ar, rfl⟩ : ∃ a0 ar, as = a0 :: ar := by
        cases as with
        | nil => exact absurd EA.len (by simp)
        | cons a0 ar => exact ⟨a0, ar, rfl⟩
      have h0 : LstR H2 a0 t := EA.each 0 a0 t rfl rfl
      have len : ((a0 :: ar).map V.ref).length = r.length + 1 := by rw [List.length_map, EA.len]; rfl
      have s02 := s1.trans s2
      refine ⟨_, rfl, q2, _, _, _, rfl, rfl, SqL.of has, atI_nat (j := 0) rfl, a0, _, rfl, .inl (SqL.of h0), (by show 1 ≤ sizeLine; decide), fun u hu => ?_⟩
      rw [nv_len]
      have s3 : Same H2 (upd H2 u (.lst [.int (t.length : Int)])) := fun b o e => (upd_ne (ne_of_none e hu)).trans e
      have u3 : (upd H2 u (.lst [.int (t.length : Int)])) u = some (.lst [.int (t.length : Int)]) := upd_same
      generalize upd H2 u (.lst [.int (t.length : Int)]) = H3 at s3 u3
      refine ⟨_, rfl, q2, _, rfl, .inl (SqL.of (s3 _ _ has)), (by show 1 ≤ sizeLine; decide), fun v hv => ?_⟩
      rw [len]
      have s4 : Same H3 (upd H3 v (.lst [.int ((r.length + 1 : Nat) : Int)])) := fun b o e => (upd_ne (ne_of_none e hv)).trans e
      have v4 : (upd H3 v (.lst [.int ((r.length + 1 : Nat) : Int)])) v = some (.lst [.int ((r.length + 1 : Nat) : Int)]) := upd_same
      generalize upd H3 v (.lst [.int ((r.length + 1 : Nat) : Int)]) = H4 at s4 v4
      refine ⟨_, rfl, q2, _, _, _, rfl, rfl, SqL.of (s4 _ _ (s3 _ _ has)), atI_nat (j := 0) rfl, (by show 2 ≤ sizeLine; decide), fun z hz => ?_⟩
      have s5 : Same H4 (upd H4 z (.lst [.ref v, .ref a0])) := fun b o e => (upd_ne (ne_of_none e hz)).trans e
      have z5 : (upd H4 z (.lst [.ref v, .ref a0])) z = some (.lst [.ref v, .ref a0]) := upd_same
      generalize upd H4 z (.lst [.ref v, .ref a0]) = H5 at s5 z5
      have fl : (flat [[r.length + 1], t]).length ≤ 1100000 := by
        have : (said ⟨(t.length : Nat), [[r.length + 1], t]⟩).length = (flat [[r.length + 1], t]).length + 1 := rfl
        omega
      refine ⟨z, [[r.length + 1], t], rfl, ⟨[v, a0], z5, ((Each.one (R := RowR) (.inl (s5 _ _ v4))).snoc (a := a0) (l := t) (.inl (s5 _ _ (s4 _ _ (s3 _ _ h0)))))⟩, fl, fun H6 y s6 hy ey => ?_⟩
      refine ⟨u, y, _, _, rfl, rfl, s6 _ _ (s5 _ _ (s4 _ _ u3)), ey, ?_, fun o ho => ?_⟩
      · rw [iv_len]
        show 1 + (flat [[r.length + 1], t]).length ≤ 16777216
        omega
      · have s06 : Same H H6 := ((((s02.trans s3).trans s4).trans s5).trans s6)
        exact k _ o (fun b ob e => (upd_ne (ne_of_none (s06 _ _ e) ho)).trans (s06 _ _ e)) (s06.free ho) (upd_same.trans rfl)
    · refine ifT (by rw [decide_eq_false c]; rfl) ?_
      rw [step_fewest_no c] at k
      exact ⟨(by show 1 ≤ sizeLine; decide), fun q hq => k _ q (fun b o e => (upd_ne (ne_of_none e hq)).trans e) hq upd_same⟩
end
end Tr
set_option maxRecDepth 100000
set_option maxHeartbeats 4000000
namespace Tr
open PySem PySem.Spec PyProof.Rows L2
theorem notIn_none {f : Nat → Option (List Nat)} : ∀ {l : List Nat}, notIn f l = none → ∃ ps, l.mapM f = some ps
  | [], _ => ⟨[], rfl⟩
  | b :: l, h => by
    unfold notIn at h
    rw [List.findIdx?_eq_none_iff] at h
    obtain ⟨ps, e⟩ := notIn_none (f := f) (l := l) (by
      unfold notIn
      rw [List.findIdx?_eq_none_iff]
      exact fun x hx => h x (List.mem_cons_of_mem _ hx))
    have hb := h b List.mem_cons_self
    cases q : f b with
    | none => rw [q] at hb; cases hb
    | some p => exact ⟨p :: ps, by rw [mapM_cons, q, e]; rfl⟩
theorem notIn_some {f : Nat → Option (List Nat)} {l : List Nat} {i : Nat} (h : notIn f l = some i) : l.mapM f = none ∧ (((l.zipIdx).filter fun x => (f x.1).isNone).map fun x => x.2).take 1 = [i] := by
  unfold notIn at h
  rw [List.findIdx?_eq_some_iff_getElem] at h
  obtain ⟨lt, yes, no⟩ := h
  have e : l = l.take i ++ l[i] :: l.drop (i + 1) := by rw [← List.drop_eq_getElem_cons lt, List.take_append_drop]
  have hn : f l[i] = none := by
    cases q : f l[i] with
    | none => rfl
    | some p => rw [q] at yes; cases yes
  generalize l[i] = b at e yes hn
  have hA : ∀ a ∈ l.take i, (f a).isNone = false := fun a ha => by
    obtain ⟨j, hj, rfl⟩ := List.mem_take_iff_getElem.mp ha
    have := no j (by omega)
    cases q : (f l[j]).isNone with
    | false => rfl
    | true => exact absurd q this
  have li : (l.take i).length = i := by rw [List.length_take]; omega
  constructor
  · rw [e]
    exact mapM_none f _ b _ hn
  · have q := first_not (l.take i) b (l.drop (i + 1)) 0 hA yes
    rw [← e, Nat.zero_add, li] at q
    exact q
theorem sum_cast : ∀ ps : List (List Nat), (ps.map fun p => ((p.length : Nat) : Int)).sum = (((ps.map fun x => x.length).foldl (fun a b => a + b) 0 : Nat) : Int) := by
  intro ps
  rw [foldl_len]
  induction ps with
  | nil => rfl
  | cons p ps ih =>
    rw [List.map_cons, List.sum_cons, List.map_cons, List.sum_cons, ih]; rfl
theorem flat_len (ls : List (List Nat)) : ls.length ≤ (flat ls).length := by
  induction ls with
  | nil => exact Nat.le_refl _
  | cons w ls ih =>
    unfold flat at ih ⊢
    rw [List.flatMap_cons, List.length_append, List.length_cons, List.length_cons]
    omega
def PressOk (m : Sw87.Loom) (f : Nat) (t : List Nat) : Prop := (1 ≤ f ∧ f ≤ 3) ∧ t.length ≤ 8 ∧ m.liftsOk t = true
theorem step_press_no {m : Sw87.Loom} {f : Nat} {t : List Nat} (h : ¬ PressOk m f t) : (Sw87.step m (.press f t)).2 = Sw87.ok (-1) := by
  show (if f < 1 ∨ 3 < f ∨ 8 < t.length ∨ m.liftsOk t = false then (m, Sw87.ok (-1)) else _).2 = _
  rw [if_pos ?_]
  unfold PressOk at h
  by_cases c1 : 1 ≤ f ∧ f ≤ 3
  · by_cases c2 : t.length ≤ 8
    · cases c3 : m.liftsOk t with
      | false => exact .inr (.inr (.inr rfl))
      | true => exact absurd ⟨c1, c2, c3⟩ h
    · exact .inr (.inr (.inl (by omega)))
  · omega
theorem press_cond {m : Sw87.Loom} {f : Nat} {t : List Nat} (h : PressOk m f t) : ¬ (f < 1 ∨ 3 < f ∨ 8 < t.length ∨ m.liftsOk t = false) := by
  obtain ⟨⟨a, b⟩, c, d⟩ := h
  rw [d]
  rintro (q | q | q | q)
  · omega
  · omega
  · omega
  · cases q
theorem step_press_six {m : Sw87.Loom} {f i : Nat} {t : List Nat} (h : PressOk m f t) (e : notIn (Sw87.made t f) m.picks = some i) : (Sw87.step m (.press f t)).2 = ⟨-6, [[i]]⟩ := by
  obtain ⟨e1, e2⟩ := notIn_some e
  show (if f < 1 ∨ 3 < f ∨ 8 < t.length ∨ m.liftsOk t = false then (m, Sw87.ok (-1)) else (m, match m.picks.mapM fun b => Sw87.made t f b with
    | some p => (⟨((p.map fun x => x.length).foldl (fun a b => a + b) 0 : Nat), p⟩ : Sw87.Ans)
    | none => ⟨-6, [((m.picks.zipIdx.filter fun x => (Sw87.made t f x.1).isNone).map fun x => x.2).take 1]⟩)).2 = _
  rw [if_neg (press_cond h), e2]
  have e3 : (m.picks.mapM fun b => Sw87.made t f b) = none := e1
  rw [e3]
theorem step_press_ok {m : Sw87.Loom} {f : Nat} {t : List Nat} {ps : List (List Nat)} (h : PressOk m f t) (e : m.picks.mapM (Sw87.made t f) = some ps) :
    (Sw87.step m (.press f t)).2 = ⟨((ps.map fun x => x.length).foldl (fun a b => a + b) 0 : Nat), ps⟩ := by
  show (if f < 1 ∨ 3 < f ∨ 8 < t.length ∨ m.liftsOk t = false then (m, Sw87.ok (-1)) else (m, match m.picks.mapM fun b => Sw87.made t f b with
    | some p => (⟨((p.map fun x => x.length).foldl (fun a b => a + b) 0 : Nat), p⟩ : Sw87.Ans)
    | none => ⟨-6, [((m.picks.zipIdx.filter fun x => (Sw87.made t f x.1).isNone).map fun x => x.2).take 1]⟩)).2 = _
  rw [if_neg (press_cond h)]
  have e3 : (m.picks.mapM fun b => Sw87.made t f b) = some ps := e
  rw [e3]
section
variable {P : Program} {w : World} {K : PySem.W.Frag} {mg : Str → Option Value} {base : Heap} {CL CT CO CR : Addr}
/-- len of a list or tuple -/
abbrev rLenS (K : PySem.W.Frag) : List V → Hp → VK → Prop := fun xs H Q => ∃ p ys, xs = [V.ref p] ∧ (SqL K H p ys ∨ SqT K H p ys) ∧ Q (V.int ys.length) H
/-- lengths of rows, as numbers -/
def lensOf (ps : List (List Nat)) : List Int := ps.map fun p => ((p.length : Nat) : Int)
theorem LmAt.same {C : Addr} {H H' : Hp} {x l : Addr} {m : Sw87.Loom} (L : LmAt C H x l m) (s : Same H H') : LmAt C H' x l m :=
  let ⟨⟨dx, hx⟩, hl⟩ := L
  ⟨⟨dx, s _ _ hx⟩, s _ _ hl⟩
theorem scPs : FnScope ["loom", "feet", "ties", "ways", "not_made", "pressed", "row"] ["loom", "feet", "ties"] (defScope sPress) := ⟨rfl, rfl, rfl, by decide +kernel, rfl, by decide +kernel, by decide +kernel⟩
theorem ok_press {f fF fM fW fN fP fR : Addr} {fd dF dM dW dN dP dR : FuncData} (F : Fun K "press" "press" sPress f fd) (T : Txt K mg CL CT CO CR)
    (gF : mg "feet_in_range" = some (.ref fF)) (kF : PySem.W.keepIn K (.ref fF) = true) (bF : Binds K dF ["feet"] []) (GF : FnOk P w K mg base CX0 1 fF dF ["feet"] spFeet)
    (mM : Meth K CL "may_have_treadles" fM) (bM : Binds K dM ["self", "ties"] []) (GM : FnOk P w K mg base CX0 2 fM dM ["self", "ties"] (spMay CL))
    (gW : mg "first_ways" = some (.ref fW)) (kW : PySem.W.keepIn K (.ref fW) = true) (bW : Binds K dW ["ties", "feet"] []) (GW : FnOk P w K mg base CX0 2 fW dW ["ties", "feet"] spWays)
    (mN : Meth K CL "first_not_in" fN) (bN : Binds K dN ["self", "ways"] []) (GN : FnOk P w K mg base CX0 1 fN dN ["self", "ways"] (spNotIn CL))
    (mP : Meth K CL "pressed_by" fP) (bP : Binds K dP ["self", "ways"] []) (GP : FnOk P w K mg base CX0 1 fP dP ["self", "ways"] (spPressed CL))
    (gR : mg "counted_lists" = some (.ref fR)) (kR : PySem.W.keepIn K (.ref fR) = true) (bR : Binds K dR ["lists"] []) (GR : FnOk P w K mg base CX0 1 fR dR ["lists"] spRows) :
    FnOk P w K mg base CX0 3 f fd ["loom", "feet", "ties"] (spPress CL) := by
  refine F.ok scPs (fun vs H Q E h => ?_) (fun cdv A outer s H vs Q E hr h => ?_)
  · obtain ⟨x, l, b, m, f, t, rfl, _⟩ := h
    rfl
  · obtain ⟨x, l, b, m, f, t, rfl, L, g, hb, few, k⟩ := h
    have hr1 : Room 1 _ := hr.mono (by decide)
    obtain ⟨t1, g1⟩ := T.gOut
    obtain ⟨t2, g2⟩ := T.gNotM
    obtain ⟨⟨dx, hx⟩, hl⟩ := id L
    refine ⟨_, pss_cons (ps_if (PW.pt (pw_or (pt_not (pt_val (pe_call GF hr1 (by rfl) gF kF bF .nil pass0 (pa_cons (pv 1) pa_nil)))) (pw_or1 (pt_not (pt_val (pe_meth (pv 0) T.clL mM GM hr bM .nil pass0 (pa_cons (pv 2) pa_nil)))))))
        (pss_one (ps_ret (pe_lst (pa_cons (pe_glob (by rfl) g1 relI) pa_nil)))) pss_nil)
      (pss_cons (ps_set (i := 3) scPs.nd rfl (Or.inl rfl) (pe_call GW hr (by rfl) gW kW bW .nil pass0 (pa_cons (pv 2) (pa_cons (pv 1) pa_nil))))
      (pss_cons (ps_set (i := 4) scPs.nd rfl (Or.inl rfl) (pe_meth (pv 0) T.clL mN GN hr1 bN .nil pass0 (pa_cons (pv 3) pa_nil)))
      (pss_cons (ps_if (pt_cmpR op_notN (pv 4) pe_non (nomark _)) (pss_one (ps_ret (pe_op op_cat (pe_lst (pa_cons (pe_glob (by rfl) g2 relI) pa_nil))
          (pe_call GR hr1 (by rfl) gR kR bR .nil pass0 (pa_cons (pe_lst (pa_cons (pe_lst (pa_cons (pv 4) pa_nil)) pa_nil)) pa_nil))))) pss_nil)
      (pss_cons (ps_set (i := 5) scPs.nd rfl (Or.inl rfl) (pe_meth (pv 0) T.clL mP GP hr1 bP .nil pass0 (pa_cons (pv 3) pa_nil)))
      (pss_one (ps_ret (pe_op op_cat (pe_lst (pa_cons (pe_callB (cr_sum rfl) (by rfl) T.sum (by decide +kernel) (pa_cons
          (pe_lc (own := [("row", 6)]) (g := gName 6) (tt := tYes) (te := tCB (rLenS K) (tCons (tVar 6) tNil)) rfl scPs.nd (pi_list (pv 5))
            (blkOk_by (N := ["loom", "feet", "ties", "ways", "not_made", "pressed", "row"]) (sc := defScope sPress) (by decide +kernel)) (fun _ _ _ _ _ => pg_name (i := 6) scPs.nd rfl (Or.inl rfl))
            (fun _ _ _ _ _ => pts_nil)
            (fun _ _ _ _ _ => pe_callB call_len_seq (by rfl) T.len PySem.boot_len (pa_cons (pv 6) pa_nil))) pa_nil)) pa_nil))
        (pe_call GR hr1 (by rfl) gR kR bR .nil pass0 (pa_cons (pv 5) pa_nil))))))))), ?_⟩
    have refuse : ¬ PressOk m f t → ∀ H1, Same H H1 → ∀ q, H1 q = none → Q (.ref q) (upd H1 q (.lst [.int (-1)])) := fun c H1 s1 q hq => by
      rw [step_press_no c] at k
      exact k _ q (fun b o e => (upd_ne (ne_of_none (s1 _ _ e) hq)).trans (s1 _ _ e)) (s1.free hq) upd_same
    refine ⟨_, rfl, f, rfl, _, rfl, ?_⟩
    by_cases c1 : 1 ≤ f ∧ f ≤ 3
    rotate_left
    · refine ifT (by rw [decide_eq_false c1]; rfl) ⟨(by show 1 ≤ sizeLine; decide), fun q hq => refuse (fun z => c1 z.1) H (Same.refl H) q hq⟩
    refine ifF (by rw [decide_eq_true c1]; rfl) ?_
    refine ⟨_, rfl, x, dx, _, rfl, hx, lF_not (by decide +kernel) (by decide +kernel), _, rfl, x, l, b, m, t, rfl, L, hb, _, rfl, ?_⟩
    by_cases c2 : t.length ≤ 8 ∧ m.liftsOk t = true
    rotate_left
    · refine ifT ?_ ⟨(by show 1 ≤ sizeLine; decide), fun q hq => refuse (fun z => c2 z.2) H (Same.refl H) q hq⟩
      by_cases c3 : t.length ≤ 8
      · cases c4 : m.liftsOk t with
        | true => exact absurd ⟨c3, c4⟩ c2
        | false => rw [Bool.and_false]; rfl
      · rw [decide_eq_false c3]; rfl
    refine ifF (by rw [decide_eq_true c2.1, c2.2]; rfl) ?_
    have ok : PressOk m f t := ⟨c1, c2.1, c2.2⟩
    refine ⟨_, rfl, _, rfl, b, f, t, rfl, hb, c2.1, c1.2, fun H1 d s1 W => ?_⟩
    have hx1 := s1 _ _ hx
    refine ⟨_, rfl, x, dx, _, rfl, hx1, lF_not (by decide +kernel) (by decide +kernel), _, rfl, x, l, d, m, _, rfl, L.same s1, W, fun H2 s2 => ?_⟩
    have hx2 := s2 _ _ hx1
    have s02 := s1.trans s2
    have W2 : WaysAt H2 d (Sw87.made t f) := let ⟨kvs, h1, h2⟩ := W
      ⟨kvs, s2 _ _ h1, fun c => ⟨(h2 c).1, fun p e => let ⟨a, e1, e2⟩ := (h2 c).2 p e; ⟨a, e1, s2 _ _ e2⟩⟩⟩
    cases e : notIn (Sw87.made t f) m.picks with
    | some i =>
      rw [step_press_six ok e] at k few
      rw [show natOr (some i) = V.int ((i : Nat) : Int) from rfl]
      refine ⟨_, rfl, rfl, _, rfl, ifT rfl ?_⟩
      refine ⟨(by show 1 ≤ sizeLine; decide), fun u hu => ?_⟩
      have s3 : Same H2 (upd H2 u (.lst [.int (-6)])) := fun b o e => (upd_ne (ne_of_none e hu)).trans e
      have u3 : (upd H2 u (.lst [.int (-6)])) u = some (.lst [.int (-6)]) := upd_same
      generalize upd H2 u (.lst [.int (-6)]) = H3 at s3 u3
      refine ⟨_, rfl, (by show 1 ≤ sizeLine; decide), fun v hv => ?_⟩
      have s4 : Same H3 (upd H3 v (.lst [.int ((i : Nat) : Int)])) := fun b o e => (upd_ne (ne_of_none e hv)).trans e
      have v4 : (upd H3 v (.lst [.int ((i : Nat) : Int)])) v = some (.lst [.int ((i : Nat) : Int)]) := upd_same
      generalize upd H3 v (.lst [.int ((i : Nat) : Int)]) = H4 at s4 v4
      refine ⟨(by show 1 ≤ sizeLine; decide), fun z hz => ?_⟩
      have s5 : Same H4 (upd H4 z (.lst [.ref v])) := fun b o e => (upd_ne (ne_of_none e hz)).trans e
      have z5 : (upd H4 z (.lst [.ref v])) z = some (.lst [.ref v]) := upd_same
      generalize upd H4 z (.lst [.ref v]) = H5 at s5 z5
      refine ⟨z, [[i]], rfl, ⟨[v], z5, Each.one (R := RowR) (.inl (s5 _ _ v4))⟩, (by show 2 ≤ 1100000; decide), fun H6 y s6 hy ey => ?_⟩
      refine ⟨u, y, _, _, rfl, rfl, s6 _ _ (s5 _ _ (s4 _ _ u3)), ey, (by show 1 + 2 ≤ sizeLine; decide), fun o ho => ?_⟩
      have s06 : Same H H6 := (((s02.trans s3).trans s4).trans s5).trans s6
      exact k _ o (fun b ob e => (upd_ne (ne_of_none (s06 _ _ e) ho)).trans (s06 _ _ e)) (s06.free ho) (upd_same.trans rfl)
    | none =>
      obtain ⟨ps, eps⟩ := notIn_none e
      rw [step_press_ok ok eps] at k few
      refine ⟨_, rfl, rfl, _, rfl, ifF rfl ?_⟩
      refine ⟨_, rfl, x, dx, _, rfl, hx2, lF_not (by decide +kernel) (by decide +kernel), _, rfl, x, l, d, m, _, ps, rfl, L.same s02, g.few, W2, eps, fun H3 q3 s3 hq3 L3 => ?_⟩
      obtain ⟨as, has, EA⟩ := L3
      refine ⟨_, rfl, q3, rfl, ⟨_, SqL.of has⟩, fun D hD => ?_⟩
      refine lc_list (K := K) (a := q3) (xs := as.map V.ref) (fun i H' => Same H3 H' ∧ H' D = some (.lst (iv (lensOf (ps.take i)))))
        ⟨fun c o e => (upd_ne (ne_of_none e hD)).trans e, upd_same⟩ (fun i H' _ ⟨s, _⟩ => SqL.of (s _ _ has)) ?_ ?_
      · rintro i y H' hi ⟨s4, e4⟩
        obtain ⟨a, ha, rfl⟩ := ref_at hi
        obtain ⟨p, hp, hrow⟩ := EA.get ha
        refine ⟨rfl, yesT (iteT ?_)⟩
        refine ⟨_, rfl, a, nv p, rfl, .inl (SqL.of (s4 _ _ hrow)), _, e4, ?_, fun c o e => (upd_ne (ne_of_none e hD)).trans (s4 _ _ e), ?_⟩
        · rw [iv_len]
          unfold lensOf
          rw [List.length_map]
          refine Nat.lt_of_le_of_lt (List.length_take_le' _ _) ?_
          rw [mapM_len _ _ _ eps]
          exact Nat.lt_of_le_of_lt g.few (by decide)
        · rw [upd_same, nv_len, take_more hp]
          unfold lensOf
          rw [List.map_append, iv_app]; rfl
      · rintro H4 ⟨s4, e4⟩
        rw [List.length_map, EA.len, List.take_length] at e4
        refine ⟨D, lensOf ps, rfl, SqL.of e4, (by show 1 ≤ sizeLine; decide), fun u hu => ?_⟩
        have s5 : Same H4 (upd H4 u (.lst [.int (lensOf ps).sum])) := fun b o e => (upd_ne (ne_of_none e hu)).trans e
        have u5 : (upd H4 u (.lst [.int (lensOf ps).sum])) u = some (.lst [.int (lensOf ps).sum]) := upd_same
        generalize upd H4 u (.lst [.int (lensOf ps).sum]) = H5 at s5 u5
        have fl : (flat ps).length ≤ 1100000 := by
          have : (said ⟨((ps.map fun x => x.length).foldl (fun a b => a + b) 0 : Nat), ps⟩).length = (flat ps).length + 1 := rfl
          omega
        have s35 := s4.trans s5
        refine ⟨_, rfl, q3, ps, rfl, ⟨as, s35 _ _ has, (EA.mono lstR_stays s35).rows⟩, fl, fun H6 y s6 hy ey => ?_⟩
        refine ⟨u, y, _, _, rfl, rfl, s6 _ _ u5, ey, ?_, fun o ho => ?_⟩
        · rw [iv_len]
          show 1 + (flat ps).length ≤ 16777216
          omega
        · have s06 : Same H H6 := ((s02.trans s3).trans s35).trans s6
          refine k _ o (fun b ob e => (upd_ne (ne_of_none (s06 _ _ e) ho)).trans (s06 _ _ e)) (s06.free ho) (upd_same.trans ?_)
          rw [show (lensOf ps).sum = _ from sum_cast ps]; rfl
end
end Tr
set_option maxRecDepth 100000
set_option maxHeartbeats 4000000
namespace Tr
open PySem PySem.Spec PyProof.Rows L2
def WalkOk (m : Sw87.Loom) (t : List Nat) : Prop := 2 ≤ t.length ∧ t.length ≤ 8 ∧ m.liftsOk t = true
theorem walk_cond {m : Sw87.Loom} {t : List Nat} (h : WalkOk m t) : ¬ (8 < t.length ∨ t.length < 2 ∨ m.liftsOk t = false) := by
  obtain ⟨a, b, c⟩ := h
  rw [c]
  rintro (q | q | q)
  · omega
  · omega
  · cases q
theorem step_walk_no {m : Sw87.Loom} {t : List Nat} (h : ¬ WalkOk m t) : (Sw87.step m (.walk t)).2 = Sw87.ok (-1) := by
  show (if 8 < t.length ∨ t.length < 2 ∨ m.liftsOk t = false then (m, Sw87.ok (-1)) else _).2 = _
  rw [if_pos ?_]
  unfold WalkOk at h
  by_cases c1 : 2 ≤ t.length
  · by_cases c2 : t.length ≤ 8
    · cases c3 : m.liftsOk t with
      | false => exact .inr (.inr rfl)
      | true => exact absurd ⟨c1, c2, c3⟩ h
    · exact .inl (by omega)
  · exact .inr (.inl (by omega))
theorem step_walk_six {m : Sw87.Loom} {t : List Nat} (h : WalkOk m t) (e : m.picks.mapM (Sw87.made t 2) = none) : (Sw87.step m (.walk t)).2 = Sw87.ok (-6) := by
  show (if 8 < t.length ∨ t.length < 2 ∨ m.liftsOk t = false then (m, Sw87.ok (-1)) else (m, match (m.picks.mapM fun b => Sw87.made t 2 b).bind fun p => Sw87.walk t.length p with
    | some b => (⟨(b.far : Nat), [b.many] :: b.feet.map fun (f : Sw87.Feet) => [f.1, f.2]⟩ : Sw87.Ans)
    | none => Sw87.ok (-6))).2 = _
  rw [if_neg (walk_cond h)]
  have e3 : (m.picks.mapM fun b => Sw87.made t 2 b) = none := e
  rw [e3]; rfl
theorem step_walk_ok {m : Sw87.Loom} {t : List Nat} {ps : List (List Nat)} {b : Sw87.Best} (h : WalkOk m t) (e : m.picks.mapM (Sw87.made t 2) = some ps) (eb : Sw87.walk t.length ps = some b) :
    (Sw87.step m (.walk t)).2 = ⟨(b.far : Nat), [b.many] :: b.feet.map fun (f : Sw87.Feet) => [f.1, f.2]⟩ := by
  show (if 8 < t.length ∨ t.length < 2 ∨ m.liftsOk t = false then (m, Sw87.ok (-1)) else (m, match (m.picks.mapM fun b => Sw87.made t 2 b).bind fun p => Sw87.walk t.length p with
    | some b => (⟨(b.far : Nat), [b.many] :: b.feet.map fun (f : Sw87.Feet) => [f.1, f.2]⟩ : Sw87.Ans)
    | none => Sw87.ok (-6))).2 = _
  rw [if_neg (walk_cond h)]
  have e3 : (m.picks.mapM fun b => Sw87.made t 2 b) = some ps := e
  rw [e3]
  show (m, match Sw87.walk t.length ps with
    | some b => (⟨(b.far : Nat), [b.many] :: b.feet.map fun (f : Sw87.Feet) => [f.1, f.2]⟩ : Sw87.Ans)
    | none => Sw87.ok (-6)).2 = _
  rw [eb]
theorem walk_some {n : Nat} : ∀ {l : List (List Nat)}, (∀ p ∈ l, ∃ x ∈ Sw87.places n, Sw87.over x p = true) → ∃ b, Sw87.walk n l = some b
  | [], _ => ⟨_, rfl⟩
  | p :: l, h => by
    rw [walk_eq h]
    exact pick_some fun z => filter_places_ne (h p List.mem_cons_self) (List.map_eq_nil_iff.mp z)
theorem oF_not {D W : Nat} {fo be : V} {k : Str} (h1 : (k == ("distance" : Str)) = false) (h2 : (k == ("ways" : Str)) = false) (h3 : (k == ("following" : Str)) = false) (h4 : (k == ("beyond" : Str)) = false) : (oF D W fo be).lookup k = none :=
  (lk_past h1).trans ((lk_past h2).trans ((lk_past h3).trans ((lk_past h4).trans rfl)))
/-- places stand apart from a list -/
theorem pl_off {H : Hp} {D : Addr} {xs : List V} {o : HO} {as : List Addr} {fs : List Sw87.Feet} (h : H D = some (.lst xs)) (E : Each PlR H as fs) : Each PlR (Off H (upd (fun _ => none) D o)) as fs :=
  ⟨E.len, fun i a f h1 h2 => off_of (upd_ne (ne_of (E.each i a f h1 h2) h (by intro z; cases z))) (E.each i a f h1 h2)⟩
theorem pl_rows {H : Hp} {as : List Addr} {fs : List Sw87.Feet} (E : Each PlR H as fs) : Each RowR H as (fs.map fun (f : Sw87.Feet) => [f.1, f.2]) := by
  refine ⟨by rw [List.length_map]; exact E.len, fun i a w h1 h2 => ?_⟩
  rw [List.getElem?_map] at h2
  cases e : fs[i]? with
  | none => rw [e] at h2; cases h2
  | some f =>
    rw [e] at h2
    cases h2
    exact .inr (E.each i a f h1 e)
section
variable {P : Program} {w : World} {K : PySem.W.Frag} {mg : Str → Option Value} {base : Heap} {CL CT CO CR : Addr}
theorem scWk : FnScope ["loom", "ties", "ways", "shortest", "row"] ["loom", "ties"] (defScope sWalk) := ⟨rfl, rfl, rfl, by decide +kernel, rfl, by decide +kernel, by decide +kernel⟩
theorem ok_walk {f fM fW fN fP fV fS fA fR : Addr} {fd dM dW dN dP dV dS dA dR : FuncData} (F : Fun K "walk" "walk" sWalk f fd) (T : Txt K mg CL CT CO CR)
    (mM : Meth K CL "may_have_treadles" fM) (bM : Binds K dM ["self", "ties"] []) (GM : FnOk P w K mg base CX0 2 fM dM ["self", "ties"] (spMay CL))
    (gW : mg "first_ways" = some (.ref fW)) (kW : PySem.W.keepIn K (.ref fW) = true) (bW : Binds K dW ["ties", "feet"] []) (GW : FnOk P w K mg base CX0 2 fW dW ["ties", "feet"] spWays)
    (mN : Meth K CL "first_not_in" fN) (bN : Binds K dN ["self", "ways"] []) (GN : FnOk P w K mg base CX0 1 fN dN ["self", "ways"] (spNotIn CL))
    (mP : Meth K CL "pressed_by" fP) (bP : Binds K dP ["self", "ways"] []) (GP : FnOk P w K mg base CX0 1 fP dP ["self", "ways"] (spPressed CL))
    (gV : mg "places_over" = some (.ref fV)) (kV : PySem.W.keepIn K (.ref fV) = true) (bV : Binds K dV ["row", "treadles_there"] []) (GV : FnOk P w K mg base CX0 1 fV dV ["row", "treadles_there"] spPlaces)
    (gS : mg "shortest_walk" = some (.ref fS)) (kS : PySem.W.keepIn K (.ref fS) = true) (bS : Binds K dS ["places_by_pick"] []) (GS : FnOk P w K mg base CX0 4 fS dS ["places_by_pick"] (spShort CO))
    (mA : Meth K CO "path" fA) (bA : Binds K dA ["self"] []) (GA : FnOk P w K mg base CX0 1 fA dA ["self"] (spPath CO))
    (gR : mg "counted_lists" = some (.ref fR)) (kR : PySem.W.keepIn K (.ref fR) = true) (bR : Binds K dR ["lists"] []) (GR : FnOk P w K mg base CX0 1 fR dR ["lists"] spRows) :
    FnOk P w K mg base CX0 5 f fd ["loom", "ties"] (spWalk CL) := by
  refine F.ok scWk (fun vs H Q E h => ?_) (fun cdv A outer s H vs Q E hr h => ?_)
  · obtain ⟨x, l, b, m, t, rfl, _⟩ := h
    rfl
  · obtain ⟨x, l, b, m, t, rfl, L, g, hb, few, k⟩ := h
    have hr1 : Room 1 _ := hr.mono (by decide)
    have hr2 : Room 2 _ := hr.mono (by decide)
    obtain ⟨t1, g1⟩ := T.gOut
    obtain ⟨t2, g2⟩ := T.gNotM
    obtain ⟨t3, g3⟩ := T.gWalkF
    obtain ⟨⟨dx, hx⟩, hl⟩ := id L
    refine ⟨_, pss_cons (ps_if (PW.pt (pw_or (pt_cmpR op_lt (pe_callB call_len_seq (by rfl) T.len PySem.boot_len (pa_cons (pv 1) pa_nil)) (pe_glob (by rfl) g3 relI) (nomark _)) (pw_or1 (pt_not (pt_val (pe_meth (pv 0) T.clL mM GM hr2 bM .nil pass0 (pa_cons (pv 1) pa_nil)))))))
        (pss_one (ps_ret (pe_lst (pa_cons (pe_glob (by rfl) g1 relI) pa_nil)))) pss_nil)
      (pss_cons (ps_set (i := 2) scWk.nd rfl (Or.inl rfl) (pe_call GW hr2 (by rfl) gW kW bW .nil pass0 (pa_cons (pv 1) (pa_cons (pe_glob (by rfl) g3 relI) pa_nil))))
      (pss_cons (ps_if (pt_cmpR op_notN (pe_meth (pv 0) T.clL mN GN hr1 bN .nil pass0 (pa_cons (pv 2) pa_nil)) pe_non (nomark _)) (pss_one (ps_ret (pe_lst (pa_cons (pe_glob (by rfl) g2 relI) pa_nil)))) pss_nil)
      (pss_cons (ps_set (i := 3) scWk.nd rfl (Or.inl rfl) (pe_call GS hr (by rfl) gS kS bS .nil pass0 (pa_cons
          (pe_lc (own := [("row", 4)]) (g := gName 4) (tt := tYes) (te := tCall spPlaces [] E0 (tCons (tVar 4) (tCons (tCB (rLenS K) (tCons (tVar 1) tNil)) tNil))) rfl scWk.nd
            (pi_list (pe_meth (pv 0) T.clL mP GP hr1 bP .nil pass0 (pa_cons (pv 2) pa_nil)))
            (blkOk_by (N := ["loom", "ties", "ways", "shortest", "row"]) (sc := defScope sWalk) (by decide +kernel)) (fun _ _ _ _ _ => pg_name (i := 4) scWk.nd rfl (Or.inl rfl))
            (fun _ _ _ _ _ => pts_nil)
            (fun _ _ _ _ _ => pe_call GV hr1 (by rfl) gV kV bV .nil pass0 (pa_cons (pv 4) (pa_cons (pe_callB call_len_seq (by rfl) T.len PySem.boot_len (pa_cons (pv 1) pa_nil)) pa_nil)))) pa_nil)))
      (pss_one (ps_ret (pe_op op_cat (pe_lst (pa_cons (pe_fld (pv 3) rfl) pa_nil))
        (pe_call GR hr1 (by rfl) gR kR bR .nil pass0 (pa_cons (pe_op op_cat (pe_lst (pa_cons (pe_lst (pa_cons (pe_fld (pv 3) rfl) pa_nil)) pa_nil)) (pe_meth0 (pv 3) T.clO mA GA hr1 bA .nil pass0)) pa_nil)))))))), ?_⟩
    have refuse : ¬ WalkOk m t → ∀ q, H q = none → Q (.ref q) (upd H q (.lst [.int (-1)])) := fun c q hq => by
      rw [step_walk_no c] at k
      exact k _ q (fun b o e => (upd_ne (ne_of_none e hq)).trans e) hq upd_same
    refine ⟨_, rfl, b, _, rfl, .inl (SqL.of hb), _, _, rfl, rfl, _, rfl, ?_⟩
    rw [nv_len]
    by_cases c1 : 2 ≤ t.length
    rotate_left
    · refine ifT (decide_eq_true (by omega)) ⟨(by show 1 ≤ sizeLine; decide), fun q hq => refuse (fun z => c1 z.1) q hq⟩
    refine ifF (decide_eq_false (by omega)) ?_
    refine ⟨_, rfl, x, dx, _, rfl, hx, lF_not (by decide +kernel) (by decide +kernel), _, rfl, x, l, b, m, t, rfl, L, hb, _, rfl, ?_⟩
    by_cases c2 : t.length ≤ 8 ∧ m.liftsOk t = true
    rotate_left
    · refine ifT ?_ ⟨(by show 1 ≤ sizeLine; decide), fun q hq => refuse (fun z => c2 z.2) q hq⟩
      by_cases c3 : t.length ≤ 8
      · cases c4 : m.liftsOk t with
        | true => exact absurd ⟨c3, c4⟩ c2
        | false => rw [Bool.and_false]; rfl
      · rw [decide_eq_false c3]; rfl
    refine ifF (by rw [decide_eq_true c2.1, c2.2]; rfl) ?_
    have ok : WalkOk m t := ⟨c1, c2.1, c2.2⟩
    refine ⟨_, rfl, b, 2, t, rfl, hb, c2.1, by decide, fun H1 d s1 W => ?_⟩
    have hx1 := s1 _ _ hx
    refine ⟨_, rfl, x, dx, _, rfl, hx1, lF_not (by decide +kernel) (by decide +kernel), _, rfl, x, l, d, m, _, rfl, L.same s1, W, fun H2 s2 => ?_⟩
    have hx2 := s2 _ _ hx1
    have s02 := s1.trans s2
    have W2 : WaysAt H2 d (Sw87.made t 2) := let ⟨kvs, h1, h2⟩ := W
      ⟨kvs, s2 _ _ h1, fun c => ⟨(h2 c).1, fun p e => let ⟨a, e1, e2⟩ := (h2 c).2 p e; ⟨a, e1, s2 _ _ e2⟩⟩⟩
    cases e : notIn (Sw87.made t 2) m.picks with
    | some i =>
      rw [step_walk_six ok (notIn_some e).1] at k
      refine ⟨rfl, _, rfl, ifT rfl ⟨(by show 1 ≤ sizeLine; decide), fun u hu => ?_⟩⟩
      exact k _ u (fun b o e => (upd_ne (ne_of_none (s02 _ _ e) hu)).trans (s02 _ _ e)) (s02.free hu) upd_same
    | none =>
      obtain ⟨ps, eps⟩ := notIn_none e
      have two : ∀ p ∈ ps, Two t.length p := fun p hp => let ⟨_, _, ea⟩ := mapM_mem _ _ _ eps p hp; made_two ea
      have okp : ∀ p ∈ ps, ∃ x ∈ Sw87.places t.length, Sw87.over x p = true := fun p hp => over_some c1 (two p hp)
      obtain ⟨bst, eb⟩ := walk_some okp
      rw [step_walk_ok ok eps eb] at k few
      refine ⟨rfl, _, rfl, ifF rfl ?_⟩
      refine ⟨_, rfl, x, dx, _, rfl, hx2, lF_not (by decide +kernel) (by decide +kernel), _, rfl, x, l, d, m, _, ps, rfl, L.same s02, g.few, W2, eps, fun H3 q3 s3 hq3 L3 => ?_⟩
      obtain ⟨as, has, EA⟩ := L3
      have hb3 := s3 _ _ (s02 _ _ hb)
      refine ⟨q3, rfl, ⟨_, SqL.of has⟩, fun D hD => ?_⟩
      refine lc_list (K := K) (a := q3) (xs := as.map V.ref) (fun i H' => ∃ cs : List Addr, Same H3 H' ∧ H' D = some (.lst (cs.map V.ref)) ∧ Each (ListOf PlR) (Off H' (upd (fun _ => none) D (.lst []))) cs ((ps.take i).map fun p => (Sw87.places t.length).filter (Sw87.over · p)))
        ⟨[], fun c o e => (upd_ne (ne_of_none e hD)).trans e, upd_same, .nil⟩ (fun i H' _ ⟨_, s, _⟩ => SqL.of (s _ _ has)) ?_ ?_
      · rintro i y H' hi ⟨cs, s4, e4, E4⟩
        obtain ⟨a, ha, rfl⟩ := ref_at hi
        obtain ⟨p, hp, hrow⟩ := EA.get ha
        refine ⟨rfl, yesT (iteT ?_)⟩
        refine ⟨_, rfl, _, rfl, b, nv t, rfl, .inl (SqL.of (s4 _ _ hb3)), a, t.length, p, by rw [nv_len]; rfl, s4 _ _ hrow, c2.1, ?_, fun H5 q5 xs s5 hq5 e5 E5 => ?_⟩
        · exact Nat.le_trans (two p (List.mem_of_getElem? hp)).few (by decide)
        have e4' := s5 _ _ e4
        have nqD : q5 ≠ D := (ne_of_none e4 hq5).symm
        refine ⟨cs.map V.ref, e4', ?_, cs ++ [q5], fun c o e => (upd_ne (ne_of_none e hD)).trans (s5 _ _ (s4 _ _ e)), by rw [upd_same, refs_snoc], ?_⟩
        · rw [List.length_map, E4.len, List.length_map]
          refine Nat.lt_of_le_of_lt (List.length_take_le' _ _) ?_
          rw [mapM_len _ _ _ eps]
          exact Nat.lt_of_le_of_lt g.few (by decide)
        · rw [take_more hp, List.map_append]
          exact E4.grow plR_stays.listOf upd_same s5 (.one ⟨xs, off_of (upd_ne nqD) e5, pl_off e4' E5⟩)
      · rintro H4 ⟨cs, s4, e4, E4⟩
        rw [List.length_map, EA.len, List.take_length] at E4
        refine ⟨D, t.length, ps, bst, rfl, c2.1, ⟨cs, e4, E4.mono plR_stays.listOf off_same⟩, okp, eb, fun H5 z s5 on => ?_⟩
        have s05 := (s02.trans s3).trans (s4.trans s5)
        obtain ⟨dz, fo, be, hz, hpath⟩ := id on
        have fl : (flat ([bst.many] :: bst.feet.map fun (f : Sw87.Feet) => [f.1, f.2])).length ≤ 1100000 := by
          have : (said ⟨(bst.far : Nat), [bst.many] :: bst.feet.map fun (f : Sw87.Feet) => [f.1, f.2]⟩).length = (flat ([bst.many] :: bst.feet.map fun (f : Sw87.Feet) => [f.1, f.2])).length + 1 := rfl
          omega
        have fl2 := flat_len ([bst.many] :: bst.feet.map fun (f : Sw87.Feet) => [f.1, f.2])
        rw [List.length_cons, List.length_map] at fl2
        refine ⟨_, rfl, z, CO, dz, _, _, rfl, hz, T.clO, T.nDist, oF_dist _ _ _ _, (by show 1 ≤ sizeLine; decide), fun u hu => ?_⟩
        have s6 : Same H5 (upd H5 u (.lst [.int (bst.far : Int)])) := fun b o e => (upd_ne (ne_of_none e hu)).trans e
        have u6 : (upd H5 u (.lst [.int (bst.far : Int)])) u = some (.lst [.int (bst.far : Int)]) := upd_same
        generalize upd H5 u (.lst [.int (bst.far : Int)]) = H6 at s6 u6
        refine ⟨_, rfl, z, CO, dz, _, _, rfl, s6 _ _ hz, T.clO, T.nWays, oF_ways _ _ _ _, (by show 1 ≤ sizeLine; decide), fun v hv => ?_⟩
        have s7 : Same H6 (upd H6 v (.lst [.int (bst.many : Int)])) := fun b o e => (upd_ne (ne_of_none e hv)).trans e
        have v7 : (upd H6 v (.lst [.int (bst.many : Int)])) v = some (.lst [.int (bst.many : Int)]) := upd_same
        generalize upd H6 v (.lst [.int (bst.many : Int)]) = H7 at s7 v7
        refine ⟨(by show 1 ≤ sizeLine; decide), fun y hy => ?_⟩
        have s8 : Same H7 (upd H7 y (.lst [.ref v])) := fun b o e => (upd_ne (ne_of_none e hy)).trans e
        have y8 : (upd H7 y (.lst [.ref v])) y = some (.lst [.ref v]) := upd_same
        generalize upd H7 y (.lst [.ref v]) = H8 at s8 y8
        have s58 := (s6.trans s7).trans s8
        refine ⟨_, rfl, z, dz, _, rfl, s58 _ _ hz, oF_not (by decide +kernel) (by decide +kernel) (by decide +kernel) (by decide +kernel), z, bst, rfl, on.keep (.of_same s58), by omega, fun H9 pq s9 hpq L9 => ?_⟩
        obtain ⟨pas, hpas, EP⟩ := L9
        refine ⟨y, pq, _, _, rfl, rfl, s9 _ _ y8, hpas, ?_, fun r hr9 => ?_⟩
        · rw [List.length_map, EP.len]
          show 1 + bst.feet.length ≤ 16777216
          omega
        have s10 : Same H9 (upd H9 r (.lst ([.ref v] ++ pas.map V.ref))) := fun b o e => (upd_ne (ne_of_none e hr9)).trans e
        have r10 : (upd H9 r (.lst ([.ref v] ++ pas.map V.ref))) r = some (.lst ([.ref v] ++ pas.map V.ref)) := upd_same
        generalize upd H9 r (.lst ([.ref v] ++ pas.map V.ref)) = H10 at s10 r10
        refine ⟨r, _, rfl, ⟨[v] ++ pas, r10, (Each.one (R := RowR) (l := [bst.many]) (.inl (s10 _ _ (s9 _ _ (s8 _ _ v7))))).app (pl_rows (EP.mono plR_stays s10))⟩, fl, fun H11 o s11 ho eo => ?_⟩
        refine ⟨u, o, _, _, rfl, rfl, s11 _ _ (s10 _ _ (s9 _ _ (s8 _ _ (s7 _ _ u6)))), eo, ?_, fun i hi => ?_⟩
        · rw [iv_len]
          show 1 + (flat ([bst.many] :: bst.feet.map fun (f : Sw87.Feet) => [f.1, f.2])).length ≤ 16777216
          omega
        · have s011 : Same H H11 := (((s05.trans s58).trans s9).trans s10).trans s11
          exact k _ i (fun b ob e => (upd_ne (ne_of_none (s011 _ _ e) hi)).trans (s011 _ _ e)) (s011.free hi) (upd_same.trans rfl)
end
end Tr
set_option maxRecDepth 100000
set_option maxHeartbeats 4000000
namespace Tr
open PySem PySem.Spec PyProof.Rows L2
/-- a statement that is never come to -/
theorem ps_dead {X : Cx} {st : Stmt} : PS X st (fun _ _ _ => False) := ⟨fun _ _ _ _ _ _ h => h.elim⟩
theorem lF_ne_rF {C D d e : Addr} {s p : Nat} {l a : Addr} : HO.ins C d (lF s l) ≠ HO.ins D e (rF a p) := by
  intro z
  injection z with _ _ z
  injection z with z _
  have q : (("shafts" : Str)) = "numbers" := congrArg Prod.fst z
  exact absurd q (by decide +kernel)
theorem LmAt.but {C : Addr} {H H' : Hp} {x l r : Addr} {m : Sw87.Loom} (L : LmAt C H x l m) (k : But H H' r r) (h1 : x ≠ r) (h2 : l ≠ r) : LmAt C H' x l m := by
  obtain ⟨⟨dx, hx⟩, hl⟩ := L
  exact ⟨⟨dx, k _ _ hx h1 h1⟩, k _ _ hl h2 h2⟩
theorem LmAt.ne_rd {C D : Addr} {H : Hp} {x l r a : Addr} {m : Sw87.Loom} {p : Nat} (L : LmAt C H x l m) (R : RdAt D H r a p) : x ≠ r ∧ l ≠ r ∧ x ≠ l := by
  obtain ⟨⟨dx, hx⟩, hl⟩ := L
  obtain ⟨dr, hr⟩ := R
  exact ⟨ne_of hx hr lF_ne_rF, ne_of hl hr (by intro z; cases z), ne_of hx hl (by intro z; cases z)⟩
theorem RdAt.but {C : Addr} {H H' : Hp} {r a x l : Addr} {p : Nat} (R : RdAt C H r a p) (k : But H H' x l) (h1 : r ≠ x) (h2 : r ≠ l) : RdAt C H' r a p := by
  obtain ⟨dr, hr⟩ := R
  exact ⟨dr, k _ _ hr h1 h2⟩
theorem begins_l (m : Sw87.Loom) (n : Nat) : (Sw87.step m (.begins n)).2.l = [] := by
  by_cases c : n < 1 ∨ 4 < n
  · rw [step_begins_no c]; rfl
  · rw [step_begins_ok c]; rfl
theorem picks_l (m : Sw87.Loom) (t : List Nat) : (Sw87.step m (.picks t)).2.l = [] := by
  cases ok : m.liftsOk t with
  | false => rw [step_picks_no ok]; rfl
  | true =>
    by_cases c : 40 < m.picks.length + t.length
    · rw [step_picks_many ok c]; rfl
    · rw [step_picks_ok ok c]; rfl
theorem said_one {a : Sw87.Ans} (h : a.l = []) : said a = [a.v] := by
  rw [said_eq, h]; rfl
theorem step_fewest_m (m : Sw87.Loom) (f : Nat) : (Sw87.step m (.fewest f)).1 = m := by
  show (if f < 1 ∨ 3 < f then (m, Sw87.ok (-1)) else (m, _)).1 = m
  split <;> rfl
theorem step_press_m (m : Sw87.Loom) (f : Nat) (t : List Nat) : (Sw87.step m (.press f t)).1 = m := by
  show (if f < 1 ∨ 3 < f ∨ Sw87.TREADLES < t.length ∨ m.liftsOk t = false then (m, Sw87.ok (-1)) else (m, _)).1 = m
  split <;> rfl
theorem step_walk_m (m : Sw87.Loom) (t : List Nat) : (Sw87.step m (.walk t)).1 = m := by
  show (if Sw87.TREADLES < t.length ∨ t.length < 2 ∨ m.liftsOk t = false then (m, Sw87.ok (-1)) else (m, _)).1 = m
  split <;> rfl
def spNext (K : PySem.W.Frag) (CL CR : Addr) : Sp := fun vs H Q _ => ∃ (x l r a : Addr) (m : Sw87.Loom) (p : Nat) (ns rest : List Int) (c : Sw87.Call), vs = [.ref x, .ref r] ∧ LmAt CL H x l m ∧ Good m ∧ RdAt CR H r a p ∧ Far K H a ns [x, l, r] ∧ ns.length ≤ 30000 ∧
  Fine c ∧ ns.drop p = nums c ++ rest ∧ (said (Sw87.step m c).2).length ≤ 1100000 ∧
  ∀ (H' : Hp) (l' q : Addr), (l' = l ∨ H l' = none) → LmAt CL H' x l' (Sw87.step m c).1 → RdAt CR H' r a (p + (nums c).length) → H' q = some (.lst (iv (said (Sw87.step m c).2))) →
    (∀ b o, H b = some o → b ≠ x → b ≠ l → b ≠ r → b ≠ q ∧ H' b = some o) → Q (.ref q) H'
/-- the defs that answer_next calls -/
structure Defs (P : Program) (w : World) (K : PySem.W.Frag) (mg : Str → Option Value) (base : Heap) (CL CR : Addr) where
  fN : Addr
  fL : Addr
  fB : Addr
  fA : Addr
  fC : Addr
  fR : Addr
  fF : Addr
  fP : Addr
  fK : Addr
  dN : FuncData
  dL : FuncData
  dB : FuncData
  dA : FuncData
  dC : FuncData
  dR : FuncData
  dF : FuncData
  dP : FuncData
  dK : FuncData
  mN : Meth K CR "take_number" fN
  mL : Meth K CR "take_list" fL
  mB : Meth K CL "begin" fB
  mA : Meth K CL "add_picks" fA
  mC : Meth K CL "lift_counts" fC
  gR : mg "counted_lists" = some (.ref fR)
  kR : PySem.W.keepIn K (.ref fR) = true
  gF : mg "fewest" = some (.ref fF)
  kF : PySem.W.keepIn K (.ref fF) = true
  gP : mg "press" = some (.ref fP)
  kP : PySem.W.keepIn K (.ref fP) = true
  gK : mg "walk" = some (.ref fK)
  kK : PySem.W.keepIn K (.ref fK) = true
  bN : Binds K dN ["self"] []
  bL : Binds K dL ["self"] []
  bB : Binds K dB ["self", "shafts"] []
  bA : Binds K dA ["self", "lifts"] []
  bC : Binds K dC ["self"] []
  bR : Binds K dR ["lists"] []
  bF : Binds K dF ["loom", "feet"] []
  bP : Binds K dP ["loom", "feet", "ties"] []
  bK : Binds K dK ["loom", "ties"] []
  GN : FnOk P w K mg base CX0 1 fN dN ["self"] (spNum K CR)
  GL : FnOk P w K mg base CX0 2 fL dL ["self"] (spList K CR)
  GB : FnOk P w K mg base CX0 1 fB dB ["self", "shafts"] (spBegin CL)
  GA : FnOk P w K mg base CX0 2 fA dA ["self", "lifts"] (spAdd CL)
  GC : FnOk P w K mg base CX0 2 fC dC ["self"] (spCounts CL)
  GR : FnOk P w K mg base CX0 1 fR dR ["lists"] spRows
  GF : FnOk P w K mg base CX0 7 fF dF ["loom", "feet"] (spFewest CL)
  GP : FnOk P w K mg base CX0 3 fP dP ["loom", "feet", "ties"] (spPress CL)
  GK : FnOk P w K mg base CX0 5 fK dK ["loom", "ties"] (spWalk CL)
section
variable {P : Program} {w : World} {K : PySem.W.Frag} {mg : Str → Option Value} {base : Heap} {CL CT CO CR : Addr}
theorem scX : FnScope ["loom", "reader", "call", "counts", "feet"] ["loom", "reader"] (defScope sNext) := ⟨rfl, rfl, rfl, by decide +kernel, rfl, by decide +kernel, by decide +kernel⟩
theorem ok_next {f : Addr} {fd : FuncData} (F : Fun K "answer_next" "answer_next" sNext f fd) (T : Txt K mg CL CT CO CR) (D : Defs P w K mg base CL CR) : FnOk P w K mg base CX0 8 f fd ["loom", "reader"] (spNext K CL CR) := by
  refine F.ok scX (fun vs H Q E h => ?_) (fun cdv A outer s H vs Q E hr h => ?_)
  · obtain ⟨x, l, r, a, m, p, ns, rest, c, rfl, _⟩ := h
    rfl
  · obtain ⟨x, l, r, a, m, p, ns, rest, c, rfl, L, g, R, far, hlen, fine, hd, few, k⟩ := h
    obtain ⟨t1, g1⟩ := T.gBegins
    obtain ⟨t2, g2⟩ := T.gPicks
    obtain ⟨t3, g3⟩ := T.gLifts
    obtain ⟨t4, g4⟩ := T.gFewest
    obtain ⟨t5, g5⟩ := T.gPress
    obtain ⟨t6, g6⟩ := T.gWalk
    have hr1 : Room 1 _ := hr.mono (by decide)
    have hr2 : Room 2 _ := hr.mono (by decide)
    have hr3 : Room 3 _ := hr.mono (by decide)
    have hr5 : Room 5 _ := hr.mono (by decide)
    obtain ⟨nxr, nlr, nxl⟩ := L.ne_rd R
    have hS := far.seq
    have in_r : ∀ b ∈ ([r] : List Addr), b ∈ [x, l, r] := fun b hb => List.mem_cons_of_mem _ (List.mem_cons_of_mem _ hb)
    refine ⟨_, pss_cons (ps_set (i := 2) scX.nd rfl (Or.inl rfl) (pe_meth0 (pv 1) T.clR D.mN D.GN hr1 D.bN .nil pass0))
      (pss_cons (ps_if (pt_cmpR op_eq (pv 2) (pe_glob (by rfl) g1 relI) (nomark _)) (pss_one (ps_ret (pe_lst (pa_cons (pe_meth (pv 0) T.clL D.mB D.GB hr1 D.bB .nil pass0 (pa_cons (pe_meth0 (pv 1) T.clR D.mN D.GN hr1 D.bN .nil pass0) pa_nil)) pa_nil)))) pss_nil)
      (pss_cons (ps_if (pt_cmpR op_eq (pv 2) (pe_glob (by rfl) g2 relI) (nomark _)) (pss_one (ps_ret (pe_lst (pa_cons (pe_meth (pv 0) T.clL D.mA D.GA hr2 D.bA .nil pass0 (pa_cons (pe_meth0 (pv 1) T.clR D.mL D.GL hr2 D.bL .nil pass0) pa_nil)) pa_nil)))) pss_nil)
      (pss_cons (ps_if (pt_cmpR op_eq (pv 2) (pe_glob (by rfl) g3 relI) (nomark _))
        (pss_cons (ps_set (i := 3) scX.nd rfl (Or.inl rfl) (pe_meth0 (pv 0) T.clL D.mC D.GC hr2 D.bC .nil pass0))
        (pss_one (ps_ret (pe_op op_cat (pe_lst (pa_cons (pe_callB call_len_seq (by rfl) T.len PySem.boot_len (pa_cons (pv 3) pa_nil)) pa_nil)) (pe_call D.GR hr1 (by rfl) D.gR D.kR D.bR .nil pass0 (pa_cons (pv 3) pa_nil)))))) pss_nil)
      (pss_cons (ps_if (pt_cmpR op_eq (pv 2) (pe_glob (by rfl) g4 relI) (nomark _)) (pss_one (ps_ret (pe_call D.GF hr (by rfl) D.gF D.kF D.bF .nil pass0 (pa_cons (pv 0) (pa_cons (pe_meth0 (pv 1) T.clR D.mN D.GN hr1 D.bN .nil pass0) pa_nil))))) pss_nil)
      (pss_cons (ps_if (pt_cmpR op_eq (pv 2) (pe_glob (by rfl) g5 relI) (nomark _))
        (pss_cons (ps_set (i := 4) scX.nd rfl (Or.inl rfl) (pe_meth0 (pv 1) T.clR D.mN D.GN hr1 D.bN .nil pass0))
        (pss_one (ps_ret (pe_call D.GP hr3 (by rfl) D.gP D.kP D.bP .nil pass0 (pa_cons (pv 0) (pa_cons (pv 4) (pa_cons (pe_meth0 (pv 1) T.clR D.mL D.GL hr2 D.bL .nil pass0) pa_nil))))))) pss_nil)
      (pss_cons (ps_if (pt_cmpR op_eq (pv 2) (pe_glob (by rfl) g6 relI) (nomark _)) (pss_one (ps_ret (pe_call D.GK hr5 (by rfl) D.gK D.kK D.bK .nil pass0 (pa_cons (pv 0) (pa_cons (pe_meth0 (pv 1) T.clR D.mL D.GL hr2 D.bL .nil pass0) pa_nil))))) pss_nil)
      (pss_one ps_dead))))))), ?_⟩
    -- the call's number
    obtain ⟨dr, hr0⟩ := R
    obtain ⟨z, tl, ez⟩ : ∃ z tl, nums c = z :: tl := by
      cases c <;> exact ⟨_, _, rfl⟩
    have hd0 : ns.drop p = z :: (tl ++ rest) := by rw [hd, ez]; rfl
    obtain ⟨_, lt0, hd1⟩ := drop_at hd0
    refine ⟨_, rfl, r, dr, _, rfl, hr0, rF_not (by decide +kernel) (by decide +kernel), r, a, p, ns, _, _, rfl, ⟨dr, hr0⟩, hS, hlen, hd0, fun H1 R1 k1 => ?_⟩
    have L1 := L.but k1 nxr nlr
    have far1 : Far K H1 a ns [x, l, r] := far.step fun b o e n => k1 b o e (n r (in_r r List.mem_cons_self)) (n r (in_r r List.mem_cons_self))
    have hS1 := far1.seq
    obtain ⟨⟨dx1, hx1⟩, hl1⟩ := id L1
    obtain ⟨dr1, hr1'⟩ := id R1
    -- what is tracked ahead of the call is tracked behind its number
    have old1 : ∀ q, H1 q = none → q ≠ r → H q = none := fun q e nq => by
      cases w : H q with
      | none => rfl
      | some o =>
        have := k1 q o w nq nq
        rw [e] at this; cases this
    cases c with
    | begins n =>
      cases ez
      have hd2 : ns.drop (p + 1) = (n : Int) :: rest := hd1
      refine ⟨_, rfl, rfl, _, rfl, ifT (decide_eq_true rfl) ?_⟩
      refine ⟨_, rfl, x, dx1, _, rfl, hx1, lF_not (by decide +kernel) (by decide +kernel), _, rfl, r, dr1, _, rfl, hr1', rF_not (by decide +kernel) (by decide +kernel), r, a, p + 1, ns, _, _, rfl, R1, hS1, hlen, hd2, fun H2 R2 k2 => ?_⟩
      have L2' := L1.but k2 nxr nlr
      refine ⟨x, l, m, n, rfl, L2', fun H3 l' nl' L3 k3 => ⟨(by show 1 ≤ sizeLine; decide), fun q hq => ?_⟩⟩
      have R3 := R2.but k3 nxr.symm nlr.symm
      obtain ⟨_, _, nxl'⟩ := L3.ne_rd R3
      have keep : ∀ b o, H b = some o → b ≠ x → b ≠ l → b ≠ r → H3 b = some o := fun b o e h1 h2 h3 => k3 _ _ (k2 _ _ (k1 _ _ e h3 h3) h3 h3) h1 h2
      obtain ⟨⟨dx3, hx3⟩, hl3⟩ := id L3
      obtain ⟨dr3, hr3⟩ := id R3
      have nqx : x ≠ q := ne_of_none hx3 hq
      have nql : l' ≠ q := ne_of_none hl3 hq
      have nqr : r ≠ q := ne_of_none hr3 hq
      have nl0 : l' = l ∨ H l' = none := nl'.imp id fun e => by
        cases w : H l' with
        | none => rfl
        | some o =>
          by_cases c1 : l' = r
          · exact absurd c1 (ne_of hl3 hr3 (by intro z; cases z))
          · have := k2 _ _ (k1 _ _ w c1 c1) c1 c1
            rw [e] at this; cases this
      refine k _ l' q nl0 ⟨⟨dx3, (upd_ne nqx).trans hx3⟩, (upd_ne nql).trans hl3⟩ ⟨dr3, (upd_ne nqr).trans hr3⟩ (upd_same.trans ?_) fun b o e h1 h2 h3 => ?_
      · rw [said_one (begins_l m n)]; rfl
      · have e3 := keep b o e h1 h2 h3
        have nb := ne_of_none e3 hq
        exact ⟨nb, (upd_ne nb).trans e3⟩
    | picks t =>
      cases ez
      have hd2 : ns.drop (p + 1) = ((asInts t).length : Int) :: (asInts t ++ rest) := by rw [hd1, asInts_len]; rfl
      refine ⟨_, rfl, rfl, _, rfl, ifF rfl ⟨_, rfl, rfl, _, rfl, ifT (decide_eq_true rfl) ?_⟩⟩
      refine ⟨_, rfl, x, dx1, _, rfl, hx1, lF_not (by decide +kernel) (by decide +kernel), _, rfl, r, dr1, _, rfl, hr1', rF_not (by decide +kernel) (by decide +kernel), r, a, p + 1, ns, rest, asInts t, rfl, R1, far1.less in_r, hlen, hd2, fun H2 b R2 k2 nb1 hb => ?_⟩
      have L2' := L1.but k2 nxr nlr
      refine ⟨x, l, b, m, t, rfl, L2', hb, g.few, fine.1, fun H3 L3 k3 => ⟨(by show 1 ≤ sizeLine; decide), fun q hq => ?_⟩⟩
      have R3 := R2.but k3 nxr.symm nlr.symm
      have keep : ∀ b o, H b = some o → b ≠ x → b ≠ l → b ≠ r → H3 b = some o := fun b o e h1 h2 h3 => k3 _ _ (k2 _ _ (k1 _ _ e h3 h3) h3 h3) h1 h2
      obtain ⟨⟨dx3, hx3⟩, hl3⟩ := id L3
      obtain ⟨dr3, hr3⟩ := id R3
      have nqx : x ≠ q := ne_of_none hx3 hq
      have nql : l ≠ q := ne_of_none hl3 hq
      have nqr : r ≠ q := ne_of_none hr3 hq
      have len : p + (nums (.picks t)).length = p + 1 + 1 + (asInts t).length := by
        show p + ((asInts t).length + 1 + 1) = _
        omega
      rw [len] at k
      refine k _ l q (.inl rfl) ⟨⟨dx3, (upd_ne nqx).trans hx3⟩, (upd_ne nql).trans hl3⟩ ⟨dr3, (upd_ne nqr).trans hr3⟩ (upd_same.trans ?_) fun b o e h1 h2 h3 => ?_
      · rw [said_one (picks_l m t)]; rfl
      · have e3 := keep b o e h1 h2 h3
        have nb := ne_of_none e3 hq
        exact ⟨nb, (upd_ne nb).trans e3⟩
    | lifts =>
      cases ez
      refine ⟨_, rfl, rfl, _, rfl, ifF rfl ⟨_, rfl, rfl, _, rfl, ifF rfl ⟨_, rfl, rfl, _, rfl, ifT (decide_eq_true rfl) ?_⟩⟩⟩
      refine ⟨_, rfl, x, dx1, _, rfl, hx1, lF_not (by decide +kernel) (by decide +kernel), x, l, m, rfl, L1, g, fun H2 p2 s2 R => ?_⟩
      obtain ⟨as, hp2, EA⟩ := id R
      have elen := EA.len
      refine ⟨_, rfl, p2, _, rfl, .inl (SqL.of hp2), (by show 1 ≤ sizeLine; decide), fun q hq => ?_⟩
      have sq : Same H2 (upd H2 q (.lst [.int ((as.map V.ref).length : Int)])) := fun b o e => (upd_ne (ne_of_none e hq)).trans e
      have R' : RowsAt (upd H2 q (.lst [.int ((as.map V.ref).length : Int)])) p2 (Sw87.step m .lifts).2.l := R.mono rowR_stays sq
      have len1 : (said (Sw87.step m .lifts).2).length = (flat (Sw87.step m .lifts).2.l).length + 1 := rfl
      refine ⟨_, rfl, p2, _, rfl, R', by omega, fun H3 q3 s3 n3 e3 => ?_⟩
      have e4 := s3 _ _ (upd_same (H := H2) (a := q) (o := .lst [.int ((as.map V.ref).length : Int)]))
      refine ⟨q, q3, _, _, rfl, rfl, e4, e3, ?_, fun q4 n4 => ?_⟩
      · rw [iv_len]
        show 1 + (flat (Sw87.step m .lifts).2.l).length ≤ 16777216
        omega
      have sall : Same H1 (upd H3 q4 (.lst ([.int ((as.map V.ref).length : Int)] ++ iv (flat (Sw87.step m .lifts).2.l)))) := fun b o e => by
        have e' := s3 _ _ (sq _ _ (s2 _ _ e))
        exact (upd_ne (ne_of_none e' n4)).trans e'
      refine k _ l q4 (.inl rfl) ⟨⟨dx1, sall _ _ hx1⟩, sall _ _ hl1⟩ ⟨dr1, sall _ _ hr1'⟩ (upd_same.trans ?_) fun b o e h1 h2 h3 => ?_
      · rw [List.length_map, elen, said_eq]
        have ev : (Sw87.step m .lifts).2.v = ((Sw87.step m .lifts).2.l.length : Int) := by
          rw [step_lifts, List.length_map]; rfl
        rw [ev]; rfl
      · have e1 := k1 b o e h3 h3
        exact ⟨ne_of_none (s3 _ _ (sq _ _ (s2 _ _ e1))) n4, sall _ _ e1⟩
    | fewest f =>
      cases ez
      rw [step_fewest_m] at k
      have hd2 : ns.drop (p + 1) = (f : Int) :: rest := hd1
      refine ⟨_, rfl, rfl, _, rfl, ifF rfl ⟨_, rfl, rfl, _, rfl, ifF rfl ⟨_, rfl, rfl, _, rfl, ifF rfl ⟨_, rfl, rfl, _, rfl, ifT (decide_eq_true rfl) ?_⟩⟩⟩⟩
      refine ⟨_, rfl, _, rfl, r, dr1, _, rfl, hr1', rF_not (by decide +kernel) (by decide +kernel), r, a, p + 1, ns, _, _, rfl, R1, hS1, hlen, hd2, fun H2 R2 k2 => ?_⟩
      have L2' := L1.but k2 nxr nlr
      refine ⟨x, l, m, f, rfl, L2', g, few, fun H3 q s3 hq e3 => ?_⟩
      obtain ⟨dr2, hr2'⟩ := id R2
      have keep : ∀ b o, H b = some o → b ≠ r → H2 b = some o := fun b o e h3 => k2 _ _ (k1 _ _ e h3 h3) h3 h3
      exact k H3 l q (.inl rfl) (L2'.same s3) ⟨dr2, s3 _ _ hr2'⟩ e3 fun b o e h1 h2 h3 => ⟨ne_of_none (keep b o e h3) hq, s3 _ _ (keep b o e h3)⟩
    | press f t =>
      cases ez
      rw [step_press_m] at k
      have hd2 : ns.drop (p + 1) = (f : Int) :: (((asInts t).length : Int) :: (asInts t ++ rest)) := by rw [hd1, asInts_len]; rfl
      obtain ⟨_, _, hd3⟩ := drop_at hd2
      refine ⟨_, rfl, rfl, _, rfl, ifF rfl ⟨_, rfl, rfl, _, rfl, ifF rfl ⟨_, rfl, rfl, _, rfl, ifF rfl ⟨_, rfl, rfl, _, rfl, ifF rfl ⟨_, rfl, rfl, _, rfl, ifT (decide_eq_true rfl) ?_⟩⟩⟩⟩⟩
      refine ⟨_, rfl, r, dr1, _, rfl, hr1', rF_not (by decide +kernel) (by decide +kernel), r, a, p + 1, ns, _, _, rfl, R1, hS1, hlen, hd2, fun H2 R2 k2 => ?_⟩
      have L2' := L1.but k2 nxr nlr
      have far2 : Far K H2 a ns [x, l, r] := far1.step fun b o e n => k2 b o e (n r (in_r r List.mem_cons_self)) (n r (in_r r List.mem_cons_self))
      obtain ⟨dr2, hr2'⟩ := id R2
      refine ⟨_, rfl, _, rfl, _, rfl, r, dr2, _, rfl, hr2', rF_not (by decide +kernel) (by decide +kernel), r, a, p + 1 + 1, ns, rest, asInts t, rfl, R2, far2.less in_r, hlen, hd3, fun H3 b R3 k3 nb1 hb => ?_⟩
      have L3' := L2'.but k3 nxr nlr
      refine ⟨x, l, b, m, f, t, rfl, L3', g, hb, few, fun H4 q s4 hq e4 => ?_⟩
      obtain ⟨dr3, hr3'⟩ := id R3
      have keep : ∀ b o, H b = some o → b ≠ r → H3 b = some o := fun b o e h3 => k3 _ _ (k2 _ _ (k1 _ _ e h3 h3) h3 h3) h3 h3
      have len : p + (nums (.press f t)).length = p + 1 + 1 + 1 + (asInts t).length := by
        show p + ((asInts t).length + 1 + 1 + 1) = _
        omega
      rw [len] at k
      exact k H4 l q (.inl rfl) (L3'.same s4) ⟨dr3, s4 _ _ hr3'⟩ e4 fun b o e h1 h2 h3 => ⟨ne_of_none (keep b o e h3) hq, s4 _ _ (keep b o e h3)⟩
    | walk t =>
      cases ez
      rw [step_walk_m] at k
      have hd2 : ns.drop (p + 1) = ((asInts t).length : Int) :: (asInts t ++ rest) := by rw [hd1, asInts_len]; rfl
      refine ⟨_, rfl, rfl, _, rfl, ifF rfl ⟨_, rfl, rfl, _, rfl, ifF rfl ⟨_, rfl, rfl, _, rfl, ifF rfl ⟨_, rfl, rfl, _, rfl, ifF rfl ⟨_, rfl, rfl, _, rfl, ifF rfl ⟨_, rfl, rfl, _, rfl, ifT (decide_eq_true rfl) ?_⟩⟩⟩⟩⟩⟩
      refine ⟨_, rfl, _, rfl, r, dr1, _, rfl, hr1', rF_not (by decide +kernel) (by decide +kernel), r, a, p + 1, ns, rest, asInts t, rfl, R1, far1.less in_r, hlen, hd2, fun H3 b R3 k3 nb1 hb => ?_⟩
      have L3' := L1.but k3 nxr nlr
      refine ⟨x, l, b, m, t, rfl, L3', g, hb, few, fun H4 q s4 hq e4 => ?_⟩
      obtain ⟨dr3, hr3'⟩ := id R3
      have keep : ∀ b o, H b = some o → b ≠ r → H3 b = some o := fun b o e h3 => k3 _ _ (k1 _ _ e h3 h3) h3 h3
      have len : p + (nums (.walk t)).length = p + 1 + 1 + (asInts t).length := by
        show p + ((asInts t).length + 1 + 1) = _
        omega
      rw [len] at k
      exact k H4 l q (.inl rfl) (L3'.same s4) ⟨dr3, s4 _ _ hr3'⟩ e4 fun b o e h1 h2 h3 => ⟨ne_of_none (keep b o e h3) hq, s4 _ _ (keep b o e h3)⟩
end
end Tr
set_option maxRecDepth 100000
set_option maxHeartbeats 4000000
namespace Tr
open PySem PySem.Spec PyProof.Rows L2
theorem liftsOk_iff {m : Sw87.Loom} {t : List Nat} : m.liftsOk t = true ↔ ∀ b ∈ t, b < 2 ^ m.shafts := by
  unfold Sw87.Loom.liftsOk
  rw [List.all_eq_true]
  exact ⟨fun h b hb => of_decide_eq_true (h b hb), fun h b hb => decide_eq_true (h b hb)⟩
theorem good_step {m : Sw87.Loom} (g : Good m) (c : Sw87.Call) : Good (Sw87.step m c).1 := by
  cases c with
  | begins n =>
    by_cases h : n < 1 ∨ 4 < n
    · rw [step_begins_no h]; exact g
    · rw [step_begins_ok h]
      exact ⟨by show 1 ≤ n; omega, by show n ≤ 4; omega, by show 0 ≤ 40; omega, fun b hb => nomatch hb⟩
  | picks t =>
    cases ok : m.liftsOk t with
    | false => rw [step_picks_no ok]; exact g
    | true =>
      by_cases h : 40 < m.picks.length + t.length
      · rw [step_picks_many ok h]; exact g
      · rw [step_picks_ok ok h]
        refine ⟨g.lo, g.hi, ?_, fun b hb => ?_⟩
        · show (m.picks ++ t).length ≤ 40
          rw [List.length_append]; omega
        · have hb' : b ∈ m.picks ++ t := hb
          rcases List.mem_append.mp hb' with q | q
          · exact g.ok b q
          · exact liftsOk_iff.mp ok b q
  | lifts => exact g
  | fewest f =>
    have e : (Sw87.step m (.fewest f)).1 = m := by
      show (if f < 1 ∨ 3 < f then (m, Sw87.ok (-1)) else (m, _)).1 = m
      split <;> rfl
    rw [e]; exact g
  | press f t =>
    have e : (Sw87.step m (.press f t)).1 = m := by
      show (if f < 1 ∨ 3 < f ∨ Sw87.TREADLES < t.length ∨ m.liftsOk t = false then (m, Sw87.ok (-1)) else (m, _)).1 = m
      split <;> rfl
    rw [e]; exact g
  | walk t =>
    have e : (Sw87.step m (.walk t)).1 = m := by
      show (if Sw87.TREADLES < t.length ∨ t.length < 2 ∨ m.liftsOk t = false then (m, Sw87.ok (-1)) else (m, _)).1 = m
      split <;> rfl
    rw [e]; exact g
theorem nums_pos (c : Sw87.Call) : 1 ≤ (nums c).length := by
  cases c <;> exact Nat.succ_le_succ (Nat.zero_le _)
/-- the place of the reader at r -/
def placeOf (H : Hp) (r : Addr) : Nat := match H r with
  | some (.ins _ _ fs) => match fs.lookup ("place" : Str) with
    | some (.int i) => i.toNat
    | _ => 0
  | _ => 0
theorem placeOf_at {C : Addr} {H : Hp} {r a : Addr} {p : Nat} (R : RdAt C H r a p) : placeOf H r = p := by
  obtain ⟨dx, h⟩ := R
  unfold placeOf
  rw [h]
  show (match (rF a p).lookup ("place" : Str) with | some (.int i) => i.toNat | _ => 0) = p
  rw [rF_place]
  exact Int.toNat_natCast p
def spAns1 (K : PySem.W.Frag) : Sp := fun vs H Q _ => ∃ (a : Addr) (ns : List Int) (cs : List Sw87.Call), vs = [.ref a] ∧ SqL K H a (iv ns) ∧ ns.length ≤ 30000 ∧ ns = spell cs ∧ (∀ c ∈ cs, Fine c) ∧ (told Sw87.init cs).length ≤ 1000060 ∧
  ∀ (H' : Hp) (p : Addr), H' p = some (.lst (iv (told Sw87.init cs))) → Q (.ref p) H'
section
variable {P : Program} {w : World} {K : PySem.W.Frag} {mg : Str → Option Value} {base : Heap} {CL CT CO CR : Addr}
/-- what holds ahead of each turn -/
structure Turn (K : PySem.W.Frag) (CL CR a r x t : Addr) (ns all : List Int) (σ : L2.St) (H : Hp) (v : Option V) (l : Addr) (m : Sw87.Loom) (p : Nat) (out : List Int) (cs : List Sw87.Call) : Prop where
  sl : σ = [some (.ref a), some (.ref r), some (.ref x), some (.ref t), v]
  lm : LmAt CL H x l m
  gd : Good m
  rd : RdAt CR H r a p
  far : Far K H a ns [x, l, r, t]
  tl : H t = some (.lst (iv out))
  ntl : t ≠ l
  rest : ns.drop p = spell cs
  pin : p ≤ ns.length
  fine : ∀ c ∈ cs, Fine c
  eq : out ++ told m cs = all
theorem scA : FnScope ["calls", "reader", "loom", "told", "answer"] ["calls"] (defScope sAns) := ⟨rfl, rfl, rfl, by decide +kernel, rfl, by decide +kernel, by decide +kernel⟩
theorem ok_ans {f fRI fLI fE fX : Addr} {fd dRI dLI dE dX : FuncData} (F : Fun K "answers" "answers" sAns f fd) (T : Txt K mg CL CT CO CR)
    (MR : Mk K CR fRI) (GRI : FnOk P w K mg base CX0 1 fRI dRI ["self", "numbers"] (spRInit CR)) (bRI : Binds K dRI ["self", "numbers"] [])
    (ML : Mk K CL fLI) (GLI : FnOk P w K mg base CX0 1 fLI dLI ["self"] (spLInit CL)) (bLI : Binds K dLI ["self"] [])
    (mE : Meth K CR "at_end" fE) (GE : FnOk P w K mg base CX0 1 fE dE ["self"] (spEnd K CR)) (bE : Binds K dE ["self"] [])
    (gX : mg "answer_next" = some (.ref fX)) (kX : PySem.W.keepIn K (.ref fX) = true) (GX : FnOk P w K mg base CX0 8 fX dX ["loom", "reader"] (spNext K CL CR)) (bX : Binds K dX ["loom", "reader"] []) :
    FnOk P w K mg base CX0 9 f fd ["calls"] (spAns1 K) := by
  refine F.ok scA (fun vs H Q E h => ?_) (fun cdv A outer s H vs Q E hr h => ?_)
  · obtain ⟨a, ns, cs, rfl, _⟩ := h
    rfl
  · obtain ⟨a, ns, cs, rfl, hS, hlen, ens, fine, few, k⟩ := h
    have hr1 : Room 1 _ := hr.mono (by decide)
    have hr2 : Room 2 _ := hr.mono (by decide)
    refine ⟨_, pss_cons (ps_set (i := 1) scA.nd rfl (Or.inl rfl) (pe_make MR GRI hr2 (by rfl) T.gReader bRI .nil pass0 (pa_cons (pv 0) pa_nil)))
      (pss_cons (ps_set (i := 2) scA.nd rfl (Or.inl rfl) (pe_make0 ML GLI hr2 (by rfl) T.gLoom bLI .nil pass0))
      (pss_cons (ps_set (i := 3) scA.nd rfl (Or.inl rfl) (pe_lst pa_nil))
      (pss_cons (ps_while PassesOwn.never (pt_not (pt_val (pe_meth0 (pv 1) T.clR mE GE hr1 bE .nil pass0)))
        (pss_cons (ps_set (i := 4) scA.nd rfl (Or.inl rfl) (pe_call GX hr (by rfl) gX kX bX .nil pass0 (pa_cons (pv 2) (pa_cons (pv 1) pa_nil))))
        (pss_cons (ps_expr (pe_bm PySem.F.plainAttrs_list PySem.F.slot_list_append PySem.F.type_list_append mt_append (pv 3) (pa_cons (pe_callB call_len_seq (by rfl) T.len PySem.boot_len (pa_cons (pv 4) pa_nil)) pa_nil)))
        (pss_one (ps_expr (pe_bm PySem.F.plainAttrs_list PySem.F.slot_list_extend PySem.F.type_list_extend mt_extend (pv 3) (pa_cons (pv 4) pa_nil)))))))
      (pss_one (ps_ret (pv 3)))))), ?_⟩
    -- reader = Reader(calls)
    refine ⟨_, rfl, ?_⟩
    intro r dr nr ndr ner
    refine ⟨r, dr, a, rfl, upd_same, fun H1 R1 k1 => ⟨rfl, ?_⟩⟩
    have s1 : Same H H1 := Same.made nr ndr k1
    -- loom = Loom()
    intro x dx nx ndx nex
    refine ⟨x, dx, rfl, upd_same, fun H2 l nl L2' k2 => ⟨rfl, ?_⟩⟩
    have s2 : Same H1 H2 := Same.made nx ndx k2
    -- told = []
    refine ⟨Nat.zero_le _, fun t nt => ?_⟩
    have s3 : Same H2 (upd H2 t (.lst [])) := fun b o e => (upd_ne (ne_of_none e nt)).trans e
    obtain ⟨⟨dx2, hx2⟩, hl2⟩ := id L2'
    obtain ⟨dr1, hr1'⟩ := id R1
    have hr2' := s2 _ _ hr1'
    have nxt : x ≠ t := ne_of_none hx2 nt
    have nlt : l ≠ t := ne_of_none hl2 nt
    have nrt : r ≠ t := ne_of_none hr2' nt
    have l0 : H1 l = none := by
      cases w1 : H1 l with
      | none => rfl
      | some o =>
        have a1 : l ≠ x := fun z => by rw [z, nx] at w1; cases w1
        have a2 : l ≠ dx := fun z => by rw [z, ndx] at w1; cases w1
        have : (upd (upd H1 dx (.own x)) x (.ins CL dx [])) l = some o := (upd_ne a1).trans ((upd_ne a2).trans w1)
        rw [nl] at this; cases this
    have far0 : Far K (upd H2 t (.lst [])) a ns [x, l, r, t] := by
      refine ((Far.start (K := K) (H := H) hS).new (bad' := [x, l, r, t]) fun b hb => .inr ?_).step fun b o e n => s3 _ _ (s2 _ _ (s1 _ _ e))
      simp only [List.mem_cons, List.mem_nil_iff, or_false, List.not_mem_nil] at hb
      rcases hb with rfl | rfl | rfl | rfl
      · exact s1.free nx
      · exact s1.free l0
      · exact nr
      · exact (s1.trans s2).free nt
    have T0 : Turn K CL CR a r x t ns (told Sw87.init cs) [some (.ref a), some (.ref r), some (.ref x), some (.ref t), none] (upd H2 t (.lst [])) none l Sw87.init 0 [] cs :=
      ⟨rfl, ⟨⟨dx2, s3 _ _ hx2⟩, s3 _ _ hl2⟩, good_init, ⟨dr1, s3 _ _ hr2'⟩, far0, upd_same, nlt.symm, ens, Nat.zero_le _, fine, rfl⟩
    refine while_by (fun σ H' => ∃ v l m p out cs', Turn K CL CR a r x t ns (told Sw87.init cs) σ H' v l m p out cs') (fun _ H' => ns.length - placeOf H' r) ⟨_, _, _, _, _, _, T0⟩ ?_ ?_
    · rintro σ H' ⟨v, l, m, p, out, cs', ⟨rfl, lm, gd, rd, far, tl, ntl, rest, pin, fn, eq⟩⟩
      obtain ⟨dr, hr0⟩ := id rd
      refine ⟨_, rfl, r, dr, _, rfl, hr0, rF_not (by decide +kernel) (by decide +kernel), r, a, p, ns, rfl, rd, far.seq, _, rfl, ?_⟩
      cases cs' with
      | nil =>
        have e : ns.length ≤ p := by
          have q := congrArg List.length rest
          rw [List.length_drop] at q
          have q' : ns.length - p = 0 := q
          omega
        rw [decide_eq_true e]
        refine ifF rfl ⟨_, rfl, k H' t ?_⟩
        rw [tl, ← eq, told_nil, List.append_nil]
      | cons c cs' =>
        have lt : p < ns.length := by
          have q := congrArg List.length rest
          rw [List.length_drop, spell_cons, List.length_append] at q
          have := nums_pos c
          omega
        rw [decide_eq_false (by omega : ¬ ns.length ≤ p)]
        refine ifT rfl ?_
        have rest' : ns.drop p = nums c ++ spell cs' := rest.trans (spell_cons c cs')
        have lens : out.length + (1 + ((said (Sw87.step m c).2).length + (told (Sw87.step m c).1 cs').length)) ≤ 1000060 := by
          have q := congrArg List.length eq
          rw [told_cons, List.length_append, List.length_cons, List.length_append] at q
          omega
        have sub3 : ∀ b ∈ ([x, l, r] : List Addr), b ∈ [x, l, r, t] := fun b hb => by
          simp only [List.mem_cons, List.not_mem_nil, or_false] at hb ⊢
          rcases hb with h | h | h
          · exact .inl h
          · exact .inr (.inl h)
          · exact .inr (.inr (.inl h))
        refine ⟨_, rfl, _, rfl, x, l, r, a, m, p, ns, spell cs', c, rfl, lm, gd, rd, far.less sub3, hlen, fn c List.mem_cons_self, rest', by omega, fun H3 l' q nl' L3 R3 e3 k3 => ?_⟩
        obtain ⟨⟨dx', hx'⟩, _⟩ := id lm
        have ntx : t ≠ x := ne_of tl hx' (by intro z; cases z)
        have ntr : t ≠ r := ne_of tl hr0 (by intro z; cases z)
        obtain ⟨ntq, tl3⟩ := k3 t _ tl ntx ntl ntr
        have ntl' : t ≠ l' := nl'.elim (fun e => by rw [e]; exact ntl) fun e => ne_of_none tl e
        have R3' := R3
        obtain ⟨dr3, hr3⟩ := R3'
        obtain ⟨⟨dx3, hx3⟩, hl3⟩ := id L3
        -- told.append(len(answer)); told.extend(answer)
        refine ⟨_, rfl, .inl ⟨rfl, _, SqL.of tl3⟩, _, rfl, q, _, rfl, .inl (SqL.of e3), t, _, _, rfl, rfl, tl3, ?_, ?_⟩
        · rw [iv_len]
          show out.length < 16777216
          omega
        refine ⟨_, rfl, .inl ⟨rfl, _, SqL.of upd_same⟩, _, rfl, t, q, _, _, rfl, rfl, upd_same, (upd_ne ntq.symm).trans e3, ?_, ?_⟩
        · rw [List.length_append, iv_len, iv_len]
          show out.length + 1 + (said (Sw87.step m c).2).length ≤ 16777216
          omega
        have keep : ∀ b o, H3 b = some o → b ≠ t → upd (upd H3 t (.lst (iv out ++ [V.int ((iv (said (Sw87.step m c).2)).length : Int)]))) t (.lst (iv out ++ [V.int ((iv (said (Sw87.step m c).2)).length : Int)] ++ iv (said (Sw87.step m c).2))) b = some o := fun b o e n => by
          rw [upd_ne n, upd_ne n]
          exact e
        have far3 : Far K H3 a ns [x, l', r, t] := by
          refine (far.new (bad' := [x, l', r, t, l]) fun b hb => ?_).step (fun b o e n => (k3 b o e (n x ?_) (n l ?_) (n r ?_)).2) |>.less fun b hb => ?_
          · simp only [List.mem_cons, List.not_mem_nil, or_false] at hb ⊢
            rcases hb with h | h | h | h | h
            · exact .inl (.inl h)
            · rcases nl' with e | e
              · exact .inl (.inr (.inl (h.trans e)))
              · exact .inr (by rw [h]; exact e)
            · exact .inl (.inr (.inr (.inl h)))
            · exact .inl (.inr (.inr (.inr h)))
            · exact .inl (.inr (.inl h))
          · simp
          · simp
          · simp
          · simp only [List.mem_cons, List.not_mem_nil, or_false] at hb ⊢
            rcases hb with h | h | h | h
            · exact .inl h
            · exact .inr (.inl h)
            · exact .inr (.inr (.inl h))
            · exact .inr (.inr (.inr (.inl h)))
        have R4 : RdAt CR (upd (upd H3 t (.lst (iv out ++ [V.int ((iv (said (Sw87.step m c).2)).length : Int)]))) t (.lst (iv out ++ [V.int ((iv (said (Sw87.step m c).2)).length : Int)] ++ iv (said (Sw87.step m c).2)))) r a (p + (nums c).length) := ⟨dr3, keep _ _ hr3 ntr.symm⟩
        have pin' : p + (nums c).length ≤ ns.length := by
          have q := congrArg List.length rest'
          rw [List.length_drop, List.length_append] at q
          omega
        refine ⟨⟨_, l', _, p + (nums c).length, out ++ (((said (Sw87.step m c).2).length : Int) :: said (Sw87.step m c).2), cs', rfl, ⟨⟨dx3, keep _ _ hx3 ntx.symm⟩, keep _ _ hl3 ntl'.symm⟩, good_step gd c, R4, ?_, ?_, ntl', ?_, pin', fun c' h => fn c' (List.mem_cons_of_mem _ h), ?_⟩, ?_⟩
        · exact far3.step fun b o e n => keep b o e (n t (by simp))
        · rw [upd_same, iv_app, iv_len, List.append_assoc]; rfl
        · rw [← List.drop_drop, rest', List.drop_left]
        · rw [← eq, told_cons, List.append_assoc]; rfl
        · rw [placeOf_at R4, placeOf_at rd]
          have := nums_pos c
          omega
    · rintro σ H' Q1 Q2 imp ⟨v, e1, r1, d1, f1, e2, e3, e4, r2, a2, p2, ns2, e5, e6, e7, c, e8, e9⟩
      exact ⟨v, e1, r1, d1, f1, e2, e3, e4, r2, a2, p2, ns2, e5, e6, e7, c, e8, imp _ _ e9⟩
end
end Tr
set_option maxRecDepth 100000
set_option maxHeartbeats 4000000
namespace Tr
open PySem PySem.Spec PyProof.Rows L2
open PySem.W (Codec)
theorem all_mk {P : Program} {w : World} {K : PySem.W.Frag} {h : Heap} {mg : Str → Option Value} {fa CL CT CO CR f_ways f_longer f_lifted f_linit f_begin f_add f_has f_may f_needed f_counts f_notIn f_pressed f_tinit f_withT f_notMade f_more f_least f_larger f_doing f_oinit f_path f_short f_onward f_gone f_places f_rinit f_atEnd f_num f_list f_ans f_next f_fewest f_press f_walk f_feet f_rows : Addr} (X : K.In h) (G : h.Ns mainGlobals mg) (hfa : mg "answers" = some (.ref fa))
    {od_ways an_ways od_longer an_longer od_lifted an_lifted od_linit an_linit od_begin an_begin od_add an_add od_has an_has od_may an_may od_needed an_needed od_counts an_counts od_notIn an_notIn od_pressed an_pressed od_tinit an_tinit od_withT an_withT od_notMade an_notMade od_more an_more od_least an_least od_larger an_larger od_doing an_doing od_oinit an_oinit od_path an_path od_short an_short od_onward an_onward od_gone an_gone od_places an_places od_rinit an_rinit od_atEnd an_atEnd od_num an_num od_list an_list od_ans an_ans od_next an_next od_fewest an_fewest od_press an_press od_walk an_walk od_feet an_feet od_rows an_rows : Option Addr} {sl_ways sl_longer sl_lifted sl_linit sl_begin sl_add sl_has sl_may sl_needed sl_counts sl_notIn sl_pressed sl_tinit sl_withT sl_notMade sl_more sl_least sl_larger sl_doing sl_oinit sl_path sl_short sl_onward sl_gone sl_places sl_rinit sl_atEnd sl_num sl_list sl_ans sl_next sl_fewest sl_press sl_walk sl_feet sl_rows : Array (Option Value)}
    {oc_ways kV_ways dc_ways pm_ways cd_ways ct_ways oc_longer kV_longer dc_longer pm_longer cd_longer ct_longer oc_lifted kV_lifted dc_lifted pm_lifted cd_lifted ct_lifted oc_linit kV_linit dc_linit pm_linit cd_linit ct_linit oc_begin kV_begin dc_begin pm_begin cd_begin ct_begin oc_add kV_add dc_add pm_add cd_add ct_add oc_has kV_has dc_has pm_has cd_has ct_has oc_may kV_may dc_may pm_may cd_may ct_may oc_needed kV_needed dc_needed pm_needed cd_needed ct_needed oc_counts kV_counts dc_counts pm_counts cd_counts ct_counts oc_notIn kV_notIn dc_notIn pm_notIn cd_notIn ct_notIn oc_pressed kV_pressed dc_pressed pm_pressed cd_pressed ct_pressed oc_tinit kV_tinit dc_tinit pm_tinit cd_tinit ct_tinit oc_withT kV_withT dc_withT pm_withT cd_withT ct_withT oc_notMade kV_notMade dc_notMade pm_notMade cd_notMade ct_notMade oc_more kV_more dc_more pm_more cd_more ct_more oc_least kV_least dc_least pm_least cd_least ct_least oc_larger kV_larger dc_larger pm_larger cd_larger ct_larger oc_doing kV_doing dc_doing pm_doing cd_doing ct_doing oc_oinit kV_oinit dc_oinit pm_oinit cd_oinit ct_oinit oc_path kV_path dc_path pm_path cd_path ct_path oc_short kV_short dc_short pm_short cd_short ct_short oc_onward kV_onward dc_onward pm_onward cd_onward ct_onward oc_gone kV_gone dc_gone pm_gone cd_gone ct_gone oc_places kV_places dc_places pm_places cd_places ct_places oc_rinit kV_rinit dc_rinit pm_rinit cd_rinit ct_rinit oc_atEnd kV_atEnd dc_atEnd pm_atEnd cd_atEnd ct_atEnd oc_num kV_num dc_num pm_num cd_num ct_num oc_list kV_list dc_list pm_list cd_list ct_list oc_ans kV_ans dc_ans pm_ans cd_ans ct_ans oc_next kV_next dc_next pm_next cd_next ct_next oc_fewest kV_fewest dc_fewest pm_fewest cd_fewest ct_fewest oc_press kV_press dc_press pm_press cd_press ct_press oc_walk kV_walk dc_walk pm_walk cd_walk ct_walk oc_feet kV_feet dc_feet pm_feet cd_feet ct_feet oc_rows kV_rows dc_rows pm_rows cd_rows ct_rows : Value} {tk_MostS tk_MostP tk_MostT tk_Out tk_Many tk_NotM tk_Begins tk_Picks tk_Lifts tk_Fewest tk_Press tk_Walk tk_MostF tk_WalkF : Tok}
    (a_L : PySem.W.nsIn K mainGlobals "Loom" = some (some (.ref CL)))
    (a_T : PySem.W.nsIn K mainGlobals "TieUp" = some (some (.ref CT)))
    (a_O : PySem.W.nsIn K mainGlobals "Onward" = some (some (.ref CO)))
    (a_R : PySem.W.nsIn K mainGlobals "Reader" = some (some (.ref CR)))
    (a_ways : PySem.W.nsIn K mainGlobals "first_ways" = some (some (.ref f_ways)))
    (l_ways : K.lookup f_ways = some ⟨oc_ways, od_ways, .func (PySem.W.fnOf "first_ways" "first_ways" (defArgs sWays) (defBody sWays) (defScope sWays) .none kV_ways dc_ways pm_ways an_ways cd_ways ct_ways), sl_ways⟩) (c_ways : PySem.W.codeIn K cd_ways "first_ways" = true) (k_ways : PySem.W.keepIn K (.ref f_ways) = true)
    (a_longer : PySem.W.nsIn K mainGlobals "rows_one_longer" = some (some (.ref f_longer)))
    (l_longer : K.lookup f_longer = some ⟨oc_longer, od_longer, .func (PySem.W.fnOf "rows_one_longer" "rows_one_longer" (defArgs sLonger) (defBody sLonger) (defScope sLonger) .none kV_longer dc_longer pm_longer an_longer cd_longer ct_longer), sl_longer⟩) (c_longer : PySem.W.codeIn K cd_longer "rows_one_longer" = true) (k_longer : PySem.W.keepIn K (.ref f_longer) = true)
    (a_lifted : PySem.W.nsIn K mainGlobals "lifted" = some (some (.ref f_lifted)))
    (l_lifted : K.lookup f_lifted = some ⟨oc_lifted, od_lifted, .func (PySem.W.fnOf "lifted" "lifted" (defArgs sLifted) (defBody sLifted) (defScope sLifted) .none kV_lifted dc_lifted pm_lifted an_lifted cd_lifted ct_lifted), sl_lifted⟩) (c_lifted : PySem.W.codeIn K cd_lifted "lifted" = true) (k_lifted : PySem.W.keepIn K (.ref f_lifted) = true)
    (a_linit : PySem.W.findIn K (.ref CL) "__init__" = some (some (.ref f_linit))) (i_linit : PySem.W.isFn K (.ref f_linit) = true)
    (l_linit : K.lookup f_linit = some ⟨oc_linit, od_linit, .func (PySem.W.fnOf "__init__" "Loom.__init__" (defArgs sLInit) (defBody sLInit) (defScope sLInit) .none kV_linit dc_linit pm_linit an_linit cd_linit ct_linit), sl_linit⟩) (c_linit : PySem.W.codeIn K cd_linit "Loom.__init__" = true) (k_linit : PySem.W.keepIn K (.ref f_linit) = true)
    (a_begin : PySem.W.findIn K (.ref CL) "begin" = some (some (.ref f_begin))) (i_begin : PySem.W.isFn K (.ref f_begin) = true)
    (l_begin : K.lookup f_begin = some ⟨oc_begin, od_begin, .func (PySem.W.fnOf "begin" "Loom.begin" (defArgs sBegin) (defBody sBegin) (defScope sBegin) .none kV_begin dc_begin pm_begin an_begin cd_begin ct_begin), sl_begin⟩) (c_begin : PySem.W.codeIn K cd_begin "Loom.begin" = true) (k_begin : PySem.W.keepIn K (.ref f_begin) = true)
    (a_add : PySem.W.findIn K (.ref CL) "add_picks" = some (some (.ref f_add))) (i_add : PySem.W.isFn K (.ref f_add) = true)
    (l_add : K.lookup f_add = some ⟨oc_add, od_add, .func (PySem.W.fnOf "add_picks" "Loom.add_picks" (defArgs sAdd) (defBody sAdd) (defScope sAdd) .none kV_add dc_add pm_add an_add cd_add ct_add), sl_add⟩) (c_add : PySem.W.codeIn K cd_add "Loom.add_picks" = true) (k_add : PySem.W.keepIn K (.ref f_add) = true)
    (a_has : PySem.W.findIn K (.ref CL) "has_shafts" = some (some (.ref f_has))) (i_has : PySem.W.isFn K (.ref f_has) = true)
    (l_has : K.lookup f_has = some ⟨oc_has, od_has, .func (PySem.W.fnOf "has_shafts" "Loom.has_shafts" (defArgs sHas) (defBody sHas) (defScope sHas) .none kV_has dc_has pm_has an_has cd_has ct_has), sl_has⟩) (c_has : PySem.W.codeIn K cd_has "Loom.has_shafts" = true) (k_has : PySem.W.keepIn K (.ref f_has) = true)
    (a_may : PySem.W.findIn K (.ref CL) "may_have_treadles" = some (some (.ref f_may))) (i_may : PySem.W.isFn K (.ref f_may) = true)
    (l_may : K.lookup f_may = some ⟨oc_may, od_may, .func (PySem.W.fnOf "may_have_treadles" "Loom.may_have_treadles" (defArgs sMay) (defBody sMay) (defScope sMay) .none kV_may dc_may pm_may an_may cd_may ct_may), sl_may⟩) (c_may : PySem.W.codeIn K cd_may "Loom.may_have_treadles" = true) (k_may : PySem.W.keepIn K (.ref f_may) = true)
    (a_needed : PySem.W.findIn K (.ref CL) "lifts_needed" = some (some (.ref f_needed))) (i_needed : PySem.W.isFn K (.ref f_needed) = true)
    (l_needed : K.lookup f_needed = some ⟨oc_needed, od_needed, .func (PySem.W.fnOf "lifts_needed" "Loom.lifts_needed" (defArgs sNeeded) (defBody sNeeded) (defScope sNeeded) .none kV_needed dc_needed pm_needed an_needed cd_needed ct_needed), sl_needed⟩) (c_needed : PySem.W.codeIn K cd_needed "Loom.lifts_needed" = true) (k_needed : PySem.W.keepIn K (.ref f_needed) = true)
    (a_counts : PySem.W.findIn K (.ref CL) "lift_counts" = some (some (.ref f_counts))) (i_counts : PySem.W.isFn K (.ref f_counts) = true)
    (l_counts : K.lookup f_counts = some ⟨oc_counts, od_counts, .func (PySem.W.fnOf "lift_counts" "Loom.lift_counts" (defArgs sCounts) (defBody sCounts) (defScope sCounts) .none kV_counts dc_counts pm_counts an_counts cd_counts ct_counts), sl_counts⟩) (c_counts : PySem.W.codeIn K cd_counts "Loom.lift_counts" = true) (k_counts : PySem.W.keepIn K (.ref f_counts) = true)
    (a_notIn : PySem.W.findIn K (.ref CL) "first_not_in" = some (some (.ref f_notIn))) (i_notIn : PySem.W.isFn K (.ref f_notIn) = true)
    (l_notIn : K.lookup f_notIn = some ⟨oc_notIn, od_notIn, .func (PySem.W.fnOf "first_not_in" "Loom.first_not_in" (defArgs sNotIn) (defBody sNotIn) (defScope sNotIn) .none kV_notIn dc_notIn pm_notIn an_notIn cd_notIn ct_notIn), sl_notIn⟩) (c_notIn : PySem.W.codeIn K cd_notIn "Loom.first_not_in" = true) (k_notIn : PySem.W.keepIn K (.ref f_notIn) = true)
    (a_pressed : PySem.W.findIn K (.ref CL) "pressed_by" = some (some (.ref f_pressed))) (i_pressed : PySem.W.isFn K (.ref f_pressed) = true)
    (l_pressed : K.lookup f_pressed = some ⟨oc_pressed, od_pressed, .func (PySem.W.fnOf "pressed_by" "Loom.pressed_by" (defArgs sPressed) (defBody sPressed) (defScope sPressed) .none kV_pressed dc_pressed pm_pressed an_pressed cd_pressed ct_pressed), sl_pressed⟩) (c_pressed : PySem.W.codeIn K cd_pressed "Loom.pressed_by" = true) (k_pressed : PySem.W.keepIn K (.ref f_pressed) = true)
    (a_tinit : PySem.W.findIn K (.ref CT) "__init__" = some (some (.ref f_tinit))) (i_tinit : PySem.W.isFn K (.ref f_tinit) = true)
    (l_tinit : K.lookup f_tinit = some ⟨oc_tinit, od_tinit, .func (PySem.W.fnOf "__init__" "TieUp.__init__" (defArgs sTInit) (defBody sTInit) (defScope sTInit) .none kV_tinit dc_tinit pm_tinit an_tinit cd_tinit ct_tinit), sl_tinit⟩) (c_tinit : PySem.W.codeIn K cd_tinit "TieUp.__init__" = true) (k_tinit : PySem.W.keepIn K (.ref f_tinit) = true)
    (a_withT : PySem.W.findIn K (.ref CT) "with_tie" = some (some (.ref f_withT))) (i_withT : PySem.W.isFn K (.ref f_withT) = true)
    (l_withT : K.lookup f_withT = some ⟨oc_withT, od_withT, .func (PySem.W.fnOf "with_tie" "TieUp.with_tie" (defArgs sWith) (defBody sWith) (defScope sWith) .none kV_withT dc_withT pm_withT an_withT cd_withT ct_withT), sl_withT⟩) (c_withT : PySem.W.codeIn K cd_withT "TieUp.with_tie" = true) (k_withT : PySem.W.keepIn K (.ref f_withT) = true)
    (a_notMade : PySem.W.findIn K (.ref CT) "first_not_made" = some (some (.ref f_notMade))) (i_notMade : PySem.W.isFn K (.ref f_notMade) = true)
    (l_notMade : K.lookup f_notMade = some ⟨oc_notMade, od_notMade, .func (PySem.W.fnOf "first_not_made" "TieUp.first_not_made" (defArgs sNotMade) (defBody sNotMade) (defScope sNotMade) .none kV_notMade dc_notMade pm_notMade an_notMade cd_notMade ct_notMade), sl_notMade⟩) (c_notMade : PySem.W.codeIn K cd_notMade "TieUp.first_not_made" = true) (k_notMade : PySem.W.keepIn K (.ref f_notMade) = true)
    (a_more : PySem.W.findIn K (.ref CT) "with_one_more" = some (some (.ref f_more))) (i_more : PySem.W.isFn K (.ref f_more) = true)
    (l_more : K.lookup f_more = some ⟨oc_more, od_more, .func (PySem.W.fnOf "with_one_more" "TieUp.with_one_more" (defArgs sMore) (defBody sMore) (defScope sMore) .none kV_more dc_more pm_more an_more cd_more ct_more), sl_more⟩) (c_more : PySem.W.codeIn K cd_more "TieUp.with_one_more" = true) (k_more : PySem.W.keepIn K (.ref f_more) = true)
    (a_least : PySem.W.nsIn K mainGlobals "least_sets" = some (some (.ref f_least)))
    (l_least : K.lookup f_least = some ⟨oc_least, od_least, .func (PySem.W.fnOf "least_sets" "least_sets" (defArgs sLeast) (defBody sLeast) (defScope sLeast) .none kV_least dc_least pm_least an_least cd_least ct_least), sl_least⟩) (c_least : PySem.W.codeIn K cd_least "least_sets" = true) (k_least : PySem.W.keepIn K (.ref f_least) = true)
    (a_larger : PySem.W.nsIn K mainGlobals "tie_ups_one_larger" = some (some (.ref f_larger)))
    (l_larger : K.lookup f_larger = some ⟨oc_larger, od_larger, .func (PySem.W.fnOf "tie_ups_one_larger" "tie_ups_one_larger" (defArgs sLarger) (defBody sLarger) (defScope sLarger) .none kV_larger dc_larger pm_larger an_larger cd_larger ct_larger), sl_larger⟩) (c_larger : PySem.W.codeIn K cd_larger "tie_ups_one_larger" = true) (k_larger : PySem.W.keepIn K (.ref f_larger) = true)
    (a_doing : PySem.W.nsIn K mainGlobals "sets_that_do" = some (some (.ref f_doing)))
    (l_doing : K.lookup f_doing = some ⟨oc_doing, od_doing, .func (PySem.W.fnOf "sets_that_do" "sets_that_do" (defArgs sDo) (defBody sDo) (defScope sDo) .none kV_doing dc_doing pm_doing an_doing cd_doing ct_doing), sl_doing⟩) (c_doing : PySem.W.codeIn K cd_doing "sets_that_do" = true) (k_doing : PySem.W.keepIn K (.ref f_doing) = true)
    (a_oinit : PySem.W.findIn K (.ref CO) "__init__" = some (some (.ref f_oinit))) (i_oinit : PySem.W.isFn K (.ref f_oinit) = true)
    (l_oinit : K.lookup f_oinit = some ⟨oc_oinit, od_oinit, .func (PySem.W.fnOf "__init__" "Onward.__init__" (defArgs sOInit) (defBody sOInit) (defScope sOInit) .none kV_oinit dc_oinit pm_oinit an_oinit cd_oinit ct_oinit), sl_oinit⟩) (c_oinit : PySem.W.codeIn K cd_oinit "Onward.__init__" = true) (k_oinit : PySem.W.keepIn K (.ref f_oinit) = true)
    (a_path : PySem.W.findIn K (.ref CO) "path" = some (some (.ref f_path))) (i_path : PySem.W.isFn K (.ref f_path) = true)
    (l_path : K.lookup f_path = some ⟨oc_path, od_path, .func (PySem.W.fnOf "path" "Onward.path" (defArgs sPath) (defBody sPath) (defScope sPath) .none kV_path dc_path pm_path an_path cd_path ct_path), sl_path⟩) (c_path : PySem.W.codeIn K cd_path "Onward.path" = true) (k_path : PySem.W.keepIn K (.ref f_path) = true)
    (a_short : PySem.W.nsIn K mainGlobals "shortest_walk" = some (some (.ref f_short)))
    (l_short : K.lookup f_short = some ⟨oc_short, od_short, .func (PySem.W.fnOf "shortest_walk" "shortest_walk" (defArgs sShort) (defBody sShort) (defScope sShort) .none kV_short dc_short pm_short an_short cd_short ct_short), sl_short⟩) (c_short : PySem.W.codeIn K cd_short "shortest_walk" = true) (k_short : PySem.W.keepIn K (.ref f_short) = true)
    (a_onward : PySem.W.nsIn K mainGlobals "onward_from" = some (some (.ref f_onward)))
    (l_onward : K.lookup f_onward = some ⟨oc_onward, od_onward, .func (PySem.W.fnOf "onward_from" "onward_from" (defArgs sOnward) (defBody sOnward) (defScope sOnward) .none kV_onward dc_onward pm_onward an_onward cd_onward ct_onward), sl_onward⟩) (c_onward : PySem.W.codeIn K cd_onward "onward_from" = true) (k_onward : PySem.W.keepIn K (.ref f_onward) = true)
    (a_gone : PySem.W.nsIn K mainGlobals "gone" = some (some (.ref f_gone)))
    (l_gone : K.lookup f_gone = some ⟨oc_gone, od_gone, .func (PySem.W.fnOf "gone" "gone" (defArgs sGone) (defBody sGone) (defScope sGone) .none kV_gone dc_gone pm_gone an_gone cd_gone ct_gone), sl_gone⟩) (c_gone : PySem.W.codeIn K cd_gone "gone" = true) (k_gone : PySem.W.keepIn K (.ref f_gone) = true)
    (a_places : PySem.W.nsIn K mainGlobals "places_over" = some (some (.ref f_places)))
    (l_places : K.lookup f_places = some ⟨oc_places, od_places, .func (PySem.W.fnOf "places_over" "places_over" (defArgs sPlaces) (defBody sPlaces) (defScope sPlaces) .none kV_places dc_places pm_places an_places cd_places ct_places), sl_places⟩) (c_places : PySem.W.codeIn K cd_places "places_over" = true) (k_places : PySem.W.keepIn K (.ref f_places) = true)
    (a_rinit : PySem.W.findIn K (.ref CR) "__init__" = some (some (.ref f_rinit))) (i_rinit : PySem.W.isFn K (.ref f_rinit) = true)
    (l_rinit : K.lookup f_rinit = some ⟨oc_rinit, od_rinit, .func (PySem.W.fnOf "__init__" "Reader.__init__" (defArgs sRInit) (defBody sRInit) (defScope sRInit) .none kV_rinit dc_rinit pm_rinit an_rinit cd_rinit ct_rinit), sl_rinit⟩) (c_rinit : PySem.W.codeIn K cd_rinit "Reader.__init__" = true) (k_rinit : PySem.W.keepIn K (.ref f_rinit) = true)
    (a_atEnd : PySem.W.findIn K (.ref CR) "at_end" = some (some (.ref f_atEnd))) (i_atEnd : PySem.W.isFn K (.ref f_atEnd) = true)
    (l_atEnd : K.lookup f_atEnd = some ⟨oc_atEnd, od_atEnd, .func (PySem.W.fnOf "at_end" "Reader.at_end" (defArgs sEnd) (defBody sEnd) (defScope sEnd) .none kV_atEnd dc_atEnd pm_atEnd an_atEnd cd_atEnd ct_atEnd), sl_atEnd⟩) (c_atEnd : PySem.W.codeIn K cd_atEnd "Reader.at_end" = true) (k_atEnd : PySem.W.keepIn K (.ref f_atEnd) = true)
    (a_num : PySem.W.findIn K (.ref CR) "take_number" = some (some (.ref f_num))) (i_num : PySem.W.isFn K (.ref f_num) = true)
    (l_num : K.lookup f_num = some ⟨oc_num, od_num, .func (PySem.W.fnOf "take_number" "Reader.take_number" (defArgs sNum) (defBody sNum) (defScope sNum) .none kV_num dc_num pm_num an_num cd_num ct_num), sl_num⟩) (c_num : PySem.W.codeIn K cd_num "Reader.take_number" = true) (k_num : PySem.W.keepIn K (.ref f_num) = true)
    (a_list : PySem.W.findIn K (.ref CR) "take_list" = some (some (.ref f_list))) (i_list : PySem.W.isFn K (.ref f_list) = true)
    (l_list : K.lookup f_list = some ⟨oc_list, od_list, .func (PySem.W.fnOf "take_list" "Reader.take_list" (defArgs sList) (defBody sList) (defScope sList) .none kV_list dc_list pm_list an_list cd_list ct_list), sl_list⟩) (c_list : PySem.W.codeIn K cd_list "Reader.take_list" = true) (k_list : PySem.W.keepIn K (.ref f_list) = true)
    (a_ans : PySem.W.nsIn K mainGlobals "answers" = some (some (.ref f_ans)))
    (l_ans : K.lookup f_ans = some ⟨oc_ans, od_ans, .func (PySem.W.fnOf "answers" "answers" (defArgs sAns) (defBody sAns) (defScope sAns) .none kV_ans dc_ans pm_ans an_ans cd_ans ct_ans), sl_ans⟩) (c_ans : PySem.W.codeIn K cd_ans "answers" = true) (k_ans : PySem.W.keepIn K (.ref f_ans) = true)
    (a_next : PySem.W.nsIn K mainGlobals "answer_next" = some (some (.ref f_next)))
    (l_next : K.lookup f_next = some ⟨oc_next, od_next, .func (PySem.W.fnOf "answer_next" "answer_next" (defArgs sNext) (defBody sNext) (defScope sNext) .none kV_next dc_next pm_next an_next cd_next ct_next), sl_next⟩) (c_next : PySem.W.codeIn K cd_next "answer_next" = true) (k_next : PySem.W.keepIn K (.ref f_next) = true)
    (a_fewest : PySem.W.nsIn K mainGlobals "fewest" = some (some (.ref f_fewest)))
    (l_fewest : K.lookup f_fewest = some ⟨oc_fewest, od_fewest, .func (PySem.W.fnOf "fewest" "fewest" (defArgs sFewest) (defBody sFewest) (defScope sFewest) .none kV_fewest dc_fewest pm_fewest an_fewest cd_fewest ct_fewest), sl_fewest⟩) (c_fewest : PySem.W.codeIn K cd_fewest "fewest" = true) (k_fewest : PySem.W.keepIn K (.ref f_fewest) = true)
    (a_press : PySem.W.nsIn K mainGlobals "press" = some (some (.ref f_press)))
    (l_press : K.lookup f_press = some ⟨oc_press, od_press, .func (PySem.W.fnOf "press" "press" (defArgs sPress) (defBody sPress) (defScope sPress) .none kV_press dc_press pm_press an_press cd_press ct_press), sl_press⟩) (c_press : PySem.W.codeIn K cd_press "press" = true) (k_press : PySem.W.keepIn K (.ref f_press) = true)
    (a_walk : PySem.W.nsIn K mainGlobals "walk" = some (some (.ref f_walk)))
    (l_walk : K.lookup f_walk = some ⟨oc_walk, od_walk, .func (PySem.W.fnOf "walk" "walk" (defArgs sWalk) (defBody sWalk) (defScope sWalk) .none kV_walk dc_walk pm_walk an_walk cd_walk ct_walk), sl_walk⟩) (c_walk : PySem.W.codeIn K cd_walk "walk" = true) (k_walk : PySem.W.keepIn K (.ref f_walk) = true)
    (a_feet : PySem.W.nsIn K mainGlobals "feet_in_range" = some (some (.ref f_feet)))
    (l_feet : K.lookup f_feet = some ⟨oc_feet, od_feet, .func (PySem.W.fnOf "feet_in_range" "feet_in_range" (defArgs sFeet) (defBody sFeet) (defScope sFeet) .none kV_feet dc_feet pm_feet an_feet cd_feet ct_feet), sl_feet⟩) (c_feet : PySem.W.codeIn K cd_feet "feet_in_range" = true) (k_feet : PySem.W.keepIn K (.ref f_feet) = true)
    (a_rows : PySem.W.nsIn K mainGlobals "counted_lists" = some (some (.ref f_rows)))
    (l_rows : K.lookup f_rows = some ⟨oc_rows, od_rows, .func (PySem.W.fnOf "counted_lists" "counted_lists" (defArgs sRows) (defBody sRows) (defScope sRows) .none kV_rows dc_rows pm_rows an_rows cd_rows ct_rows), sl_rows⟩) (c_rows : PySem.W.codeIn K cd_rows "counted_lists" = true) (k_rows : PySem.W.keepIn K (.ref f_rows) = true)
    (pg_L : PySem.W.plainGet K CL Str.empty = true) (hd_L : PySem.W.hasDictIn K CL = true) (po_L : PySem.W.plainOver K CL = true) (sa_L : PySem.W.findIn K (.ref CL) "__setattr__" = some (some (.builtin "object.__setattr__"))) (mk_L : PySem.W.makesIn K CL = true) (kc_L : PySem.W.keepIn K (.ref CL) = true)
    (pg_T : PySem.W.plainGet K CT Str.empty = true) (hd_T : PySem.W.hasDictIn K CT = true) (po_T : PySem.W.plainOver K CT = true) (sa_T : PySem.W.findIn K (.ref CT) "__setattr__" = some (some (.builtin "object.__setattr__"))) (mk_T : PySem.W.makesIn K CT = true) (kc_T : PySem.W.keepIn K (.ref CT) = true)
    (pg_O : PySem.W.plainGet K CO Str.empty = true) (hd_O : PySem.W.hasDictIn K CO = true) (po_O : PySem.W.plainOver K CO = true) (sa_O : PySem.W.findIn K (.ref CO) "__setattr__" = some (some (.builtin "object.__setattr__"))) (mk_O : PySem.W.makesIn K CO = true) (kc_O : PySem.W.keepIn K (.ref CO) = true)
    (pg_R : PySem.W.plainGet K CR Str.empty = true) (hd_R : PySem.W.hasDictIn K CR = true) (po_R : PySem.W.plainOver K CR = true) (sa_R : PySem.W.findIn K (.ref CR) "__setattr__" = some (some (.builtin "object.__setattr__"))) (mk_R : PySem.W.makesIn K CR = true) (kc_R : PySem.W.keepIn K (.ref CR) = true)
    (n_Shafts : PySem.W.findIn K (.ref CL) "shafts" = some none)
    (n_Picked : PySem.W.findIn K (.ref CL) "picked" = some none)
    (n_Ties : PySem.W.findIn K (.ref CT) "ties" = some none)
    (n_Made : PySem.W.findIn K (.ref CT) "made" = some none)
    (n_Dist : PySem.W.findIn K (.ref CO) "distance" = some none)
    (n_Ways : PySem.W.findIn K (.ref CO) "ways" = some none)
    (n_Foll : PySem.W.findIn K (.ref CO) "following" = some none)
    (n_Beyond : PySem.W.findIn K (.ref CO) "beyond" = some none)
    (n_Numbers : PySem.W.findIn K (.ref CR) "numbers" = some none)
    (n_Place : PySem.W.findIn K (.ref CR) "place" = some none)
    (g_MostS : PySem.W.nsIn K mainGlobals "MOST_SHAFTS" = some (some (.int 4 tk_MostS)))
    (g_MostP : PySem.W.nsIn K mainGlobals "MOST_PICKS" = some (some (.int 40 tk_MostP)))
    (g_MostT : PySem.W.nsIn K mainGlobals "MOST_TREADLES" = some (some (.int 8 tk_MostT)))
    (g_Out : PySem.W.nsIn K mainGlobals "OUT_OF_RANGE" = some (some (.int (-1) tk_Out)))
    (g_Many : PySem.W.nsIn K mainGlobals "TOO_MANY_PICKS" = some (some (.int (-5) tk_Many)))
    (g_NotM : PySem.W.nsIn K mainGlobals "NOT_MADE" = some (some (.int (-6) tk_NotM)))
    (g_Begins : PySem.W.nsIn K mainGlobals "BEGINS" = some (some (.int 0 tk_Begins)))
    (g_Picks : PySem.W.nsIn K mainGlobals "PICKS" = some (some (.int 1 tk_Picks)))
    (g_Lifts : PySem.W.nsIn K mainGlobals "LIFTS" = some (some (.int 2 tk_Lifts)))
    (g_Fewest : PySem.W.nsIn K mainGlobals "FEWEST" = some (some (.int 3 tk_Fewest)))
    (g_Press : PySem.W.nsIn K mainGlobals "PRESS" = some (some (.int 4 tk_Press)))
    (g_Walk : PySem.W.nsIn K mainGlobals "WALK" = some (some (.int 5 tk_Walk)))
    (g_MostF : PySem.W.nsIn K mainGlobals "MOST_FEET" = some (some (.int 3 tk_MostF)))
    (g_WalkF : PySem.W.nsIn K mainGlobals "WALKING_FEET" = some (some (.int 2 tk_WalkF)))
    (z_len : PySem.W.nsIn K mainGlobals "len" = some none)
    (z_sorted : PySem.W.nsIn K mainGlobals "sorted" = some none)
    (z_set : PySem.W.nsIn K mainGlobals "set" = some none)
    (z_range : PySem.W.nsIn K mainGlobals "range" = some none)
    (z_min : PySem.W.nsIn K mainGlobals "min" = some none)
    (z_abs : PySem.W.nsIn K mainGlobals "abs" = some none)
    (z_all : PySem.W.nsIn K mainGlobals "all" = some none)
    (z_sum : PySem.W.nsIn K mainGlobals "sum" = some none)
    (z_dict : PySem.W.nsIn K mainGlobals "dict" = some none)
    (z_enumerate : PySem.W.nsIn K mainGlobals "enumerate" = some none)
    (z_reversed : PySem.W.nsIn K mainGlobals "reversed" = some none)
    : ∃ fd : FuncData, (∀ (s : Shared) (us : List Value), us.length = (["calls"] : List Str).length → BindsTo s fd ⟨us, []⟩ ((["calls"] : List Str).zip us)) ∧ ∀ base : Heap, K.In base → base.Ns mainGlobals mg → FnOk P w K mg base CX0 9 fa fd ["calls"] (spAns1 K) := by
  have e := hfa.symm.trans (PySem.W.mg_of X G a_ans)
  cases e
  have T : Txt K mg CL CT CO CR := {
    clL := ⟨pg_L, hd_L, po_L, sa_L⟩, clT := ⟨pg_T, hd_T, po_T, sa_T⟩, clO := ⟨pg_O, hd_O, po_O, sa_O⟩, clR := ⟨pg_R, hd_R, po_R, sa_R⟩,
    nShafts := n_Shafts, nPicked := n_Picked, nTies := n_Ties, nMade := n_Made, nDist := n_Dist, nWays := n_Ways, nFoll := n_Foll, nBeyond := n_Beyond, nNumbers := n_Numbers, nPlace := n_Place,
    gLoom := PySem.W.mg_of X G a_L, gTieUp := PySem.W.mg_of X G a_T, gOnward := PySem.W.mg_of X G a_O, gReader := PySem.W.mg_of X G a_R,
    gMostS := ⟨_, PySem.W.mg_of X G g_MostS⟩, gMostP := ⟨_, PySem.W.mg_of X G g_MostP⟩, gMostT := ⟨_, PySem.W.mg_of X G g_MostT⟩, gOut := ⟨_, PySem.W.mg_of X G g_Out⟩, gMany := ⟨_, PySem.W.mg_of X G g_Many⟩, gNotM := ⟨_, PySem.W.mg_of X G g_NotM⟩, gBegins := ⟨_, PySem.W.mg_of X G g_Begins⟩, gPicks := ⟨_, PySem.W.mg_of X G g_Picks⟩, gLifts := ⟨_, PySem.W.mg_of X G g_Lifts⟩, gFewest := ⟨_, PySem.W.mg_of X G g_Fewest⟩, gPress := ⟨_, PySem.W.mg_of X G g_Press⟩, gWalk := ⟨_, PySem.W.mg_of X G g_Walk⟩, gMostF := ⟨_, PySem.W.mg_of X G g_MostF⟩, gWalkF := ⟨_, PySem.W.mg_of X G g_WalkF⟩,
    len := PySem.W.mg_none_of X G z_len, sorted := PySem.W.mg_none_of X G z_sorted, set := PySem.W.mg_none_of X G z_set, range := PySem.W.mg_none_of X G z_range, min := PySem.W.mg_none_of X G z_min, abs := PySem.W.mg_none_of X G z_abs, all := PySem.W.mg_none_of X G z_all, sum := PySem.W.mg_none_of X G z_sum, dict := PySem.W.mg_none_of X G z_dict, enumerate := PySem.W.mg_none_of X G z_enumerate, reversed := PySem.W.mg_none_of X G z_reversed }
  have F_ways := fun_mk (st := sWays) l_ways c_ways k_ways
  have F_longer := fun_mk (st := sLonger) l_longer c_longer k_longer
  have F_lifted := fun_mk (st := sLifted) l_lifted c_lifted k_lifted
  have F_linit := fun_mk (st := sLInit) l_linit c_linit k_linit
  have F_begin := fun_mk (st := sBegin) l_begin c_begin k_begin
  have F_add := fun_mk (st := sAdd) l_add c_add k_add
  have F_has := fun_mk (st := sHas) l_has c_has k_has
  have F_may := fun_mk (st := sMay) l_may c_may k_may
  have F_needed := fun_mk (st := sNeeded) l_needed c_needed k_needed
  have F_counts := fun_mk (st := sCounts) l_counts c_counts k_counts
  have F_notIn := fun_mk (st := sNotIn) l_notIn c_notIn k_notIn
  have F_pressed := fun_mk (st := sPressed) l_pressed c_pressed k_pressed
  have F_tinit := fun_mk (st := sTInit) l_tinit c_tinit k_tinit
  have F_withT := fun_mk (st := sWith) l_withT c_withT k_withT
  have F_notMade := fun_mk (st := sNotMade) l_notMade c_notMade k_notMade
  have F_more := fun_mk (st := sMore) l_more c_more k_more
  have F_least := fun_mk (st := sLeast) l_least c_least k_least
  have F_larger := fun_mk (st := sLarger) l_larger c_larger k_larger
  have F_doing := fun_mk (st := sDo) l_doing c_doing k_doing
  have F_oinit := fun_mk (st := sOInit) l_oinit c_oinit k_oinit
  have F_path := fun_mk (st := sPath) l_path c_path k_path
  have F_short := fun_mk (st := sShort) l_short c_short k_short
  have F_onward := fun_mk (st := sOnward) l_onward c_onward k_onward
  have F_gone := fun_mk (st := sGone) l_gone c_gone k_gone
  have F_places := fun_mk (st := sPlaces) l_places c_places k_places
  have F_rinit := fun_mk (st := sRInit) l_rinit c_rinit k_rinit
  have F_atEnd := fun_mk (st := sEnd) l_atEnd c_atEnd k_atEnd
  have F_num := fun_mk (st := sNum) l_num c_num k_num
  have F_list := fun_mk (st := sList) l_list c_list k_list
  have F_ans := fun_mk (st := sAns) l_ans c_ans k_ans
  have F_next := fun_mk (st := sNext) l_next c_next k_next
  have F_fewest := fun_mk (st := sFewest) l_fewest c_fewest k_fewest
  have F_press := fun_mk (st := sPress) l_press c_press k_press
  have F_walk := fun_mk (st := sWalk) l_walk c_walk k_walk
  have F_feet := fun_mk (st := sFeet) l_feet c_feet k_feet
  have F_rows := fun_mk (st := sRows) l_rows c_rows k_rows
  have b_ways := F_ways.binds (ps := ["ties", "feet"]) fun _ _ _ _ _ _ us hl => match us, hl with | [_, _], _ => rfl
  have b_longer := F_longer.binds (ps := ["rows", "treadles_there"]) fun _ _ _ _ _ _ us hl => match us, hl with | [_, _], _ => rfl
  have b_lifted := F_lifted.binds (ps := ["row", "ties"]) fun _ _ _ _ _ _ us hl => match us, hl with | [_, _], _ => rfl
  have b_linit := F_linit.binds (ps := ["self"]) fun _ _ _ _ _ _ us hl => match us, hl with | [_], _ => rfl
  have b_begin := F_begin.binds (ps := ["self", "shafts"]) fun _ _ _ _ _ _ us hl => match us, hl with | [_, _], _ => rfl
  have b_add := F_add.binds (ps := ["self", "lifts"]) fun _ _ _ _ _ _ us hl => match us, hl with | [_, _], _ => rfl
  have b_has := F_has.binds (ps := ["self", "shaft_sets"]) fun _ _ _ _ _ _ us hl => match us, hl with | [_, _], _ => rfl
  have b_may := F_may.binds (ps := ["self", "ties"]) fun _ _ _ _ _ _ us hl => match us, hl with | [_, _], _ => rfl
  have b_needed := F_needed.binds (ps := ["self"]) fun _ _ _ _ _ _ us hl => match us, hl with | [_], _ => rfl
  have b_counts := F_counts.binds (ps := ["self"]) fun _ _ _ _ _ _ us hl => match us, hl with | [_], _ => rfl
  have b_notIn := F_notIn.binds (ps := ["self", "ways"]) fun _ _ _ _ _ _ us hl => match us, hl with | [_, _], _ => rfl
  have b_pressed := F_pressed.binds (ps := ["self", "ways"]) fun _ _ _ _ _ _ us hl => match us, hl with | [_, _], _ => rfl
  have b_tinit := F_tinit.binds (ps := ["self", "ties", "made"]) fun _ _ _ _ _ _ us hl => match us, hl with | [_, _, _], _ => rfl
  have b_withT := F_withT.binds (ps := ["self", "tie", "feet"]) fun _ _ _ _ _ _ us hl => match us, hl with | [_, _, _], _ => rfl
  have b_notMade := F_notMade.binds (ps := ["self", "lifts"]) fun _ _ _ _ _ _ us hl => match us, hl with | [_, _], _ => rfl
  have b_more := F_more.binds (ps := ["self", "lifts", "feet"]) fun _ _ _ _ _ _ us hl => match us, hl with | [_, _, _], _ => rfl
  have b_least := F_least.binds (ps := ["lifts", "feet"]) fun _ _ _ _ _ _ us hl => match us, hl with | [_, _], _ => rfl
  have b_larger := F_larger.binds (ps := ["tie_ups", "lifts", "feet"]) fun _ _ _ _ _ _ us hl => match us, hl with | [_, _, _], _ => rfl
  have b_doing := F_doing.binds (ps := ["tie_ups", "lifts"]) fun _ _ _ _ _ _ us hl => match us, hl with | [_, _], _ => rfl
  have b_oinit := F_oinit.binds (ps := ["self", "distance", "ways", "following", "beyond"]) fun _ _ _ _ _ _ us hl => match us, hl with | [_, _, _, _, _], _ => rfl
  have b_path := F_path.binds (ps := ["self"]) fun _ _ _ _ _ _ us hl => match us, hl with | [_], _ => rfl
  have b_short := F_short.binds (ps := ["places_by_pick"]) fun _ _ _ _ _ _ us hl => match us, hl with | [_], _ => rfl
  have b_onward := F_onward.binds (ps := ["place", "ahead"]) fun _ _ _ _ _ _ us hl => match us, hl with | [_, _], _ => rfl
  have b_gone := F_gone.binds (ps := ["place", "following"]) fun _ _ _ _ _ _ us hl => match us, hl with | [_, _], _ => rfl
  have b_places := F_places.binds (ps := ["row", "treadles_there"]) fun _ _ _ _ _ _ us hl => match us, hl with | [_, _], _ => rfl
  have b_rinit := F_rinit.binds (ps := ["self", "numbers"]) fun _ _ _ _ _ _ us hl => match us, hl with | [_, _], _ => rfl
  have b_atEnd := F_atEnd.binds (ps := ["self"]) fun _ _ _ _ _ _ us hl => match us, hl with | [_], _ => rfl
  have b_num := F_num.binds (ps := ["self"]) fun _ _ _ _ _ _ us hl => match us, hl with | [_], _ => rfl
  have b_list := F_list.binds (ps := ["self"]) fun _ _ _ _ _ _ us hl => match us, hl with | [_], _ => rfl
  have b_next := F_next.binds (ps := ["loom", "reader"]) fun _ _ _ _ _ _ us hl => match us, hl with | [_, _], _ => rfl
  have b_fewest := F_fewest.binds (ps := ["loom", "feet"]) fun _ _ _ _ _ _ us hl => match us, hl with | [_, _], _ => rfl
  have b_press := F_press.binds (ps := ["loom", "feet", "ties"]) fun _ _ _ _ _ _ us hl => match us, hl with | [_, _, _], _ => rfl
  have b_walk := F_walk.binds (ps := ["loom", "ties"]) fun _ _ _ _ _ _ us hl => match us, hl with | [_, _], _ => rfl
  have b_feet := F_feet.binds (ps := ["feet"]) fun _ _ _ _ _ _ us hl => match us, hl with | [_], _ => rfl
  have b_rows := F_rows.binds (ps := ["lists"]) fun _ _ _ _ _ _ us hl => match us, hl with | [_], _ => rfl
  have g_ways := PySem.W.mg_of X G a_ways
  have g_longer := PySem.W.mg_of X G a_longer
  have g_lifted := PySem.W.mg_of X G a_lifted
  have m_linit : Mk K CL f_linit := ⟨mk_L, a_linit, i_linit, kc_L⟩
  have m_begin : Meth K CL "begin" f_begin := ⟨a_begin, i_begin, k_begin⟩
  have m_add : Meth K CL "add_picks" f_add := ⟨a_add, i_add, k_add⟩
  have m_has : Meth K CL "has_shafts" f_has := ⟨a_has, i_has, k_has⟩
  have m_may : Meth K CL "may_have_treadles" f_may := ⟨a_may, i_may, k_may⟩
  have m_needed : Meth K CL "lifts_needed" f_needed := ⟨a_needed, i_needed, k_needed⟩
  have m_counts : Meth K CL "lift_counts" f_counts := ⟨a_counts, i_counts, k_counts⟩
  have m_notIn : Meth K CL "first_not_in" f_notIn := ⟨a_notIn, i_notIn, k_notIn⟩
  have m_pressed : Meth K CL "pressed_by" f_pressed := ⟨a_pressed, i_pressed, k_pressed⟩
  have m_tinit : Mk K CT f_tinit := ⟨mk_T, a_tinit, i_tinit, kc_T⟩
  have m_withT : Meth K CT "with_tie" f_withT := ⟨a_withT, i_withT, k_withT⟩
  have m_notMade : Meth K CT "first_not_made" f_notMade := ⟨a_notMade, i_notMade, k_notMade⟩
  have m_more : Meth K CT "with_one_more" f_more := ⟨a_more, i_more, k_more⟩
  have g_least := PySem.W.mg_of X G a_least
  have g_larger := PySem.W.mg_of X G a_larger
  have g_doing := PySem.W.mg_of X G a_doing
  have m_oinit : Mk K CO f_oinit := ⟨mk_O, a_oinit, i_oinit, kc_O⟩
  have m_path : Meth K CO "path" f_path := ⟨a_path, i_path, k_path⟩
  have g_short := PySem.W.mg_of X G a_short
  have g_onward := PySem.W.mg_of X G a_onward
  have g_gone := PySem.W.mg_of X G a_gone
  have g_places := PySem.W.mg_of X G a_places
  have m_rinit : Mk K CR f_rinit := ⟨mk_R, a_rinit, i_rinit, kc_R⟩
  have m_atEnd : Meth K CR "at_end" f_atEnd := ⟨a_atEnd, i_atEnd, k_atEnd⟩
  have m_num : Meth K CR "take_number" f_num := ⟨a_num, i_num, k_num⟩
  have m_list : Meth K CR "take_list" f_list := ⟨a_list, i_list, k_list⟩
  have g_next := PySem.W.mg_of X G a_next
  have g_fewest := PySem.W.mg_of X G a_fewest
  have g_press := PySem.W.mg_of X G a_press
  have g_walk := PySem.W.mg_of X G a_walk
  have g_feet := PySem.W.mg_of X G a_feet
  have g_rows := PySem.W.mg_of X G a_rows
  have G_lifted : ∀ base : Heap, FnOk P w K mg base CX0 1 f_lifted _ ["row", "ties"] spLifted := fun base => ok_lifted F_lifted
  have G_longer : ∀ base : Heap, FnOk P w K mg base CX0 1 f_longer _ ["rows", "treadles_there"] spLonger := fun base => ok_longer F_longer T
  have G_ways : ∀ base : Heap, FnOk P w K mg base CX0 2 f_ways _ ["ties", "feet"] spWays := fun base => ok_ways F_ways T g_longer k_longer b_longer (G_longer base) g_lifted k_lifted b_lifted (G_lifted base)
  have G_linit : ∀ base : Heap, FnOk P w K mg base CX0 1 f_linit _ ["self"] (spLInit CL) := fun base => ok_linit F_linit T
  have G_begin : ∀ base : Heap, FnOk P w K mg base CX0 1 f_begin _ ["self", "shafts"] (spBegin CL) := fun base => ok_begin F_begin T
  have G_add : ∀ base : Heap, FnOk P w K mg base CX0 2 f_add _ ["self", "lifts"] (spAdd CL) := fun base => ok_add F_add T F_has b_has m_has
  have G_may : ∀ base : Heap, FnOk P w K mg base CX0 2 f_may _ ["self", "ties"] (spMay CL) := fun base => ok_may F_may T F_has b_has m_has
  have G_needed : ∀ base : Heap, FnOk P w K mg base CX0 1 f_needed _ ["self"] (spNeeded CL) := fun base => ok_needed F_needed T
  have G_counts : ∀ base : Heap, FnOk P w K mg base CX0 2 f_counts _ ["self"] (spCounts CL) := fun base => ok_counts F_counts T F_needed b_needed m_needed
  have G_notIn : ∀ base : Heap, FnOk P w K mg base CX0 1 f_notIn _ ["self", "ways"] (spNotIn CL) := fun base => ok_notIn F_notIn T
  have G_pressed : ∀ base : Heap, FnOk P w K mg base CX0 1 f_pressed _ ["self", "ways"] (spPressed CL) := fun base => ok_pressed F_pressed T
  have G_tinit : ∀ base : Heap, FnOk P w K mg base CX0 1 f_tinit _ ["self", "ties", "made"] (spTInit CT) := fun base => ok_tinit F_tinit T
  have G_withT : ∀ base : Heap, FnOk P w K mg base CX0 3 f_withT _ ["self", "tie", "feet"] (spWith CT) := fun base => ok_with F_withT T m_tinit (G_tinit base) b_tinit
  have G_notMade : ∀ base : Heap, FnOk P w K mg base CX0 1 f_notMade _ ["self", "lifts"] (spNotMade CT) := fun base => ok_notMade F_notMade T
  have G_more : ∀ base : Heap, FnOk P w K mg base CX0 4 f_more _ ["self", "lifts", "feet"] (spMore CT) := fun base => ok_more F_more T m_notMade (G_notMade base) b_notMade m_withT (G_withT base) b_withT
  have G_doing : ∀ base : Heap, FnOk P w K mg base CX0 2 f_doing _ ["tie_ups", "lifts"] (spDo CT) := fun base => ok_do F_doing T m_notMade (G_notMade base) b_notMade
  have G_larger : ∀ base : Heap, FnOk P w K mg base CX0 5 f_larger _ ["tie_ups", "lifts", "feet"] (spLarger CT) := fun base => ok_larger F_larger T m_more (G_more base) b_more
  have G_least : ∀ base : Heap, FnOk P w K mg base CX0 6 f_least _ ["lifts", "feet"] spLeast := fun base => ok_least F_least T m_tinit (G_tinit base) b_tinit g_doing k_doing b_doing (G_doing base) g_larger k_larger b_larger (G_larger base)
  have G_oinit : ∀ base : Heap, FnOk P w K mg base CX0 1 f_oinit _ ["self", "distance", "ways", "following", "beyond"] (spOInit CO) := fun base => ok_oinit F_oinit T
  have G_path : ∀ base : Heap, FnOk P w K mg base CX0 1 f_path _ ["self"] (spPath CO) := fun base => ok_path F_path T
  have G_gone : ∀ base : Heap, FnOk P w K mg base CX0 1 f_gone _ ["place", "following"] spGone := fun base => ok_gone F_gone T
  have G_places : ∀ base : Heap, FnOk P w K mg base CX0 1 f_places _ ["row", "treadles_there"] spPlaces := fun base => ok_places F_places T
  have G_onward : ∀ base : Heap, FnOk P w K mg base CX0 3 f_onward _ ["place", "ahead"] (spOnward CO) := fun base => ok_onward F_onward T m_oinit (G_oinit base) b_oinit g_gone k_gone b_gone (G_gone base)
  have G_short : ∀ base : Heap, FnOk P w K mg base CX0 4 f_short _ ["places_by_pick"] (spShort CO) := fun base => ok_short F_short T g_onward k_onward b_onward (G_onward base)
  have G_rinit : ∀ base : Heap, FnOk P w K mg base CX0 1 f_rinit _ ["self", "numbers"] (spRInit CR) := fun base => ok_rinit F_rinit T
  have G_atEnd : ∀ base : Heap, FnOk P w K mg base CX0 1 f_atEnd _ ["self"] (spEnd K CR) := fun base => ok_end F_atEnd T
  have G_num : ∀ base : Heap, FnOk P w K mg base CX0 1 f_num _ ["self"] (spNum K CR) := fun base => ok_num F_num T
  have G_list : ∀ base : Heap, FnOk P w K mg base CX0 2 f_list _ ["self"] (spList K CR) := fun base => ok_list F_list T F_num b_num m_num
  have G_feet : ∀ base : Heap, FnOk P w K mg base CX0 1 f_feet _ ["feet"] spFeet := fun base => ok_feet F_feet T
  have G_rows : ∀ base : Heap, FnOk P w K mg base CX0 1 f_rows _ ["lists"] spRows := fun base => ok_rows F_rows T
  have G_fewest : ∀ base : Heap, FnOk P w K mg base CX0 7 f_fewest _ ["loom", "feet"] (spFewest CL) := fun base => ok_fewest F_fewest T g_feet k_feet b_feet (G_feet base) m_needed b_needed (G_needed base) g_least k_least b_least (G_least base) g_rows k_rows b_rows (G_rows base)
  have G_press : ∀ base : Heap, FnOk P w K mg base CX0 3 f_press _ ["loom", "feet", "ties"] (spPress CL) := fun base => ok_press F_press T g_feet k_feet b_feet (G_feet base) m_may b_may (G_may base) g_ways k_ways b_ways (G_ways base) m_notIn b_notIn (G_notIn base) m_pressed b_pressed (G_pressed base) g_rows k_rows b_rows (G_rows base)
  have G_walk : ∀ base : Heap, FnOk P w K mg base CX0 5 f_walk _ ["loom", "ties"] (spWalk CL) := fun base => ok_walk F_walk T m_may b_may (G_may base) g_ways k_ways b_ways (G_ways base) m_notIn b_notIn (G_notIn base) m_pressed b_pressed (G_pressed base) g_places k_places b_places (G_places base) g_short k_short b_short (G_short base) m_path b_path (G_path base) g_rows k_rows b_rows (G_rows base)
  refine ⟨PySem.W.fnOf "answers" "answers" (defArgs sAns) (defBody sAns) (defScope sAns) .none kV_ans dc_ans pm_ans an_ans cd_ans ct_ans, fun s us hu => match us, hu with | [_], _ => .of_eq rfl, fun base _ _ => ?_⟩
  have D : Defs P w K mg base CL CR := {
    fN := f_num, fL := f_list, fB := f_begin, fA := f_add, fC := f_counts, fR := f_rows, fF := f_fewest, fP := f_press, fK := f_walk,
    dN := _, dL := _, dB := _, dA := _, dC := _, dR := _, dF := _, dP := _, dK := _,
    mN := m_num, mL := m_list, mB := m_begin, mA := m_add, mC := m_counts,
    gR := g_rows, kR := k_rows, gF := g_fewest, kF := k_fewest, gP := g_press, kP := k_press, gK := g_walk, kK := k_walk,
    bN := b_num, bL := b_list, bB := b_begin, bA := b_add, bC := b_counts, bR := b_rows, bF := b_fewest, bP := b_press, bK := b_walk,
    GN := G_num base, GL := G_list base, GB := G_begin base, GA := G_add base, GC := G_counts base, GR := G_rows base, GF := G_fewest base, GP := G_press base, GK := G_walk base }
  exact ok_ans F_ans T m_rinit (G_rinit base) b_rinit m_linit (G_linit base) b_linit m_atEnd (G_atEnd base) b_atEnd g_next k_next (ok_next F_next T D) b_next
end Tr
open PySem PySem.W PyProof.Rows
set_option maxRecDepth 100000 in
set_option maxHeartbeats 0 in
theorem PySem.Challenge.cw_treadles_s01_answers_holds : PySem.Challenge.rw_treadles_s01_answers.Holds := by
  w_on; k_headS; (case hw => exact ⟨[.list [.int 2]], by decide +kernel, by decide +kernel⟩)
  k_fillS
  refine L2.walk_specK (r := PySem.Challenge.rw_treadles_s01_answers) (k := 9) (CX := L2.CX0) (ps := ["calls"]) (sp := Tr.spAns1) (by decide +kernel) rfl rfl ⟨rfl, by decide, by decide⟩ (fun w h Y => PySem.W.kIn_of Y) ?F ?S (fun _ _ _ _ z => z)
  case F =>
    intro w mg fa h Y KX G hmg
    refine' Tr.all_mk KX G hmg ?a_L ?a_T ?a_O ?a_R ?a_ways ?l_ways ?c_ways ?k_ways ?a_longer ?l_longer ?c_longer ?k_longer ?a_lifted ?l_lifted ?c_lifted ?k_lifted ?a_linit ?i_linit ?l_linit ?c_linit ?k_linit ?a_begin ?i_begin ?l_begin ?c_begin ?k_begin ?a_add ?i_add ?l_add ?c_add ?k_add ?a_has ?i_has ?l_has ?c_has ?k_has ?a_may ?i_may ?l_may ?c_may ?k_may ?a_needed ?i_needed ?l_needed ?c_needed ?k_needed ?a_counts ?i_counts ?l_counts ?c_counts ?k_counts ?a_notIn ?i_notIn ?l_notIn ?c_notIn ?k_notIn ?a_pressed ?i_pressed ?l_pressed ?c_pressed ?k_pressed ?a_tinit ?i_tinit ?l_tinit ?c_tinit ?k_tinit ?a_withT ?i_withT ?l_withT ?c_withT ?k_withT ?a_notMade ?i_notMade ?l_notMade ?c_notMade ?k_notMade ?a_more ?i_more ?l_more ?c_more ?k_more ?a_least ?l_least ?c_least ?k_least ?a_larger ?l_larger ?c_larger ?k_larger ?a_doing ?l_doing ?c_doing ?k_doing ?a_oinit ?i_oinit ?l_oinit ?c_oinit ?k_oinit ?a_path ?i_path ?l_path ?c_path ?k_path ?a_short ?l_short ?c_short ?k_short ?a_onward ?l_onward ?c_onward ?k_onward ?a_gone ?l_gone ?c_gone ?k_gone ?a_places ?l_places ?c_places ?k_places ?a_rinit ?i_rinit ?l_rinit ?c_rinit ?k_rinit ?a_atEnd ?i_atEnd ?l_atEnd ?c_atEnd ?k_atEnd ?a_num ?i_num ?l_num ?c_num ?k_num ?a_list ?i_list ?l_list ?c_list ?k_list ?a_ans ?l_ans ?c_ans ?k_ans ?a_next ?l_next ?c_next ?k_next ?a_fewest ?l_fewest ?c_fewest ?k_fewest ?a_press ?l_press ?c_press ?k_press ?a_walk ?l_walk ?c_walk ?k_walk ?a_feet ?l_feet ?c_feet ?k_feet ?a_rows ?l_rows ?c_rows ?k_rows ?pg_L ?hd_L ?po_L ?sa_L ?mk_L ?kc_L ?pg_T ?hd_T ?po_T ?sa_T ?mk_T ?kc_T ?pg_O ?hd_O ?po_O ?sa_O ?mk_O ?kc_O ?pg_R ?hd_R ?po_R ?sa_R ?mk_R ?kc_R ?n_Shafts ?n_Picked ?n_Ties ?n_Made ?n_Dist ?n_Ways ?n_Foll ?n_Beyond ?n_Numbers ?n_Place ?g_MostS ?g_MostP ?g_MostT ?g_Out ?g_Many ?g_NotM ?g_Begins ?g_Picks ?g_Lifts ?g_Fewest ?g_Press ?g_Walk ?g_MostF ?g_WalkF ?z_len ?z_sorted ?z_set ?z_range ?z_min ?z_abs ?z_all ?z_sum ?z_dict ?z_enumerate ?z_reversed
    (case a_L => k_is)
    (case a_T => k_is)
    (case a_O => k_is)
    (case a_R => k_is)
    (case a_ways => k_is)
    (case l_ways => k_is)
    (case c_ways => k_is)
    (case k_ways => k_is)
    (case a_longer => k_is)
    (case l_longer => k_is)
    (case c_longer => k_is)
    (case k_longer => k_is)
    (case a_lifted => k_is)
    (case l_lifted => k_is)
    (case c_lifted => k_is)
    (case k_lifted => k_is)
    (case a_linit => k_is)
    (case i_linit => k_is)
    (case l_linit => k_is)
    (case c_linit => k_is)
    (case k_linit => k_is)
    (case a_begin => k_is)
    (case i_begin => k_is)
    (case l_begin => k_is)
    (case c_begin => k_is)
    (case k_begin => k_is)
    (case a_add => k_is)
    (case i_add => k_is)
    (case l_add => k_is)
    (case c_add => k_is)
    (case k_add => k_is)
    (case a_has => k_is)
    (case i_has => k_is)
    (case l_has => k_is)
    (case c_has => k_is)
    (case k_has => k_is)
    (case a_may => k_is)
    (case i_may => k_is)
    (case l_may => k_is)
    (case c_may => k_is)
    (case k_may => k_is)
    (case a_needed => k_is)
    (case i_needed => k_is)
    (case l_needed => k_is)
    (case c_needed => k_is)
    (case k_needed => k_is)
    (case a_counts => k_is)
    (case i_counts => k_is)
    (case l_counts => k_is)
    (case c_counts => k_is)
    (case k_counts => k_is)
    (case a_notIn => k_is)
    (case i_notIn => k_is)
    (case l_notIn => k_is)
    (case c_notIn => k_is)
    (case k_notIn => k_is)
    (case a_pressed => k_is)
    (case i_pressed => k_is)
    (case l_pressed => k_is)
    (case c_pressed => k_is)
    (case k_pressed => k_is)
    (case a_tinit => k_is)
    (case i_tinit => k_is)
    (case l_tinit => k_is)
    (case c_tinit => k_is)
    (case k_tinit => k_is)
    (case a_withT => k_is)
    (case i_withT => k_is)
    (case l_withT => k_is)
    (case c_withT => k_is)
    (case k_withT => k_is)
    (case a_notMade => k_is)
    (case i_notMade => k_is)
    (case l_notMade => k_is)
    (case c_notMade => k_is)
    (case k_notMade => k_is)
    (case a_more => k_is)
    (case i_more => k_is)
    (case l_more => k_is)
    (case c_more => k_is)
    (case k_more => k_is)
    (case a_least => k_is)
    (case l_least => k_is)
    (case c_least => k_is)
    (case k_least => k_is)
    (case a_larger => k_is)
    (case l_larger => k_is)
    (case c_larger => k_is)
    (case k_larger => k_is)
    (case a_doing => k_is)
    (case l_doing => k_is)
    (case c_doing => k_is)
    (case k_doing => k_is)
    (case a_oinit => k_is)
    (case i_oinit => k_is)
    (case l_oinit => k_is)
    (case c_oinit => k_is)
    (case k_oinit => k_is)
    (case a_path => k_is)
    (case i_path => k_is)
    (case l_path => k_is)
    (case c_path => k_is)
    (case k_path => k_is)
    (case a_short => k_is)
    (case l_short => k_is)
    (case c_short => k_is)
    (case k_short => k_is)
    (case a_onward => k_is)
    (case l_onward => k_is)
    (case c_onward => k_is)
    (case k_onward => k_is)
    (case a_gone => k_is)
    (case l_gone => k_is)
    (case c_gone => k_is)
    (case k_gone => k_is)
    (case a_places => k_is)
    (case l_places => k_is)
    (case c_places => k_is)
    (case k_places => k_is)
    (case a_rinit => k_is)
    (case i_rinit => k_is)
    (case l_rinit => k_is)
    (case c_rinit => k_is)
    (case k_rinit => k_is)
    (case a_atEnd => k_is)
    (case i_atEnd => k_is)
    (case l_atEnd => k_is)
    (case c_atEnd => k_is)
    (case k_atEnd => k_is)
    (case a_num => k_is)
    (case i_num => k_is)
    (case l_num => k_is)
    (case c_num => k_is)
    (case k_num => k_is)
    (case a_list => k_is)
    (case i_list => k_is)
    (case l_list => k_is)
    (case c_list => k_is)
    (case k_list => k_is)
    (case a_ans => k_is)
    (case l_ans => k_is)
    (case c_ans => k_is)
    (case k_ans => k_is)
    (case a_next => k_is)
    (case l_next => k_is)
    (case c_next => k_is)
    (case k_next => k_is)
    (case a_fewest => k_is)
    (case l_fewest => k_is)
    (case c_fewest => k_is)
    (case k_fewest => k_is)
    (case a_press => k_is)
    (case l_press => k_is)
    (case c_press => k_is)
    (case k_press => k_is)
    (case a_walk => k_is)
    (case l_walk => k_is)
    (case c_walk => k_is)
    (case k_walk => k_is)
    (case a_feet => k_is)
    (case l_feet => k_is)
    (case c_feet => k_is)
    (case k_feet => k_is)
    (case a_rows => k_is)
    (case l_rows => k_is)
    (case c_rows => k_is)
    (case k_rows => k_is)
    (case pg_L => k_is)
    (case hd_L => k_is)
    (case po_L => k_is)
    (case sa_L => k_is)
    (case mk_L => k_is)
    (case kc_L => k_is)
    (case pg_T => k_is)
    (case hd_T => k_is)
    (case po_T => k_is)
    (case sa_T => k_is)
    (case mk_T => k_is)
    (case kc_T => k_is)
    (case pg_O => k_is)
    (case hd_O => k_is)
    (case po_O => k_is)
    (case sa_O => k_is)
    (case mk_O => k_is)
    (case kc_O => k_is)
    (case pg_R => k_is)
    (case hd_R => k_is)
    (case po_R => k_is)
    (case sa_R => k_is)
    (case mk_R => k_is)
    (case kc_R => k_is)
    (case n_Shafts => k_is)
    (case n_Picked => k_is)
    (case n_Ties => k_is)
    (case n_Made => k_is)
    (case n_Dist => k_is)
    (case n_Ways => k_is)
    (case n_Foll => k_is)
    (case n_Beyond => k_is)
    (case n_Numbers => k_is)
    (case n_Place => k_is)
    (case g_MostS => k_is)
    (case g_MostP => k_is)
    (case g_MostT => k_is)
    (case g_Out => k_is)
    (case g_Many => k_is)
    (case g_NotM => k_is)
    (case g_Begins => k_is)
    (case g_Picks => k_is)
    (case g_Lifts => k_is)
    (case g_Fewest => k_is)
    (case g_Press => k_is)
    (case g_Walk => k_is)
    (case g_MostF => k_is)
    (case g_WalkF => k_is)
    (case z_len => k_is)
    (case z_sorted => k_is)
    (case z_set => k_is)
    (case z_range => k_is)
    (case z_min => k_is)
    (case z_abs => k_is)
    (case z_all => k_is)
    (case z_sum => k_is)
    (case z_dict => k_is)
    (case z_enumerate => k_is)
    (case z_reversed => k_is)
  case S =>
    intro K H xs a hO hwi hask hx
    cases hx with
    | cons h1 h2 =>
      cases h2
      cases h1 with
      | lst hs ha =>
        have e := L2.ints_dw a.1 _ ha
        subst e
        have q : ((Codec.inLen 0 30000 a.1 && a.1.all (Codec.inInt 0 4294967295)) && true) = true := hwi
        rw [Bool.and_eq_true, Bool.and_eq_true] at q
        obtain ⟨cs, fine, el, _, _, ea, few⟩ := Tr.asked_is (l := a.1) hask
        refine ⟨_, a.1, cs, rfl, hs, (Codec.inNat_iff.mp q.1.1).2, el, fine, few, fun H' p hp => ?_⟩
        have ee : PySw87.answers a.1 = Tr.told Sw87.init cs := ea
        rw [← ee] at hp
        exact .lst (L2.SqL.of hp) (L2.dw_ints _)
