import PyProof.Rows.All
import Wide.All
import OpenK.AllK
import Wide.FinOn
import Open.SpecLaws
import KE.OsGo
import HandS.ForSpec
import HandS.ForMost
import HandS.More
import HandS.Codes
import HandS.Conv
import HandS.SortKw
import HandS.Nested
import KE.DataCmp
import KE.SortKeyHeap
import KE.KLam
import HandS.Deep
import KE.KNestM
import PySem.Challenge.RW_indexfile_s01_answers
set_option Elab.async false
set_option linter.all false
set_option maxRecDepth 100000
set_option maxHeartbeats 4000000
section
namespace Fx
open Ih

/-! ### rules: stretches -/
def cov (r : Rule) (c : Nat) : Bool := decide (r.from_ ≤ c) && decide (c ≤ r.to_)
theorem cov_iff {r : Rule} {c : Nat} : cov r c = true ↔ r.from_ ≤ c ∧ c ≤ r.to_ := by
  unfold cov; simp
def firstIx (l : List Rule) (c : Nat) : Option Nat := l.findIdx? fun r => cov r c
theorem firstIx_rule (l : List Rule) (c : Nat) : ruleIn l c = (firstIx l c).bind fun i => l[i]? := by
  unfold ruleIn firstIx
  show l.find? (fun r => cov r c) = _
  induction l with
  | nil => rfl
  | cons a l ih =>
    rw [List.find?_cons, List.findIdx?_cons]
    cases h : cov a c with
    | true => simp
    | false =>
      rw [ih]
      simp only [Bool.false_eq_true, if_false]
      cases l.findIdx? fun r => cov r c <;> simp
theorem firstIx_some {l : List Rule} {c i : Nat} (h : firstIx l c = some i) : ∃ r, l[i]? = some r ∧ cov r c = true := by
  unfold firstIx at h
  rw [List.findIdx?_eq_some_iff_getElem] at h
  obtain ⟨h1, h2, _⟩ := h
  exact ⟨l[i], by simp [h1], h2⟩
theorem firstIx_snoc (l : List Rule) (r : Rule) (c : Nat) : firstIx (l ++ [r]) c = (match firstIx l c with
    | some i => some i
    | none => if cov r c = true then some l.length else none) := by
  unfold firstIx
  rw [List.findIdx?_append]
  cases h : l.findIdx? fun r => cov r c with
  | some i => simp
  | none => 
    rw [List.findIdx?_cons]
    cases h2 : cov r c <;> simp

structure Starts (rules : List Rule) (starts : List Nat) : Prop where
  asc : starts.Pairwise (· < ·)
  zero : starts[0]? = some 0
  ends : ∀ r ∈ rules, r.from_ ≤ r.to_ → r.from_ ∈ starts ∧ r.to_ + 1 ∈ starts
  last : ∀ p, p + 1 = starts.length → ∀ s, starts[p]? = some s → ∀ r ∈ rules, cov r s = false
theorem asc_at {l : List Nat} (h : l.Pairwise (· < ·)) {i j a b : Nat} (hi : l[i]? = some a) (hj : l[j]? = some b) : (i < j ↔ a < b) ∧ (i = j ↔ a = b) := by
  obtain ⟨hi1, rfl⟩ := List.getElem?_eq_some_iff.mp hi
  obtain ⟨hj1, rfl⟩ := List.getElem?_eq_some_iff.mp hj
  have key := List.pairwise_iff_getElem.mp h
  rcases Nat.lt_trichotomy i j with c | c | c
  · have := key i j hi1 hj1 c
    exact ⟨⟨fun _ => this, fun _ => c⟩, ⟨fun e => by omega, fun e => by omega⟩⟩
  · subst c
    exact ⟨⟨fun e => by omega, fun e => by omega⟩, ⟨fun _ => rfl, fun _ => rfl⟩⟩
  · have := key j i hj1 hi1 c
    exact ⟨⟨fun e => by omega, fun e => by omega⟩, ⟨fun e => by omega, fun e => by omega⟩⟩
/-- what covers a stretch's start covers all of the stretch -/
theorem cov_stretch {starts : List Nat} (asc : starts.Pairwise (· < ·)) {r : Rule} (he : r.from_ ≤ r.to_ → r.from_ ∈ starts ∧ r.to_ + 1 ∈ starts) {p s c : Nat} (hp : starts[p]? = some s) (h1 : s ≤ c)
    (h2 : ∀ s', starts[p + 1]? = some s' → c < s') : cov r s = cov r c := by
  have key : cov r s = true ↔ cov r c = true := by
    rw [cov_iff, cov_iff]
    by_cases hft : r.from_ ≤ r.to_
    · obtain ⟨m1, m2⟩ := he hft
      obtain ⟨i, hi⟩ := List.getElem?_of_mem m1
      obtain ⟨j, hj⟩ := List.getElem?_of_mem m2
      obtain ⟨a1, a2⟩ := asc_at asc hi hp
      obtain ⟨b1, b2⟩ := asc_at asc hp hj
      have nx : ∀ k x, starts[k]? = some x → p < k → c < x := fun k x hk hlt => by
        have hl : k < starts.length := (List.getElem?_eq_some_iff.mp hk).1
        have hp1 : p + 1 < starts.length ∨ p + 1 = starts.length := by omega
        rcases hp1 with hp1 | hp1
        · have e1 : starts[p + 1]? = some starts[p + 1] := by simp [hp1]
          have h3 := h2 _ e1
          by_cases hk2 : p + 1 = k
          · subst hk2
            rw [e1] at hk
            cases hk
            exact h3
          · have := (asc_at asc e1 hk).1.mp (by omega)
            omega
        · omega
      constructor
      · rintro ⟨x1, x2⟩
        refine ⟨by omega, ?_⟩
        have := nx j _ hj (b1.mpr (by omega))
        omega
      · rintro ⟨x1, x2⟩
        refine ⟨?_, by omega⟩
        rcases Nat.lt_or_ge p i with q | q
        · have := nx i _ hi q
          omega
        · rcases Nat.lt_or_ge i p with q2 | q2
          · have := a1.mp q2
            omega
          · have : i = p := by omega
            have := a2.mp this
            omega
    · constructor <;> intro ⟨x1, x2⟩ <;> omega
  cases h : cov r s <;> cases h' : cov r c <;> simp_all
theorem firstIx_stretch {rules : List Rule} {starts : List Nat} (S : Starts rules starts) {p s c : Nat} (hp : starts[p]? = some s) (h1 : s ≤ c)
    (h2 : ∀ s', starts[p + 1]? = some s' → c < s') : firstIx rules s = firstIx rules c := by
  have aux : ∀ l : List Rule, (∀ r ∈ l, r ∈ rules) → firstIx l s = firstIx l c := by
    intro l
    induction l with
    | nil => intro _; rfl
    | cons a l ih =>
      intro h
      have e := cov_stretch S.asc (r := a) (S.ends a (h a List.mem_cons_self)) hp h1 h2
      have e2 := ih fun r hr => h r (List.mem_cons_of_mem _ hr)
      unfold firstIx at e2 ⊢
      rw [List.findIdx?_cons, List.findIdx?_cons, e, e2]
  exact aux rules fun _ h => h

/-! ### painting -/
/-- places a to b - 1 that have nobody yet are j's -/
def paint (own : List (Option Nat)) (a b j : Nat) : List (Option Nat) := own.mapIdx fun q o => if a ≤ q ∧ q < b ∧ o = none then some j else o
theorem paint_len (own : List (Option Nat)) (a b j : Nat) : (paint own a b j).length = own.length := by simp [paint]
theorem paint_at {own : List (Option Nat)} {a b j q : Nat} : (paint own a b j)[q]? = own[q]?.map fun o => if a ≤ q ∧ q < b ∧ o = none then some j else o := by
  unfold paint
  rw [List.getElem?_mapIdx]
theorem paint_nil {own : List (Option Nat)} {a b j : Nat} (h : b ≤ a) : paint own a b j = own := by
  apply List.ext_getElem?
  intro q
  rw [paint_at]
  cases h2 : own[q]? with
  | none => rfl
  | some o =>
    have : ¬ (a ≤ q ∧ q < b ∧ o = none) := by intro ⟨x, y, _⟩; omega
    simp [this]
/-- the union of stretches: who's painted points on -/
structure UF (own : List (Option Nat)) (free : List Nat) : Prop where
  len : free.length = own.length
  hi : ∀ p f : Nat, free[p]? = some f → p ≤ f ∧ f < own.length
  gap : ∀ p f q : Nat, free[p]? = some f → p ≤ q → q < f → ∃ i, own[q]? = some (some i)
  no : ∀ p : Nat, (∃ i, own[p]? = some (some i)) → free[p]? ≠ some p
theorem UF.self {own : List (Option Nat)} {free : List Nat} (u : UF own free) {p : Nat} (h : free[p]? = some p) : own[p]? = some none := by
  have hl : p < own.length := by rw [← u.len]; exact (List.getElem?_eq_some_iff.mp h).1
  have e : own[p]? = some own[p] := by simp [hl]
  cases h2 : own[p] with
  | none => rw [e, h2]
  | some i => exact absurd h (u.no p ⟨i, by rw [e, h2]⟩)
/-- the way is shortened -/
theorem UF.short {own : List (Option Nat)} {free : List Nat} (u : UF own free) {p f g : Nat} (hp : free[p]? = some f) (hf : free[f]? = some g) (hne : f ≠ p) : UF own (free.set p g) := by
  have hpl : p < free.length := (List.getElem?_eq_some_iff.mp hp).1
  have h1 := u.hi p f hp
  have h2 := u.hi f g hf
  have at_ : ∀ q x, (free.set p g)[q]? = some x → (q = p ∧ x = g) ∨ (q ≠ p ∧ free[q]? = some x) := fun q x h => by
    by_cases hq : q = p
    · subst hq
      rw [List.getElem?_set_self hpl] at h
      cases h
      exact .inl ⟨rfl, rfl⟩
    · rw [List.getElem?_set_ne (Ne.symm hq)] at h
      exact .inr ⟨hq, h⟩
  refine ⟨by rw [List.length_set]; exact u.len, fun q x h => ?_, fun q x y h h3 h4 => ?_, fun q h h3 => ?_⟩
  · rcases at_ q x h with ⟨rfl, rfl⟩ | ⟨_, h⟩
    · exact ⟨by omega, h2.2⟩
    · exact u.hi q x h
  · rcases at_ q x h with ⟨rfl, rfl⟩ | ⟨_, h⟩
    · by_cases h5 : y < f
      · exact u.gap q f y hp h3 h5
      · exact u.gap f x y hf (by omega) h4
    · exact u.gap q x y h h3 h4
  · rcases at_ q q h3 with ⟨rfl, rfl⟩ | ⟨_, h5⟩
    · have : q ≠ f := Ne.symm hne
      omega
    · exact u.no q h h5
/-- a place is painted -/
theorem UF.paint1 {own : List (Option Nat)} {free : List Nat} (u : UF own free) {p j : Nat} (hp : p + 1 < own.length) : UF (own.set p (some j)) (free.set p (p + 1)) := by
  have hpl : p < free.length := by rw [u.len]; omega
  have at_ : ∀ q x, (free.set p (p + 1))[q]? = some x → (q = p ∧ x = p + 1) ∨ (q ≠ p ∧ free[q]? = some x) := fun q x h => by
    by_cases hq : q = p
    · subst hq
      rw [List.getElem?_set_self hpl] at h
      cases h
      exact .inl ⟨rfl, rfl⟩
    · rw [List.getElem?_set_ne (Ne.symm hq)] at h
      exact .inr ⟨hq, h⟩
  have pt : ∀ q, (∃ i, own[q]? = some (some i)) → ∃ i, (own.set p (some j))[q]? = some (some i) := fun q h0 => by
    obtain ⟨i, h⟩ := h0
    by_cases hq : q = p
    · subst hq
      exact ⟨j, List.getElem?_set_self (by omega)⟩
    · exact ⟨i, by rw [List.getElem?_set_ne (Ne.symm hq)]; exact h⟩
  refine ⟨by rw [List.length_set, List.length_set]; exact u.len, fun q x h => ?_, fun q x y h h3 h4 => ?_, fun q h h3 => ?_⟩
  · rw [List.length_set]
    rcases at_ q x h with ⟨rfl, rfl⟩ | ⟨_, h⟩
    · exact ⟨by omega, hp⟩
    · exact u.hi q x h
  · rcases at_ q x h with ⟨rfl, rfl⟩ | ⟨_, h⟩
    · have : y = q := by omega
      subst this
      exact ⟨j, List.getElem?_set_self (by omega)⟩
    · exact pt y (u.gap q x y h h3 h4)
  · rcases at_ q q h3 with ⟨rfl, h5⟩ | ⟨h4, h5⟩
    · omega
    · rw [List.getElem?_set_ne (Ne.symm h4)] at h
      exact u.no q h h5
theorem paint_step {own0 : List (Option Nat)} {a p j : Nat} (hap : a ≤ p) (hn : (paint own0 a p j)[p]? = some none) : (paint own0 a p j).set p (some j) = paint own0 a (p + 1) j := by
  have hpl : p < (paint own0 a p j).length := (List.getElem?_eq_some_iff.mp hn).1
  have hpl0 : p < own0.length := by rw [paint_len] at hpl; exact hpl
  apply List.ext_getElem?
  intro q
  by_cases hq : q = p
  · subst hq
    rw [List.getElem?_set_self hpl, paint_at]
    rw [paint_at] at hn
    have e : own0[q]? = some own0[q] := by simp [hpl0]
    rw [e] at hn ⊢
    have c1 : ¬ (a ≤ q ∧ q < q ∧ own0[q] = none) := by intro ⟨_, y, _⟩; omega
    simp only [Option.map_some, if_neg c1] at hn
    have hn' : own0[q] = none := Option.some.inj hn
    simp [hn', hap]
  · rw [List.getElem?_set_ne (Ne.symm hq), paint_at, paint_at]
    cases own0[q]? with
    | none => rfl
    | some o =>
      have : (a ≤ q ∧ q < p ∧ o = none) ↔ (a ≤ q ∧ q < p + 1 ∧ o = none) := by
        constructor
        · rintro ⟨x, y, z⟩; exact ⟨x, by omega, z⟩
        · rintro ⟨x, y, z⟩; exact ⟨x, by omega, z⟩
      simp only [Option.map_some, this]
/-- places that are all painted may be counted in -/
theorem paint_more {own0 : List (Option Nat)} {a p p' j : Nat} (hpp : p ≤ p') (h : ∀ q, p ≤ q → q < p' → ∃ i, (paint own0 a p j)[q]? = some (some i)) : paint own0 a p' j = paint own0 a p j := by
  apply List.ext_getElem?
  intro q
  rw [paint_at, paint_at]
  cases e : own0[q]? with
  | none => rfl
  | some o =>
    simp only [Option.map_some]
    by_cases h1 : p ≤ q ∧ q < p'
    · obtain ⟨i, hi⟩ := h q h1.1 h1.2
      rw [paint_at, e] at hi
      have c1 : ¬ (a ≤ q ∧ q < p ∧ o = none) := by intro ⟨_, y, _⟩; omega
      simp only [Option.map_some, if_neg c1] at hi
      have : o = some i := Option.some.inj hi
      subst this
      simp
    · have : (a ≤ q ∧ q < p' ∧ o = none) ↔ (a ≤ q ∧ q < p ∧ o = none) := by
        constructor
        · rintro ⟨x, y, z⟩; exact ⟨x, by omega, z⟩
        · rintro ⟨x, y, z⟩; exact ⟨x, by omega, z⟩
      simp only [this]
/-- the owners when the first rules are gone through -/
def ownersOf (rules : List Rule) (starts : List Nat) : List (Option Nat) := starts.map (firstIx rules)
theorem owners_snoc {rules : List Rule} {starts : List Nat} (asc : starts.Pairwise (· < ·)) {r : Rule} {a b : Nat} (ha : starts[a]? = some r.from_) (hb : starts[b]? = some (r.to_ + 1)) :
    ownersOf (rules ++ [r]) starts = paint (ownersOf rules starts) a b rules.length := by
  apply List.ext_getElem?
  intro q
  rw [paint_at]
  unfold ownersOf
  rw [List.getElem?_map, List.getElem?_map]
  cases e : starts[q]? with
  | none => rfl
  | some s =>
    simp only [Option.map_some]
    rw [firstIx_snoc]
    obtain ⟨a1, a2⟩ := asc_at asc e ha
    obtain ⟨b1, b2⟩ := asc_at asc e hb
    have hc : cov r s = true ↔ a ≤ q ∧ q < b := by
      rw [cov_iff]
      constructor
      · rintro ⟨x, y⟩
        refine ⟨?_, b1.mpr (by omega)⟩
        rcases Nat.lt_or_ge q a with z | z
        · have := a1.mp z
          omega
        · exact z
      · rintro ⟨x, y⟩
        have := b1.mp y
        refine ⟨?_, by omega⟩
        rcases Nat.lt_or_ge s r.from_ with z | z
        · have := a1.mpr z
          omega
        · exact z
    cases h : firstIx rules s with
    | some i => simp
    | none =>
      by_cases h2 : cov r s = true
      · have h3 := hc.mp h2
        simp [h2, h3]
      · have h3 : ¬ (a ≤ q ∧ q < b) := fun z => h2 (hc.mpr z)
        have h4 : ¬ (a ≤ q ∧ q < b ∧ (none : Option Nat) = none) := fun z => h3 ⟨z.1, z.2.1⟩
        show some (if cov r s = true then some rules.length else none) = some (if a ≤ q ∧ q < b ∧ (none : Option Nat) = none then some rules.length else none)
        rw [if_neg h2, if_neg h4]
theorem owners_same {rules : List Rule} {starts : List Nat} {r : Rule} (h : ¬ r.from_ ≤ r.to_) : ownersOf (rules ++ [r]) starts = ownersOf rules starts := by
  unfold ownersOf
  apply List.map_congr_left
  intro s _
  rw [firstIx_snoc]
  have : cov r s = false := by
    cases e : cov r s with
    | false => rfl
    | true => rw [cov_iff] at e; omega
  rw [this]
  cases firstIx rules s <;> simp
theorem owners_nil (starts : List Nat) : ownersOf [] starts = starts.map fun _ => none := rfl

/-! ### the sorted keys of the starts' dict -/
theorem strict_of {l : List Int} (h1 : l.Pairwise (· ≤ ·)) (h2 : l.Nodup) : l.Pairwise (· < ·) := by
  induction l with
  | nil => exact List.Pairwise.nil
  | cons a l ih =>
    obtain ⟨x1, x2⟩ := List.pairwise_cons.mp h1
    obtain ⟨y1, y2⟩ := List.nodup_cons.mp h2
    refine List.pairwise_cons.mpr ⟨fun b hb => ?_, ih x2 y2⟩
    have h3 := x1 b hb
    have h4 : a ≠ b := fun e => y1 (e ▸ hb)
    omega
end Fx
end

section
namespace Fx
open Ih

/-! ### words -/
def pushW (g : Nat → Bool) (ws : List Text) (c : Nat) : List Text := if g c = true then ws ++ [[]] else ws.dropLast ++ [ws.getLast?.getD [] ++ [c]]
theorem parted_ne (g : Nat → Bool) : ∀ t : Text, parted g t ≠ []
  | [] => by simp [parted]
  | c :: r => by
    unfold parted
    split
    · simp
    · cases h : parted g r <;> simp
theorem pushW_cons {g : Nat → Bool} {w : Text} {ws : List Text} {c : Nat} (h : ws ≠ []) : pushW g (w :: ws) c = w :: pushW g ws c := by
  unfold pushW
  split
  · rfl
  · cases ws with
    | nil => exact absurd rfl h
    | cons a l => simp [List.dropLast, List.getLast?_cons_cons]
theorem parted_snoc (g : Nat → Bool) (c : Nat) : ∀ t : Text, parted g (t ++ [c]) = pushW g (parted g t) c
  | [] => by
    show parted g [c] = pushW g [[]] c
    unfold parted pushW
    split <;> simp [parted]
  | d :: r => by
    have ih := parted_snoc g c r
    show parted g (d :: (r ++ [c])) = pushW g (parted g (d :: r)) c
    by_cases hd : g d = true
    · have e1 : parted g (d :: (r ++ [c])) = [] :: parted g (r ++ [c]) := by simp [parted, hd]
      have e2 : parted g (d :: r) = [] :: parted g r := by simp [parted, hd]
      rw [e1, e2, ih, pushW_cons (parted_ne g r)]
    · have key : ∀ (x : Text) (w : Text) (l : List Text), parted g x = w :: l → parted g (d :: x) = (d :: w) :: l := fun x w l h => by simp [parted, hd, h]
      cases h : parted g r with
      | nil => exact absurd h (parted_ne g r)
      | cons w l =>
        rw [key r w l h]
        rw [h] at ih
        cases l with
        | nil =>
          by_cases hc : g c = true
          · have e3 : pushW g [w] c = w :: [[]] := by simp [pushW, hc]
            rw [e3] at ih
            rw [key _ _ _ ih]
            simp [pushW, hc]
          · have e3 : pushW g [w] c = [w ++ [c]] := by simp [pushW, hc]
            rw [e3] at ih
            rw [key _ _ _ ih]
            simp [pushW, hc]
        | cons a l =>
          rw [pushW_cons (List.cons_ne_nil a l)] at ih
          rw [key _ _ _ ih, pushW_cons (List.cons_ne_nil a l)]

/-! ### elements -/
/-- the rows of elements done, the number that's open -/
structure US where
  u : List Elem
  p : Option Nat
def US.all (s : US) : List Elem := s.u ++ flush s.p
def US.step (s : US) : Item → US
  | .digit v => ⟨s.u, some (10 * s.p.getD 0 + v)⟩
  | .sign w => ⟨s.all ++ [(0, w)], none⟩
  | .letter w _ _ => ⟨s.all ++ [(2, w)], none⟩
theorem US.step_eq (s : US) (it : Item) (r : List Item) : s.u ++ elemsFrom s.p (it :: r) = (s.step it).u ++ elemsFrom (s.step it).p r := by
  cases it with
  | letter w a m =>
    show s.u ++ elemsFrom s.p (.letter w a m :: r) = (s.all ++ [(2, w)]) ++ elemsFrom none r
    rw [elemsFrom, US.all]
    simp
  | digit v =>
    show s.u ++ elemsFrom s.p (.digit v :: r) = s.u ++ elemsFrom (some (10 * s.p.getD 0 + v)) r
    rw [elemsFrom]
  | sign w =>
    show s.u ++ elemsFrom s.p (.sign w :: r) = (s.all ++ [(0, w)]) ++ elemsFrom none r
    rw [elemsFrom, US.all]
    simp
def unitsSt (its : List Item) : US := its.foldl US.step ⟨[], none⟩
theorem units_fold : ∀ (its : List Item) (s : US), s.u ++ elemsFrom s.p its = (its.foldl US.step s).all
  | [], s => by rw [elemsFrom]; rfl
  | it :: r, s => by
    rw [s.step_eq it r, units_fold r]
    rfl
theorem units_eq (its : List Item) : elemsFrom none its = (unitsSt its).all := by
  have h := units_fold its ⟨[], none⟩
  rw [List.nil_append] at h
  exact h
theorem units_snoc (its : List Item) (it : Item) : unitsSt (its ++ [it]) = (unitsSt its).step it := by
  unfold unitsSt
  rw [List.foldl_append]
  rfl
theorem units_len_step (s : US) (it : Item) : (s.step it).all ≠ [] := by
  cases it <;> simp [US.step, US.all, flush]
theorem units_nil_iff (its : List Item) : elemsFrom none its = [] ↔ its = [] := by
  constructor
  · intro h
    rw [units_eq] at h
    rcases List.eq_nil_or_concat its with e | ⟨l, x, e⟩
    · exact e
    · have e2 : its = l ++ [x] := by rw [e]; simp
      rw [e2, units_snoc] at h
      exact absurd h (units_len_step _ _)
  · rintro rfl
    rfl
def isDigit : Item → Bool
  | .digit _ => true
  | _ => false
theorem step_in (s : US) (it : Item) : (s.step it).p.isSome = isDigit it := by cases it <;> rfl
theorem units_len (its : List Item) : (unitsSt its).all.length ≤ its.length := by
  have aux : ∀ (its : List Item) (s : US), (its.foldl US.step s).all.length ≤ s.all.length + its.length := by
    intro its
    induction its with
    | nil => intro s; simp
    | cons it r ih =>
      intro s
      rw [List.foldl_cons]
      refine Nat.le_trans (ih _) ?_
      rw [List.length_cons]
      have : (s.step it).all.length ≤ s.all.length + 1 := by
        cases it with
        | digit v => cases hp : s.p <;> simp [US.step, US.all, flush, hp]
        | sign w => simp only [US.step, US.all, flush, List.length_append, List.length_cons, List.length_nil]; omega
        | letter w a m => simp only [US.step, US.all, flush, List.length_append, List.length_cons, List.length_nil]; omega
      omega
  have := aux its ⟨[], none⟩
  simpa [unitsSt, US.all, flush] using this

/-! ### orders -/
structure OrdT {α : Type} (f : α → α → Ordering) : Prop where
  sw : ∀ a b, f b a = (f a b).swap
  eq : ∀ a b, f a b = .eq → a = b
  tr : ∀ a b c, f a b ≠ .gt → f b c ≠ .gt → f a c ≠ .gt
theorem OrdT.rfl {α : Type} {f : α → α → Ordering} (O : OrdT f) (a : α) : f a a = .eq := by
  have h := O.sw a a
  cases e : f a a <;> simp_all
theorem OrdT.lt_trans {α : Type} {f : α → α → Ordering} (O : OrdT f) {a b c : α} (h1 : f a b = .lt) (h2 : f b c ≠ .gt) : f a c = .lt := by
  have h3 := O.tr a b c (by rw [h1]; decide) h2
  cases e : f a c with
  | lt => rfl
  | gt => exact absurd e h3
  | eq =>
    have := O.eq a c e
    subst this
    have h4 := O.sw a b
    rw [h1] at h4
    exact absurd h4 h2
theorem OrdT.trans_lt {α : Type} {f : α → α → Ordering} (O : OrdT f) {a b c : α} (h1 : f a b ≠ .gt) (h2 : f b c = .lt) : f a c = .lt := by
  have h3 := O.tr a b c h1 (by rw [h2]; decide)
  cases e : f a c with
  | lt => rfl
  | gt => exact absurd e h3
  | eq =>
    have := O.eq a c e
    subst this
    have h4 := O.sw a b
    rw [h4] at h2
    cases q : f a b <;> simp_all
theorem nats_lt {a b : Nat} : nats a b = .lt ↔ a < b := by unfold nats; split <;> (try split) <;> simp_all <;> omega
theorem nats_gt {a b : Nat} : nats a b = .gt ↔ b < a := by unfold nats; split <;> (try split) <;> simp_all <;> omega
theorem nats_eq {a b : Nat} : nats a b = .eq ↔ a = b := by unfold nats; split <;> (try split) <;> simp_all <;> omega
theorem ordT_nats : OrdT nats := by
  refine ⟨fun a b => ?_, fun a b h => nats_eq.mp h, fun a b c h1 h2 => ?_⟩
  · rcases Nat.lt_trichotomy a b with h | h | h
    · rw [nats_lt.mpr h, nats_gt.mpr h]; rfl
    · rw [nats_eq.mpr h, nats_eq.mpr h.symm]; rfl
    · rw [nats_gt.mpr h, nats_lt.mpr h]; rfl
  · rw [Ne, nats_gt] at h1 h2 ⊢
    omega
theorem ordT_elem : OrdT elem := by
  have key : ∀ a b : Elem, elem a b = (nats a.1 b.1).then (nats a.2 b.2) := fun a b => by
    unfold elem
    cases nats a.1 b.1 <;> rfl
  refine ⟨fun a b => ?_, fun a b h => ?_, fun a b c h1 h2 => ?_⟩
  · rw [key, key, ordT_nats.sw a.1 b.1, ordT_nats.sw a.2 b.2]
    cases nats a.1 b.1 <;> rfl
  · rw [key] at h
    cases e : nats a.1 b.1 with
    | lt => rw [e] at h; cases h
    | gt => rw [e] at h; cases h
    | eq =>
      rw [e] at h
      exact Prod.ext (nats_eq.mp e) (nats_eq.mp h)
  · rw [key] at h1 h2 ⊢
    have g : ∀ x y : Elem, (nats x.1 y.1).then (nats x.2 y.2) ≠ .gt ↔ (x.1 < y.1 ∨ (x.1 = y.1 ∧ x.2 ≤ y.2)) := fun x y => by
      rcases Nat.lt_trichotomy x.1 y.1 with h | h | h
      · rw [nats_lt.mpr h]
        exact ⟨fun _ => .inl h, fun _ => by simp⟩
      · rw [nats_eq.mpr h]
        show nats x.2 y.2 ≠ .gt ↔ _
        rw [Ne, nats_gt]
        constructor
        · intro q; exact .inr ⟨h, by omega⟩
        · rintro (q | q) <;> omega
      · rw [nats_gt.mpr h]
        constructor
        · intro q; exact absurd (show Ordering.gt = Ordering.gt from Eq.refl _) q
        · rintro (q | q) <;> omega
    rw [g] at h1 h2 ⊢
    omega
theorem rows_cons {α : Type} (f : α → α → Ordering) (a b : α) (l m : List α) : rows f (a :: l) (b :: m) = (f a b).then (rows f l m) := by
  rw [rows]
  cases f a b <;> rfl
theorem ordT_rows {α : Type} {f : α → α → Ordering} (O : OrdT f) : OrdT (rows f) := by
  refine ⟨?_, ?_, ?_⟩
  · intro a
    induction a with
    | nil => intro b; cases b <;> rfl
    | cons x l ih =>
      intro b
      cases b with
      | nil => rfl
      | cons y m =>
        rw [rows_cons, rows_cons, O.sw x y, ih m]
        cases f x y <;> rfl
  · intro a
    induction a with
    | nil => intro b h; cases b with
      | nil => rfl
      | cons y m => cases h
    | cons x l ih =>
      intro b h
      cases b with
      | nil => cases h
      | cons y m =>
        rw [rows_cons] at h
        cases e : f x y with
        | lt => rw [e] at h; cases h
        | gt => rw [e] at h; cases h
        | eq =>
          rw [e] at h
          rw [O.eq x y e, ih m h]
  · intro a
    induction a with
    | nil => intro b c _ _; cases c <;> simp [rows]
    | cons x l ih =>
      intro b c h1 h2
      cases b with
      | nil => exact absurd (show rows f (x :: l) [] = .gt from by rfl) h1
      | cons y m =>
        cases c with
        | nil => exact absurd (show rows f (y :: m) [] = .gt from by rfl) h2
        | cons z n =>
          rw [rows_cons] at h1 h2 ⊢
          cases e1 : f x y with
          | gt => rw [e1] at h1; exact absurd (by rfl) h1
          | lt =>
            have e2 : f y z ≠ .gt := fun e => by rw [e] at h2; exact h2 (by rfl)
            rw [O.lt_trans e1 e2]
            simp [Ordering.then]
          | eq =>
            have := O.eq x y e1
            subst this
            cases e2 : f x z with
            | lt => simp [Ordering.then]
            | gt => rw [e2] at h2; exact absurd (by rfl) h2
            | eq =>
              rw [e1] at h1
              rw [e2] at h2
              exact ih m n h1 h2

/-! ### what begins as a question stands in one stretch -/
theorem prefix_ge {α : Type} [BEq α] [LawfulBEq α] {f : α → α → Ordering} (O : OrdT f) : ∀ {q a : List α}, q.isPrefixOf a = true → rows f a q ≠ .lt
  | [], a, _ => by cases a <;> simp [rows]
  | x :: q, [], h => by simp [List.isPrefixOf] at h
  | x :: q, y :: a, h => by
    simp only [List.isPrefixOf, Bool.and_eq_true, beq_iff_eq] at h
    obtain ⟨rfl, h⟩ := h
    rw [rows_cons, O.rfl]
    exact prefix_ge O h
theorem prefix_mid {α : Type} [BEq α] [LawfulBEq α] {f : α → α → Ordering} (O : OrdT f) : ∀ {q t t' : List α}, rows f t q ≠ .lt → rows f t t' ≠ .gt → q.isPrefixOf t' = true → q.isPrefixOf t = true
  | [], t, _, _, _, _ => by simp [List.isPrefixOf]
  | x :: q, [], _, h, _, _ => absurd (show rows f [] (x :: q) = .lt from rfl) h
  | x :: q, y :: t, [], _, _, h3 => by simp [List.isPrefixOf] at h3
  | x :: q, y :: t, z :: t', h1, h2, h3 => by
    simp only [List.isPrefixOf, Bool.and_eq_true, beq_iff_eq] at h3 ⊢
    obtain ⟨rfl, h3⟩ := h3
    rw [rows_cons] at h1 h2
    cases e : f y x with
    | lt => rw [e] at h1; exact absurd rfl h1
    | gt => rw [e] at h2; exact absurd rfl h2
    | eq =>
      rw [e] at h1 h2
      exact ⟨(O.eq y x e).symm, prefix_mid O h1 h2 h3⟩
abbrev R1 : List Elem → List Elem → Ordering := rows elem
theorem ordR1 : OrdT R1 := ordT_rows ordT_elem
theorem begun_ge : ∀ {q a : List (List Elem)}, begun q a = true → rows R1 a q ≠ .lt
  | [], a, _ => by cases a <;> simp [rows]
  | [w], [], h => by simp [begun] at h
  | [w], v :: a, h => by
    rw [begun] at h
    rw [rows_cons]
    have h2 := prefix_ge ordT_elem h
    cases e : R1 v w with
    | lt => exact absurd e h2
    | gt => simp [Ordering.then]
    | eq => cases a <;> simp [Ordering.then, rows]
  | w :: x :: l, [], h => by simp [begun] at h
  | w :: x :: l, v :: m, h => by
    rw [begun.eq_3 _ _ _ _ (by simp)] at h
    simp only [Bool.and_eq_true, beq_iff_eq] at h
    obtain ⟨rfl, h⟩ := h
    rw [rows_cons, ordR1.rfl]
    exact begun_ge h
theorem begun_mid : ∀ {q t t' : List (List Elem)}, rows R1 t q ≠ .lt → rows R1 t t' ≠ .gt → begun q t' = true → begun q t = true
  | [], t, _, _, _, _ => by rw [begun]
  | w :: l, [], _, h, _, _ => absurd (show rows R1 [] (w :: l) = .lt from rfl) h
  | [w], v :: t, [], _, _, h3 => by simp [begun] at h3
  | [w], v :: t, v' :: t', h1, h2, h3 => by
    rw [begun] at h3 ⊢
    rw [rows_cons] at h1 h2
    refine prefix_mid ordT_elem (t' := v') (fun e => ?_) (fun e => ?_) h3
    · have e' : R1 v w = .lt := e
      rw [e'] at h1
      exact h1 rfl
    · have e' : R1 v v' = .gt := e
      rw [e'] at h2
      exact h2 rfl
  | w :: x :: l, v :: t, [], _, _, h3 => by simp [begun] at h3
  | w :: x :: l, v :: t, v' :: t', h1, h2, h3 => by
    rw [begun.eq_3 _ _ _ _ (by simp)] at h3 ⊢
    simp only [Bool.and_eq_true, beq_iff_eq] at h3 ⊢
    obtain ⟨rfl, h3⟩ := h3
    rw [rows_cons] at h1 h2
    cases e : R1 v w with
    | lt => rw [e] at h1; exact absurd rfl h1
    | gt => rw [e] at h2; exact absurd rfl h2
    | eq =>
      rw [e] at h1 h2
      exact ⟨(ordR1.eq v w e).symm, begun_mid h1 h2 h3⟩
end Fx
end

section
namespace Fx
open Ih IhFiling

/-! ### the order of two texts -/
def lev1 (k : Code) (a b : Text) : Ordering := k.first (k.filed a) (k.filed b)
def levO (k : Code) (a b : Text) : Ordering := (lev1 k a b).then ((rows nats (k.accents a) (k.accents b)).then ((rows nats (k.marks a) (k.marks b)).then (rows nats a b)))
theorem ordT_rn : OrdT (rows nats) := ordT_rows ordT_nats
theorem ordT_rr : OrdT (rows R1) := ordT_rows ordR1
/-- the first level, swapped, transitive -/
theorem lev1_sw (k : Code) (a b : Text) : lev1 k b a = (lev1 k a b).swap := by
  unfold lev1 Code.first
  split
  · exact ordT_rr.sw _ _
  · exact ordR1.sw _ _
theorem lev1_tr (k : Code) (a b c : Text) (h1 : lev1 k a b ≠ .gt) (h2 : lev1 k b c ≠ .gt) : lev1 k a c ≠ .gt := by
  unfold lev1 Code.first at *
  split
  · rename_i h
    rw [if_pos h] at h1 h2
    exact ordT_rr.tr _ _ _ h1 h2
  · rename_i h
    rw [if_neg h] at h1 h2
    exact ordR1.tr _ _ _ h1 h2
theorem lev1_trans_lt (k : Code) (a b c : Text) (h1 : lev1 k a b ≠ .gt) (h2 : lev1 k b c = .lt) : lev1 k a c = .lt := by
  unfold lev1 Code.first at *
  split
  · rename_i h
    rw [if_pos h] at h1 h2
    exact ordT_rr.trans_lt h1 h2
  · rename_i h
    rw [if_neg h] at h1 h2
    exact ordR1.trans_lt h1 h2
theorem order_cases (k : Code) (a b : Text) : k.order a b = ((match lev1 k a b with
    | .lt => -1
    | .gt => 1
    | .eq => match rows nats (k.accents a) (k.accents b) with
      | .lt => -2
      | .gt => 2
      | .eq => match rows nats (k.marks a) (k.marks b) with
        | .lt => -3
        | .gt => 3
        | .eq => match rows nats a b with
          | .lt => -4
          | .gt => 4
          | .eq => 0 : Int)) := by
  unfold Code.order Code.levels
  show (match (([lev1 k a b, rows nats (k.accents a) (k.accents b), rows nats (k.marks a) (k.marks b), rows nats a b] : List Ordering).zipIdx.find? fun (x : Ordering × Nat) => x.1 != .eq) with
    | some (.lt, i) => (-((i + 1 : Nat) : Int) : Int)
    | some (_, i) => ((i + 1 : Nat) : Int)
    | none => (0 : Int)) = _
  cases lev1 k a b <;> cases rows nats (k.accents a) (k.accents b) <;> cases rows nats (k.marks a) (k.marks b) <;> cases rows nats a b <;> rfl
theorem order_neg (k : Code) (a b : Text) : k.order a b < 0 ↔ levO k a b = .lt := by
  rw [order_cases]
  unfold levO
  cases lev1 k a b <;> cases rows nats (k.accents a) (k.accents b) <;> cases rows nats (k.marks a) (k.marks b) <;> cases rows nats a b <;> simp [Ordering.then]
theorem order_zero (k : Code) (a b : Text) : k.order a b = 0 ↔ levO k a b = .eq := by
  rw [order_cases]
  unfold levO
  cases lev1 k a b <;> cases rows nats (k.accents a) (k.accents b) <;> cases rows nats (k.marks a) (k.marks b) <;> cases rows nats a b <;> simp [Ordering.then]
theorem order_le (k : Code) (a b : Text) : k.order a b ≤ 0 ↔ levO k a b ≠ .gt := by
  have h1 := order_neg k a b
  have h2 := order_zero k a b
  cases h : levO k a b with
  | lt => rw [h] at h1; simp at h1; simp; omega
  | eq => rw [h] at h2; simp at h2; simp; omega
  | gt => rw [h] at h1 h2; simp at h1 h2; simp; omega
theorem levO_sw (k : Code) (a b : Text) : levO k b a = (levO k a b).swap := by
  unfold levO
  rw [lev1_sw k a b, ordT_rn.sw (k.accents a), ordT_rn.sw (k.marks a), ordT_rn.sw a]
  cases lev1 k a b <;> cases rows nats (k.accents a) (k.accents b) <;> cases rows nats (k.marks a) (k.marks b) <;> cases rows nats a b <;> rfl
theorem levO_lev1 {k : Code} {a b : Text} (h : levO k a b ≠ .gt) : lev1 k a b ≠ .gt := by
  unfold levO at h
  cases e : lev1 k a b <;> rw [e] at h <;> simp_all [Ordering.then]

/-! ### filing -/
def leT (k : Code) (a b : Text) : Bool := levO k a b != .gt
theorem notBehind_eq (k : Code) (x y : Text × Nat) : notBehind k x y = List.zipIdxLE (leT k) x y := by
  unfold notBehind List.zipIdxLE leT
  have h1 := order_neg k x.1 y.1
  have h2 := order_zero k x.1 y.1
  have h3 := levO_sw k x.1 y.1
  show (decide (k.order x.1 y.1 < 0) || (k.order x.1 y.1 == 0 && decide (x.2 ≤ y.2))) = _
  rw [h3]
  cases h : levO k x.1 y.1 with
  | lt => rw [h] at h1; simp at h1; simp [h1]
  | gt =>
    rw [h] at h1 h2
    simp at h1 h2
    have : ¬ k.order x.1 y.1 < 0 := by omega
    simp [this, h2]
  | eq =>
    rw [h] at h2
    simp at h2
    simp [h2]
/-- the numbers in order: a stable sort of the places -/
theorem filing_eq (k : Code) (l : List Text) : filing k l = (List.range l.length).mergeSort fun i j => leT k (l.getD i []) (l.getD j []) := by
  unfold filing
  have e0 : (notBehind k) = List.zipIdxLE (leT k) := by funext x y; exact notBehind_eq k x y
  rw [e0]
  have key := List.mergeSort_zipIdx (l := List.range l.length) (le := fun i j => leT k (l.getD i []) (l.getD j []))
  have e1 : l.zipIdx = ((List.range l.length).zipIdx).map fun (p : Nat × Nat) => (l.getD p.1 [], p.2) := by
    apply List.ext_getElem?
    intro i
    rw [List.getElem?_map, List.getElem?_zipIdx, List.getElem?_zipIdx]
    by_cases h : i < l.length
    · simp [h]
    · simp [Nat.le_of_not_lt h]
  rw [e1, ← List.map_mergeSort (r := List.zipIdxLE fun i j => leT k (l.getD i []) (l.getD j [])), List.map_map, ← key]
  · apply List.map_congr_left
    intro p hp
    have h2 : p ∈ (List.range l.length).zipIdx := (List.mergeSort_perm _ _).mem_iff.mp hp
    obtain ⟨i, hi⟩ := List.getElem?_of_mem h2
    rw [List.getElem?_zipIdx] at hi
    by_cases h : i < l.length
    · simp [h] at hi
      rw [← hi]
      rfl
    · simp [Nat.le_of_not_lt h] at hi
  · intro a _ b _
    rfl

/-! ### a row that's filed; the stretch -/
theorem filed_iff (k : Code) : ∀ l : List Text, isFiled k l = true ↔ ∀ i a b, l[i]? = some a → l[i + 1]? = some b → levO k a b ≠ .gt
  | [] => by simp [isFiled]
  | [a] => by
    simp only [isFiled, true_iff]
    intro i x y h1 h2
    simp at h2
  | a :: b :: l => by
    rw [isFiled, Bool.and_eq_true, decide_eq_true_eq, order_le, filed_iff k (b :: l)]
    constructor
    · rintro ⟨h1, h2⟩ i x y e1 e2
      cases i with
      | zero =>
        simp at e1 e2
        rw [← e1, ← e2]
        exact h1
      | succ i => exact h2 i x y (by simpa using e1) (by simpa using e2)
    · intro h
      exact ⟨h 0 a b rfl rfl, fun i x y e1 e2 => h (i + 1) x y (by simpa using e1) (by simpa using e2)⟩
theorem filed_tail {k : Code} {a : Text} {l : List Text} (h : isFiled k (a :: l) = true) : isFiled k l = true := by
  cases l with
  | nil => rfl
  | cons b l => rw [isFiled, Bool.and_eq_true] at h; exact h.2
theorem filed_first (k : Code) : ∀ {l : List Text} {a : Text}, isFiled k (a :: l) = true → ∀ b ∈ l, lev1 k a b ≠ .gt
  | [], _, _, b, hb => by simp at hb
  | c :: l, a, h, b, hb => by
    have h1 : lev1 k a c ≠ .gt := by
      rw [isFiled, Bool.and_eq_true, decide_eq_true_eq, order_le] at h
      exact levO_lev1 h.1
    rcases List.mem_cons.mp hb with rfl | hb
    · exact h1
    · exact lev1_tr k a c b h1 (filed_first k (filed_tail h) b hb)
theorem begins_ge {k : Code} {q a : Text} (h : k.begins q a = true) : lev1 k a q ≠ .lt := by
  unfold Code.begins at h
  unfold lev1 Code.first
  split at h
  · rename_i hw
    rw [if_pos hw]
    exact begun_ge h
  · rename_i hw
    rw [if_neg hw]
    exact prefix_ge ordT_elem h
theorem begins_mid {k : Code} {q t t' : Text} (h1 : lev1 k t q ≠ .lt) (h2 : lev1 k t t' ≠ .gt) (h3 : k.begins q t' = true) : k.begins q t = true := by
  unfold Code.begins at *
  unfold lev1 Code.first at *
  split at h3
  · rename_i hw
    rw [if_pos hw] at h1 h2 ⊢
    exact begun_mid h1 h2 h3
  · rename_i hw
    rw [if_neg hw] at h1 h2 ⊢
    exact prefix_mid ordT_elem h1 h2 h3
def before (k : Code) (l : List Text) (q : Text) : Nat := (l.filter fun t => lev1 k t q == .lt).length
def begunN (k : Code) (l : List Text) (q : Text) : Nat := (l.filter (k.begins q)).length
theorem stretch_find {k : Code} {q : Text} : ∀ {l : List Text}, isFiled k l = true → ∀ {a : Nat}, l.findIdx? (k.begins q) = some a → before k l q = a
  | [], _, a, h => by simp at h
  | t :: l, hf, a, h => by
    have ih := @stretch_find k q l (filed_tail hf)
    rw [List.findIdx?_cons] at h
    unfold before at ih ⊢
    by_cases hb : k.begins q t = true
    · rw [if_pos hb] at h
      have ha : a = 0 := (Option.some.inj h).symm
      subst ha
      have hge := begins_ge hb
      rw [List.length_eq_zero_iff, List.filter_eq_nil_iff]
      intro x hx hlt
      have hlt' : lev1 k x q = .lt := by simpa using hlt
      rcases List.mem_cons.mp hx with rfl | hx
      · exact hge hlt'
      · have h2 := filed_first k hf x hx
        exact hge (lev1_trans_lt k t x q h2 hlt')
    · rw [if_neg hb] at h
      cases e : l.findIdx? (k.begins q) with
      | none => rw [e] at h; simp at h
      | some b =>
        rw [e] at h
        have ha : a = b + 1 := by simpa using h.symm
        have hlt : lev1 k t q = .lt := by
          rw [List.findIdx?_eq_some_iff_getElem] at e
          obtain ⟨hl, hbt, _⟩ := e
          have h2 := filed_first k hf _ (List.getElem_mem hl)
          cases e1 : lev1 k t q with
          | lt => rfl
          | eq => exact absurd (begins_mid (by rw [e1]; decide) h2 hbt) hb
          | gt => exact absurd (begins_mid (by rw [e1]; decide) h2 hbt) hb
        have e2 := ih e
        rw [List.filter_cons]
        simp [hlt, e2, ha]
theorem stretch_eq {k : Code} {q : Text} {l : List Text} (hf : isFiled k l = true) : stretchOf k l q = (before k l q, before k l q + begunN k l q) := by
  unfold stretchOf
  cases e : l.findIdx? (k.begins q) with
  | some a =>
    have := stretch_find hf e
    rw [this]
    rfl
  | none =>
    have h0 : begunN k l q = 0 := by
      unfold begunN
      rw [List.length_eq_zero_iff, List.filter_eq_nil_iff]
      intro x hx
      rw [List.findIdx?_eq_none_iff] at e
      simpa using e x hx
    rw [h0]
    rfl

/-! ### word by word, as the program asks it -/
theorem begun_iff : ∀ (q a : List (List Elem)), begun q a = (q.isEmpty || (decide (q.length - 1 < a.length) && (decide (a.take (q.length - 1) = q.take (q.length - 1)) && (q.getD (q.length - 1) []).isPrefixOf (a.getD (q.length - 1) []))))
  | [], a => by simp [begun]
  | [w], [] => by simp [begun]
  | [w], v :: m => by simp [begun]
  | w :: x :: l, [] => by simp [begun]
  | w :: x :: l, v :: m => by
    rw [begun.eq_3 _ _ _ _ (by simp), begun_iff (x :: l) m]
    have e1 : (w :: x :: l).length - 1 = ((x :: l).length - 1) + 1 := by simp
    rw [e1]
    simp only [List.isEmpty_cons, Bool.false_or, List.take_succ_cons, List.getD_cons_succ, List.length_cons]
    have e2 : decide (l.length + 1 - 1 + 1 < m.length + 1) = decide (l.length + 1 - 1 < m.length) := by
      apply decide_eq_decide.mpr; omega
    rw [e2]
    by_cases h : w = v
    · subst h
      simp
    · have h' : ¬ (v = w) := fun e => h e.symm
      simp [h, h']
end Fx
end

section
namespace Fr
open PySem PySem.Spec PyProof.Rows L2
open PySem.AutoSeq1 (wpAny_loadPart')
/-! ### a list grown by a tuple's items -/
theorem grow_tuple (l b : Addr) (xs ys : Array Value) (n m : Nat) (dd : Option Addr) (sl : Array (Option Value)) (c0 : ¬(!xs.isEmpty && Builtin.List.listTooLong (xs.size + ys.size)) = true) (c1 : xs.size ≤ sizeLine) (c2 : xs.size + ys.size ≤ sizeLine + 1) :
    Meets (Builtin.«list.extend» ⟨[.ref l, .ref b], []⟩) fun _ R s => s.heap.get? l = some { cls := .type "list", dict := none, data := .seq xs n, slots := #[] } ∧
      s.heap.get? b = some { cls := .type "tuple", dict := dd, data := .seq ys m, slots := sl } ∧ R (.ok (.ret Value.none)) { s with heap := s.heap.update l (Obj.mapSeq (· ++ ys)), toks := s.toks } :=
  .of_wp fun prog w A R s h => by
    obtain ⟨hp, g, d, tk, os⟩ := s
    obtain ⟨hl, hb, h⟩ := h
    have g1 := AutoSeq1.idx_int
    have g2 := AutoSeq1.sub_tuple_tuple
    have g3 := AutoSeq1.sub_list_list
    have g4 := AutoSeq1.sub_tuple_list
    have g5 := AutoSeq1.sub_list_tuple
    have z : (xs ++ ys).size ≤ sizeLine + 1 := by
      rw [Array.size_append]
      exact c2
    wp_walk using (wpAny_updateSeq hl rfl (hz := c1) (_hz' := z)), wpAny_loadPart' hl, wpAny_loadPart' hb
    exact ⟨_, rfl, h⟩
section
variable {X : Cx}
def rExtT (K : PySem.W.Frag) : V → List V → Hp → VK → Prop := fun x vs H Q => ∃ l b xs zs, x = .ref l ∧ vs = [.ref b] ∧ H l = some (.lst xs) ∧ SqT K H b zs ∧ xs.length + zs.length ≤ sizeLine ∧ Q .non (upd H l (.lst (xs ++ zs)))
theorem mt_extT : MtM X "list.extend" (rExtT X.K) := by
  intro pins s σ H x vs v us Q I rx rv h
  obtain ⟨l, b, xs, zs, rfl, rfl, hH, hB, hz, q⟩ := h
  cases rx
  obtain ⟨u, rfl, ru⟩ := rv.one
  cases ru
  obtain ⟨z, its, n, r, hl, e⟩ := I.lstM hH
  obtain ⟨its2, r2, ⟨⟨cls, dd, data, sls⟩, e2, hc, m, hd⟩, hz2⟩ := I.tuple hB
  have hl2 := r2.length
  simp only at hc hd
  subst hc hd
  have sz : its.toArray.size + its2.toArray.size ≤ sizeLine := by
    rw [List.size_toArray, List.size_toArray]
    omega
  have nl : ¬ (!its.toArray.isEmpty && Builtin.List.listTooLong (its.toArray.size + its2.toArray.size)) = true := by
    rw [notLongL sz, Bool.and_false]
    exact Bool.false_ne_true
  refine call_meets F.slot_list_extend ⟨_, e, rfl⟩ F.entry_list_extend (F.args_list_extend_2 _ _) (grow_tuple l b its.toArray its2.toArray n m dd sls nl (by rw [List.size_toArray]; omega) (Nat.le_succ_of_le sz)) ⟨e, e2, ?_⟩
  refine ⟨.non, _, I.lset (its' := its ++ its2) hH e (by simp) (r.append r2) ?_, rfl, q⟩
  rw [List.length_append]
  omega

/-! ### a dict's int keys in order -/
theorem sortedKeys (hcalm : X.calm = true) : CallR X (.builtin "sorted") (fun xs H Q => ∃ (a : Addr) (kvs : List (Key × V)) (ks : List Int), xs = [.ref a] ∧ H a = some (.dK kvs) ∧ kvs.map (·.1) = ks.map Sum.inl ∧
    ∀ (ys : List Int) (p : Addr), ys.Perm ks → ys.Pairwise (· ≤ ·) → H p = none → Q (.ref p) (upd H p (.lst (ys.map V.int)))) := by
  intro pins s σ H xs us Q I r q
  obtain ⟨a, kvs, ks, rfl, hd, hks, q⟩ := q
  obtain ⟨u, rfl, rx⟩ := vals1 r
  cases rx
  obtain ⟨z, lo, vs, rel, dd⟩ := dk_rd I.hok (.inl hd)
  obtain ⟨ep, hat⟩ := dd.dictAt
  have hkeys : vs.map (·.1) = ks.map Sum.inl := rel.keys.symm.trans hks
  have hl : vs.length = ks.length := by
    have e := congrArg List.length hkeys
    rwa [List.length_map, List.length_map] at e
  have hl3 : kvs.length = ks.length := by
    have e := congrArg List.length hks
    rwa [List.length_map, List.length_map] at e
  have h16 : vs.length ≤ sizeLine := by omega
  refine Calls.call_function_entry PyProof.Rows.kind_sorted PyProof.Rows.plain_sorted PyProof.Rows.entry_sorted (PyProof.Rows.args_sorted1 _) ?_
  unfold Builtin.«sorted»
  refine wpAny_bind (m := checkCount "sorted" 1 1 _) (wpAny_pure ?_)
  refine wpAny_bind (PySem.W.kdu_collect (A := X.A.in1) (PySem.W.kdl_dict (knd := mixKind X.prog X.w) (kvs := vs) (ep := ep) lo) (I.ok.hd hcalm) hat h16 fun h' tk acc hk hacc => ?_)
  have hal : acc.toList.length = ks.length := by rw [Array.length_toList, hacc.1, hl]
  have hS : IntsAre acc.toList ks := ints_each hal fun j v e => by
    obtain ⟨k, x, e1, e2⟩ := hacc.2 j v (by rw [← Array.getElem?_toList]; exact e)
    have e3 : (vs.map (·.1))[j]? = some k := by rw [List.getElem?_map, e1]; rfl
    rw [hkeys, List.getElem?_map] at e3
    cases e4 : ks[j]? with
    | none => rw [e4] at e3; cases e3
    | some y =>
      rw [e4] at e3
      cases (Option.some.inj e3)
      rcases keyIs_shape (show keyIs (Sum.inl y) v = true from e2) with ⟨i, t, ek, ev⟩ | ⟨z, t, ek, ev⟩
      · cases ek
        exact ⟨y, t, rfl, ev⟩
      · cases ek
  have I1 : Inv X pins σ H { s with heap := h', toks := tk } := I.kept hk
  have hz : acc.toList.length ≤ sizeLine := by omega
  refine wpAny_bind (wpAny_newList ?_ hz)
  have hoL : (h'.push (seqObj "list" acc.toList.toArray 0)).get? h'.objs.size = some (seqObj "list" acc.toList.toArray 0) := Heap.get?_push_size _ rfl
  show wpAny _ _ _ _ _ { s with heap := h'.push (seqObj "list" acc.toList.toArray 0), toks := tk }
  refine wpAny_bind (wpAny_holding (wpAny_call_entry PyProof.Rows.slot_list_sort ⟨_, hoL, rfl⟩ PyProof.Rows.entry_list_sort
    (SrtO.list_sort_ord (s := { s with heap := h'.push (seqObj "list" acc.toList.toArray 0), toks := tk }) SrtO.swo_int hoL hz (fun h2 => SrtO.ints_sortable hS h2) fun out g1 g2 => ⟨_, rfl, ?_⟩) (PyProof.Rows.args_list_sort _)))
  obtain ⟨k1, k2, k3⟩ := SrtO.ints_out hS g1 g2
  obtain ⟨e', he'⟩ := PyProof.Rows.sortedHeap_at (vs := acc.toList) (out := out.toArray) hoL
  have hlen : ((out.map SrtO.iv).map V.int).length ≤ sizeLine := by
    rw [List.length_map, k2.length_eq]
    omega
  refine wpAny_pure ⟨_, rfl, .ref h'.objs.size, upd H h'.objs.size (.lst ((out.map SrtO.iv).map V.int)), I1.laid (t' := tk) (fun b u e => ?_) (Nat.le_refl _)
    (show ObjOk X.prog X.w _ _ _ (.lst ((out.map SrtO.iv).map V.int)) from ⟨hlen, out, e', vals_of_ints k1, he'⟩), rfl, q _ _ k2 k3 (I1.hok.fresh (Nat.le_refl _))⟩
  have hb : b < h'.objs.size := Heap.lt_size e
  rw [PyProof.Rows.sortedHeap_old (Nat.ne_of_lt hb) (by rw [size_push']; exact Nat.lt_succ_of_lt hb)]
  exact Heap.get?_push_of_some _ e

/-! ### the written table of the calls -/
/-- the written dict at a has int keys alone -/
def IntKeys : List DictEntry → Bool
  | [] => true
  | e :: r => (match e.key with
    | .int i _ => e.hash == hashInt i
    | _ => false) && IntKeys r
theorem IntKeys.all : ∀ {l : List DictEntry}, IntKeys l = true → ∀ e ∈ l, ∃ i t, e.key = .int i t ∧ e.hash = hashInt i
  | [], _, e, h => by simp at h
  | d :: l, hk, e, h => by
    rw [IntKeys, Bool.and_eq_true] at hk
    rcases List.mem_cons.mp h with rfl | h
    · have h1 := hk.1
      split at h1
      · rename_i i t ek
        exact ⟨i, t, ek, by simpa using h1⟩
      · cases h1
    · exact IntKeys.all hk.2 e h
/-- at a: a written dict with int keys, i's value is v -/
def KInt (K : PySem.W.Frag) (a : Addr) (i : Int) (v : V) : Prop :=
  ∃ es n u, K.lookup a = some ⟨.type "dict", none, .dict es n, #[]⟩ ∧ IntKeys es.toList = true ∧ findBy Value.isInt es i = some u ∧ RelV v u
def rIxI (K : PySem.W.Frag) : R2 := fun x y H Q => ∃ p i v, x = .ref p ∧ y = .int i ∧ KInt K p i v ∧ Q v H
theorem ix_int : IxR X (rIxI X.K) := by
  intro value slice pins s σ H x y v u Q I rx ry h hs
  obtain ⟨p, i, r, rfl, rfl, ⟨es, n, u0, hl, hk, e, ru⟩, q⟩ := h
  obtain rfl : v = Value.ref p := rx
  obtain ⟨t, rfl⟩ := ry
  have hm : s.heap.MapOf (PySem.intKind X.prog X.w) p (fun k => findBy Value.isInt es k) := ⟨_, es, n, I.kIn _ _ hl, ⟨rfl, rfl, rfl⟩, rfl, fun d hd => by
    obtain ⟨i, t, e1, e2⟩ := IntKeys.all hk d (Array.mem_toList_iff.mpr hd)
    exact ⟨i, by rw [e1]; simp [PySem.intKind, Value.isInt], e2⟩, fun _ => rfl⟩
  have hki : (PySem.intKind X.prog X.w).is i (.int i t) = true := by simp [PySem.intKind, Value.isInt]
  exact tail_any hm.typeIs slot_dict_getitem.lookup (wpAny_getItem_of hki hm e ⟨r, H, I.tok _, ru, q⟩) hs

/-! ### f(..), f an expression whose value is one of the module's defs -/
def tCallE (P : Program) (w : World) (K : PySem.W.Frag) (mg : Str → Option Value) (base : Heap) (j : Nat) (tf : TE) (t : TA) : TE := fun σ H Q => tf σ H fun v H1 => ∃ (f : Addr) (k : Nat) (sp : Sp), v = .ref f ∧ k ≤ j ∧ C8.CalAt P w K mg base k f sp ∧
  t σ H1 fun vs H2 => sp vs H2 Q E0
theorem pe_callE {fe e : Expr} {es : List Expr} {pos : Pos} {tf : TE} {t : TA} {j : Nat} (hf : PE X fe tf) (hr : Room j X.A) (ha : PA X (e :: es) t)
    (ht : eval (.Call fe (e :: es) [] pos) X.env = (do
      let f ← eval fe X.env
      callWith pos f [] (backTo pos (starEach (e :: es) X.env)) (backToKw pos (keywordEach [] X.env))) := by rfl)
    (he : starEach (e :: es) X.env = (false, eval e X.env) :: starEach es X.env := by rfl) (hpl : (backTo pos (starEach es X.env)).any (·.1) = false := by rfl) :
    PE X (.Call fe (e :: es) [] pos) (tCallE X.prog X.w X.K X.mg X.base j tf t) := by
  refine ⟨fun pins s σ H Q I h => ?_⟩
  rw [ht]
  refine wpAny_bind (thn (hf.run pins s σ H _ I h) fun u s1 ⟨v, H1, I1, r1, f, k, sp, ev, hk, c, q⟩ => ?_)
  subst ev
  obtain rfl : u = Value.ref f := r1
  obtain ⟨fd, ps, F, kp, b⟩ := c.ex
  refine PySem.W.callWith_K (h₀ := X.base) I1.ok.mod.kin kp (thn (ha.run pos pins s1 σ H1 _ I1 q) fun us s2 ⟨vs, H2, I2, r, q2⟩ => ⟨I2.kIn, ?_⟩) he hpl
  exact run_fn F (hr.mono hk) b .nil pass0 I2 r (by rw [List.append_nil]; exact q2)

/-! ### order of data -/
def rLtD (K : PySem.W.Frag) : R2 := fun x y H Q => ∃ d e, Dp K H x d ∧ Dp K H y e ∧ PySem.W.alike d e = true ∧ d ≠ .none ∧ min d.depth e.depth < 64 ∧ Q (.bl (PySem.W.dataLt d e)) H
def rGtD (K : PySem.W.Frag) : R2 := fun x y H Q => ∃ d e, Dp K H x d ∧ Dp K H y e ∧ PySem.W.alike d e = true ∧ d ≠ .none ∧ min d.depth e.depth < 64 ∧ Q (.bl (PySem.W.dataLt e d)) H
theorem op_ltD (hu : X.A.units + 64 < cLine) : OpR X (compareOp .Lt) (rLtD X.K) := by
  intro pins s σ H x y v u Q I rx ry h
  obtain ⟨d, e, hd, he, al, nn, dp, q⟩ := h
  obtain ⟨as, r1⟩ := Dp.reads I d x v hd rx
  obtain ⟨bs, r2⟩ := Dp.reads I e y u he ry
  exact PySem.W.lt_data r1 r2 al nn (by omega) ⟨.bl _, H, I, rfl, q⟩
theorem op_gtD (hu : X.A.units + 64 < cLine) : OpR X (compareOp .Gt) (rGtD X.K) := by
  intro pins s σ H x y v u Q I rx ry h
  obtain ⟨d, e, hd, he, al, nn, dp, q⟩ := h
  obtain ⟨as, r1⟩ := Dp.reads I d x v hd rx
  obtain ⟨bs, r2⟩ := Dp.reads I e y u he ry
  exact PySem.W.gt_data r1 r2 al nn (by omega) ⟨.bl _, H, I, rfl, q⟩
end
end Fr
end

section
namespace Fs
open PySem PySem.Calls PyProof.Rows PySem.W
/-! ### sorting by keys that are data which stand still, lists among them -/
/-- the key reads as the datum wherever all of h but the object at a stands -/
def KeyR (h₁ : Heap) (a : Addr) (v : Value) (k : PyData) : Prop := ∀ g : Heap, KeepsBut a h₁ g → ∃ as, Reads g v k as
section
variable {prog : Program} {w : World} {A : Around} {E : Value → Shared → Prop} {s : Shared} {a kS : Addr} {vs : List Value} {e1 : Nat} {P : PySem.Fin → Shared → Prop} {kz : List PyData} {f : Value} {h₁ : Heap}
/-- a call gives the key and keeps all that was there -/
def KeyTurn (prog : Program) (w : World) (A : Around) (s : Shared) (f : Value) (h₁ : Heap) (a : Addr) (v : Value) (k : PyData) : Prop := ∀ (h : Heap) (tk : Nat), KeepsBut a h₁ h →
  wpAny (model prog w) A (call f [v]) (fun u s2 => ∃ (h' : Heap) (tk' : Nat), s2 = { s with heap := h', toks := tk' } ∧ (∀ b o, h.get? b = some o → h'.get? b = some o) ∧ KeyR h₁ a u k) (fun _ _ => False) { s with heap := h, toks := tk }
theorem keyed_rest (kp : KeepsBut a h₁ s.heap) (hkS : h₁.get? kS = none) (nk : s.heap.get? kS = some (seqObj "list" #[] 0)) (na : s.heap.get? a = some (seqObj "list" #[] e1)) (hka : kS ≠ a)
    (hlen : kz.length = vs.length) (hZ : vs.length ≤ sizeLine) (hal : AllAlike kz) (hsk : Sortable kz) (hu : ∀ d, d ∈ kz → A.units + d.depth < cLine)
    (turn : ∀ (i : Nat) (v : Value) (k : PyData), vs[i]? = some v → kz[i]? = some k → KeyTurn prog w A s f h₁ a v k)
    (h : ∀ h' tk out c, KeepsBut a h₁ h' → h'.get? a = some (seqObj "list" (List.toArray out) c) → KeyedOut false kz vs out → P (.done (.ret .none)) { s with heap := h', toks := tk }) :
    wpAny (model prog w) A (ksk_rest a f false vs.toArray e1 (.ref kS)) P E s := by
  unfold ksk_rest
  refine wpAny_bind (wpAny_rule ?_)
  first
    | rw [List.forIn_toArray]
    | (rw [← Array.forIn_toList]; simp only [List.toList_toArray])
    | rw [← Array.forIn_toList]
  refine wpAny_bind (ksk_fold (fun i s' => ∃ (h' : Heap) (tk : Nat) (kA : Array Value) (e : Nat), s' = { s with heap := h', toks := tk } ∧ KeepsBut a h₁ h' ∧ h'.get? kS = some (seqObj "list" kA e) ∧
    h'.get? a = some (seqObj "list" #[] e1) ∧ EachIs (KeyR h₁ a) kA.toList (kz.take i)) vs 0 s ⟨s.heap, s.toks, #[], 0, rfl, kp, nk, na, by rw [List.take_zero]; exact EachIs.nil⟩ ?go ?out)
  case go =>
    rintro j x s' hx ⟨h', tk, kA, e, rfl, kp', nk', na', hk⟩
    simp only [Nat.zero_add] at hk ⊢
    have hj : j < vs.length := (List.getElem?_eq_some_iff.mp hx).1
    have hkj : kz[j]? = some (kz[j]'(by omega)) := List.getElem?_eq_getElem (by omega)
    have hz : kA.size ≤ vs.length := by
      have q := hk.length
      rw [Array.length_toList, List.length_take] at q
      omega
    refine wpAny_bind (wpAny_attempt (wpAny_mono (turn j x _ hx hkj h' tk kp') (fun v s'' he => ?_) fun _ _ z => z.elim))
    obtain ⟨g, tk2, rfl, hg, hr⟩ := he
    try dsimp only
    have nk2 : g.get? kS = some (seqObj "list" kA e) := hg _ _ nk'
    have na2 : g.get? a = some (seqObj "list" #[] e1) := hg _ _ na'
    have s1 := Heap.SameBut.update g kS (Obj.mapSeq (·.push v))
    obtain ⟨c2, hc2⟩ : ∃ c2, (g.update kS (Obj.mapSeq (·.push v))).get? kS = some (seqObj "list" (kA.push v) c2) := ⟨_, get?_update_seq nk2 (·.push v)⟩
    refine wpAny_bind (listUpdate_at nk2 rfl ?_ (Nat.le_trans hz hZ) (Nat.le_trans (Nat.le_of_eq (Array.size_push ..)) (Nat.succ_le_succ (Nat.le_trans hz hZ))))
    refine wpAny_pure ⟨rfl, _, _, kA.push v, c2, rfl, (kp'.trans_all hg).same s1 (.inr hkS), hc2, (s1.2 a hka.symm).trans na2, ?_⟩
    have ek : kz.take (j + 1) = kz.take j ++ [kz[j]'(by omega)] := by
      rw [List.take_add_one, hkj]
      rfl
    rw [Array.toList_push, ek]
    exact each_snoc hr hk
  case out =>
    rintro s' ⟨h', tk, kA, e, rfl, kp', nk', na', hk⟩
    have e3 : kz.take (0 + vs.length) = kz := List.take_of_length_le (by omega)
    rw [e3] at hk
    have hk' : EachIs (fun v k => ∃ as, Reads h' v k as) kA.toList kz := hk.mono fun v k q => q h' kp'
    have hsz : kA.size = vs.length := by
      have q := hk'.length
      rw [Array.length_toList] at q
      omega
    try dsimp only
    refine wpAny_bind (listItems_at nk' rfl ?_)
    exact keyH_end (κ := dataKind h' kz) (h₁ := h₁) kp' hkS nk' na' hka (SortsAt.data (s := { s with heap := h', toks := tk }) hk' hal hsk hu) hsz hZ fun h3 tk3 c k3 n3 => h h3 tk3 _ c k3 n3 ⟨h', kA.toList, hal, rfl, hk'⟩
theorem keyed_tree {n : Nat} (ho : s.heap.get? a = some (seqObj "list" vs.toArray n)) (hlen : kz.length = vs.length) (hZ : vs.length ≤ sizeLine) (hal : AllAlike kz) (hsk : Sortable kz) (hu : ∀ d, d ∈ kz → A.units + d.depth < cLine)
    (turn : ∀ (i : Nat) (v : Value) (k : PyData), vs[i]? = some v → kz[i]? = some k → KeyTurn prog w A s f s.heap a v k)
    (h : ∀ h' tk out c, KeepsBut a s.heap h' → h'.get? a = some (seqObj "list" (List.toArray out) c) → KeyedOut false kz vs out → P (.done (.ret .none)) { s with heap := h', toks := tk }) :
    wpAny (model prog w) A (ksk_tree a f false) P E s := by
  have ha : a < s.heap.objs.size := Heap.lt_size ho
  obtain ⟨e1, ho1⟩ : ∃ e1, (s.heap.update a (Obj.mapSeq fun _ => (#[] : Array Value))).get? a = some (seqObj "list" #[] e1) := ⟨_, get?_update_seq ho fun _ => #[]⟩
  have hkS : ((s.heap.update a (Obj.mapSeq fun _ => (#[] : Array Value))).push (seqObj "tuple" vs.toArray 0)).objs.size = s.heap.objs.size + 1 := by rw [size_push', Heap.size_update]
  unfold ksk_tree
  refine wpAny_bind (listItems_at ho rfl ?_)
  refine wpAny_bind (listUpdate_at ho rfl ?_ (by rw [List.size_toArray]; exact hZ) (Nat.zero_le _))
  refine wpAny_bind (seqEpoch_at ho1 rfl ?_)
  refine wpAny_bind (wpAny_newTuple ?_ (by show vs.length ≤ _; exact hZ))
  refine wpAny_bind (wpAny_newList ?_ (Nat.zero_le _))
  refine wpAny_holding ?_
  have kp : KeepsBut a s.heap (sortingHeap s.heap a vs) := fun b o hb q => sortingHeap_old hb q
  exact keyed_rest (kz := kz) (h₁ := s.heap) (s := { s with heap := sortingHeap s.heap a vs }) (kS := ((s.heap.update a (Obj.mapSeq fun _ => (#[] : Array Value))).push (seqObj "tuple" vs.toArray 0)).objs.size) kp
    (Heap.get?_none_of_le (by rw [hkS]; exact Nat.le_succ _)) (Heap.get?_push_size _ rfl) (Heap.get?_push_of_some _ (Heap.get?_push_of_some _ ho1)) (by rw [hkS]; exact Nat.ne_of_gt (Nat.lt_succ_of_lt ha)) hlen hZ hal hsk hu turn h
end
end Fs
namespace Fl
open PySem PySem.Spec PyProof.Rows L2 LamX NdefX
/-! ### a lambda over a list that it takes from around, and its call -/
def LamO (f : Addr) (qual : Str) (params : Arguments) (body : Expr) (scope : Scope) (cl : List (Str × Addr)) (c : Addr) : HO := .ext fun h => ∃ (od : Option Addr) (sl : Array (Option Value)) (pm ctv : Value),
  h.get? f = some (⟨.type "function", od, .func (PySem.W.kla_fn "<lambda>" qual params body scope cl pm (.ref c) ctv), sl⟩ : Obj)
section
variable {X : Cx} {pins : List (Addr × Obj)} {σ : L2.St} {H : Hp} {s : Shared}
theorem lamO_at {P : Program} {w : World} {h : Heap} {f : Addr} {qual : Str} {params : Arguments} {body : Expr} {scope : Scope} {cl : List (Str × Addr)} {c : Addr} (hok : HOk P w H h) (e : H f = some (LamO f qual params body scope cl c)) :
    ∃ (od : Option Addr) (sl : Array (Option Value)) (pm ctv : Value), h.get? f = some (⟨.type "function", od, .func (PySem.W.kla_fn "<lambda>" qual params body scope cl pm (.ref c) ctv), sl⟩ : Obj) := (hok f _ e).1
theorem inv_lam {qual : Str} {params : Arguments} {body : Expr} {scope : Scope} {cl : List (Str × Addr)} {c : Addr} {t' : Nat} {pm ctv : Value} (I : Inv X pins σ H s) :
    Inv X pins σ (upd H s.heap.objs.size (LamO s.heap.objs.size qual params body scope cl c)) { s with heap := s.heap.push { cls := .type "function", data := .func (PySem.W.kla_fn "<lambda>" qual params body scope cl pm (.ref c) ctv) }, toks := t' } := by
  refine I.laid (a := s.heap.objs.size) (fun b u e => Heap.get?_push_of_some _ e) (Nat.le_refl _) ?_
  have e : (s.heap.push ({ cls := .type "function", data := .func (PySem.W.kla_fn "<lambda>" qual params body scope cl pm (.ref c) ctv) } : Obj)).get? s.heap.objs.size = some _ := Heap.get?_push_size _ rfl
  exact ⟨⟨_, _, pm, ctv, e⟩, ⟨_, e⟩, fun h1 h2 ⟨od, sl, p, t, z⟩ st => ⟨od, sl, p, t, st _ z⟩⟩
theorem lam_made {nm : Nat → Nat → Str} {c P : Addr} {params : Arguments} {body : Expr} {scope : Scope} {pos : Pos} {E : Value → Shared → Prop} {Q : Value → Shared → Prop} (I : Inv X pins σ H s) (TB : TabB X.base X.mg c P) (hcode : X.env.code = .ref c)
    (hn : nm pos.line pos.col = X.env.qual ++ "<lambda>") (hT : TabN H P nm) (hfree : ∀ y ∈ scope.names, y.2 = .free → ∃ c, X.env.cells.lookup y.1 = some c) (hdef : defaultsOf params X.env = ([], []))
    (h : ∀ (f c' : Addr) (H1 : Hp) (s' : Shared), Inv X pins σ H1 s' → ExtN H H1 → (∀ b, H1 b = Option.none → H b = Option.none) → TabN H1 P nm → H f = none → H1 f = some (LamO f (X.env.qual ++ "<lambda>") params body scope (cloFrom X.env.cells scope.names []) c') → H1 c' = some (CodeO c' (X.env.qual ++ "<lambda>")) → Q (.ref f) s') :
    wpAny (model X.prog X.w) X.A (eval (.Lambda params body scope pos) X.env) Q E s := by
  refine PySem.W.kla_eval hdef ?_
  obtain ⟨ps, hP, ht, ha⟩ := hT
  have bP : s.heap.BuiltinsAt X.mg P := TB.bm.keeps I.bk
  have hP' : s.heap.get? P = some { cls := .none, data := .fields ps } := I.hok P _ hP
  cases hc : codeAmong pos ps.toList with
  | none =>
    refine PySem.W.kla_makeFunction (mg := X.mg) (c := c) (P := P) (ps := ps) (closure_ok hfree) I.ok.glob (I.mod.glob.keeps I.bk) hcode (TB.code.keeps I.bk) hP' ht hc TB.gP bP fun c' ctv h' tk hx hge hlt hrec htb => ?_
    obtain ⟨c2, oc, vs, t, e2, hoc, hd, hv⟩ := hrec
    cases e2
    have nC : H c' = none := I.hok.fresh hge
    have J1 := inv_table (t' := tk) (more := #[rawInt pos.line, rawInt pos.col, .ref c']) (h' := h') I hP (fun b o hb e => hx b o hb e) htb hge ⟨oc, vs, t, hoc, hd, hv⟩
    have hE : ExtN H (upd (upd H P (.tbl (ps ++ #[rawInt pos.line, rawInt pos.col, .ref c']))) c' (CodeO c' (X.env.qual ++ "<lambda>"))) := fun b o e n => by
      rw [upd_ne (ne_of_none e nC), upd_ne (fun z => n ps (Option.some.inj (e.symm.trans (by rw [z]; exact hP))))]
      exact e
    have eL : (ps ++ #[rawInt pos.line, rawInt pos.col, .ref c']).toList = ps.toList ++ [rawInt pos.line, rawInt pos.col, .ref c'] := by simp
    have T1 : TabN (upd (upd H P (.tbl (ps ++ #[rawInt pos.line, rawInt pos.col, .ref c']))) c' (CodeO c' (X.env.qual ++ "<lambda>"))) P nm := by
      refine ⟨_, by rw [upd_ne (ne_of_none hP nC), upd_same], by rw [eL]; exact PySem.TriplesOk_snoc _ _ _ _ ht, fun p' cv hcv => ?_⟩
      rw [eL] at hcv
      rcases among_app2 _ ht hcv with z | ⟨z, z1, z2⟩
      · obtain ⟨c0, e1, e2⟩ := ha p' cv z
        exact ⟨c0, e1, hE _ _ e2 codeO_ne⟩
      · refine ⟨c', z, ?_⟩
        rw [← z1, ← z2, hn]
        exact upd_same
    have nF := J1.hok.fresh (Nat.le_refl _)
    have J2 := inv_lam (qual := X.env.qual ++ "<lambda>") (params := params) (body := body) (scope := scope) (cl := cloFrom X.env.cells scope.names []) (c := c') (t' := tk) (pm := (X.mg "__name__").getD .none) (ctv := ctv) J1
    refine h h'.objs.size c' _ _ J2 (fun b o e n => ?_) (fun b e => upd_none (upd_none (upd_none e))) (T1.ext fun b o e => ?_) (I.hok.fresh (Nat.le_trans hge (Nat.le_of_lt hlt))) upd_same ?_
    · have e1 := hE b o e n
      exact (upd_ne (ne_of_none e1 nF)).trans e1
    · exact (upd_ne (ne_of_none e nF)).trans e
    · exact (upd_ne (Nat.ne_of_lt hlt)).trans upd_same
  | some cv =>
    obtain ⟨c', e, hco⟩ := ha pos cv hc
    subst e
    rw [hn] at hco
    refine PySem.W.kla_makeFunctionHit (mg := X.mg) (c := c) (P := P) (ps := ps) (closure_ok hfree) I.ok.glob (I.mod.glob.keeps I.bk) hcode (TB.code.keeps I.bk) hP' ht hc bP fun ctv h' tk hx hsz => ?_
    have J1 : Inv X pins σ H { s with heap := h', toks := tk } := I.kept hx
    have nF : H h'.objs.size = none := J1.hok.fresh (Nat.le_refl _)
    have J2 := inv_lam (qual := X.env.qual ++ "<lambda>") (params := params) (body := body) (scope := scope) (cl := cloFrom X.env.cells scope.names []) (c := c') (t' := tk) (pm := (X.mg "__name__").getD .none) (ctv := ctv) J1
    refine h h'.objs.size c' _ _ J2 (fun b o e n => ?_) (fun b e => upd_none e) ((show TabN H P nm from ⟨ps, hP, ht, ha⟩).ext fun b o e => ?_) nF upd_same ?_
    · exact (upd_ne (ne_of_none e nF)).trans e
    · exact (upd_ne (ne_of_none e nF)).trans e
    · exact (upd_ne (ne_of_none hco nF)).trans hco
end
end Fl
end

section
namespace Fl
open PySem PySem.Spec PyProof.Rows L2 LamX NdefX Fs
abbrev lamP (pp : Pos) : Arguments := { posonlyargs := [], args := [{ arg := "number", annotation := none, pos := pp : PySem.Arg }], vararg := none, kwonlyargs := [], kw_defaults := [], kwarg := none, defaults := [] }
abbrev lamS : Scope := { kind := PySem.ScopeKind.function, names := [(PySem.Str.ofString "number", PySem.NameKind.local), (PySem.Str.ofString "levels", PySem.NameKind.free)], isGenerator := false, isCoroutine := false, more := [] }
abbrev lamB (p1 p2 p3 : Pos) : Expr := .Subscript (.Name "levels" p1) (.Name "number" p2) p3
theorem lam_call {prog : Program} {w : World} {A : Around} {E : Value → Shared → Prop} {Q : Value → Shared → Prop} {s : Shared} {f c' cL lv : Addr} {items : Array Value} {qual : Str} {pm ctv : Value} {od : Option Addr} {sl : Array (Option Value)} {cl : List (Str × Addr)}
    {p1 p2 p3 pp : Pos} {i : Int} {t : Tok} {u : Value} (hroom : A.depth < recursionLimit) (lim : s.heap.NoLimit)
    (ho : s.heap.get? f = some (⟨.type "function", od, .func (PySem.W.kla_fn "<lambda>" qual (lamP pp) (lamB p1 p2 p3) lamS cl pm (.ref c') ctv), sl⟩ : Obj)) (hcd : s.heap.CodeRec (.ref c') qual)
    (hcl : cl.lookup ("levels" : Str) = some cL) (hcell : s.heap.IsCell cL (some (.ref lv))) (hl : s.heap.IsList lv items) (h0 : 0 ≤ i) (h1 : i < 2 ^ 62) (hu : items[i.toNat]? = some u)
    (h : ∀ h' tk, (∀ b o, s.heap.get? b = some o → h'.get? b = some o) → Q u { s with heap := h', toks := tk }) : wpAny (model prog w) A (call (.ref f) [.int i t]) Q E s := by
  refine wpAny_call (PySem.W.kla_callFunE (body := lamB p1 p2 p3) hroom ho rfl rfl rfl rfl hcd ?_)
  have hb : bindArgs (PySem.W.kla_fn "<lambda>" qual (lamP pp) (lamB p1 p2 p3) lamS cl pm (.ref c') ctv) ⟨[.int i t], []⟩ = pure [(("number" : Str), Value.int i t)] := by rfl
  rw [hb]
  refine wpAny_pure (wpAny_newFunctionEnv (scope := lamS) (by decide +kernel) (fun y hy => by
    rw [List.mem_singleton.mp hy]
    show lamS.names.lookup ("number" : Str) = some .local
    decide +kernel) (fun h₁ hns hsb => ⟨lim.fresh _ hsb, ?_⟩) rfl)
  have kp : ∀ b o, s.heap.get? b = some o → h₁.get? b = some o := fun b o e => hsb.extBut b o (Nat.ne_of_lt (Heap.lt_size e)) (Heap.get?_push_of_some _ e)
  show codeAny _ _ (.expr (lamB p1 p2 p3) (PySem.W.envX qual lamS s.heap.objs.size f (.ref c') cl)) _ _
  refine PySem.W.kla_codeExpr ?_
  have kf : (PySem.W.envX qual lamS s.heap.objs.size f (.ref c') cl).kindOf "levels" = some .free := by
    show lamS.names.lookup ("levels" : Str) = some .free
    decide +kernel
  have kl : (PySem.W.envX qual lamS s.heap.objs.size f (.ref c') cl).kindOf "number" = some .local := by
    show lamS.names.lookup ("number" : Str) = some .local
    decide +kernel
  obtain ⟨oc, hoc, hoc2⟩ := hcell
  obtain ⟨ol, hol, hol2⟩ := hl
  refine Subscript_ (wpAny_Name (wpAny_loadName_free rfl kf hcl ⟨oc, kp _ _ hoc, hoc2⟩ (wpAny_Name (wpAny_loadName_local (v := .int i t) rfl kl hns (by rfl) ?_))))
  have hl1 : h₁.IsList lv items := ⟨ol, kp _ _ hol, hol2⟩
  refine subscriptTail_builtin hl1.typeIs slot_list_getitem.lookup (wpAny_getItem_list hl1 h0 (by omega) hu ?_)
  exact h _ _ kp
end Fl
end

section
namespace Fl
open PySem PySem.Spec PyProof.Rows L2 LamX NdefX Fs PySem.W
section
variable {X : Cx} {pins : List (Addr × Obj)} {σ : L2.St} {H : Hp} {s : Shared}
theorem dpAll_get {K : PySem.W.Frag} : ∀ {xs : List V} {ds : List PyData} {i : Nat} {d : PyData}, DpAll K H xs ds → ds[i]? = some d → ∃ x, xs[i]? = some x ∧ Dp K H x d
  | _, _, _, _, .nil, h => by simp at h
  | _, _, 0, d, .cons a b, h => by
    simp at h
    subst h
    exact ⟨_, rfl, a⟩
  | _, _, i + 1, d, .cons a b, h => by
    obtain ⟨x, h1, h2⟩ := dpAll_get (i := i) b (by simpa using h)
    exact ⟨x, by simpa using h1, h2⟩
theorem dpAll_len {K : PySem.W.Frag} : ∀ {xs : List V} {ds : List PyData}, DpAll K H xs ds → xs.length = ds.length
  | _, _, .nil => rfl
  | _, _, .cons a b => congrArg Nat.succ (dpAll_len b)
theorem cr_range1 : CallR X (.type "range") (fun vs H Q => ∃ j : Int, vs = [V.int j] ∧ ∀ p, H p = none → Q (.ref p) (upd H p (.rng 0 j))) := by
  intro pins s σ H vs us Q I r h
  obtain ⟨j, rfl, q⟩ := h
  obtain ⟨u, rfl, ru⟩ := vals1 r
  obtain ⟨t, rfl⟩ := ru
  exact call_range_1 ⟨.ref s.heap.objs.size, upd H s.heap.objs.size (.rng 0 j), I.kept (fun b o e => e) |>.laid (t' := _) (fun b o e => Heap.get?_push_of_some _ e) (Nat.le_refl _) ⟨_, _, _, Heap.get?_push_size _ rfl⟩, rfl, q _ (I.hok.fresh (Nat.le_refl _))⟩
/-- the places in the order of the data that stand there -/
def orderOf (ds : List PyData) : List Nat := (List.range ds.length).mergeSort (dataLe false fun j => ds.getD j .none)
theorem sort_run {rg f c' cL lv : Addr} {qual : Str} {cl : List (Str × Addr)} {p1 p2 p3 pp : Pos} {xs : List V} {ds : List PyData} {Q : VK} (I : Inv X pins σ H s) (hcal : X.calm = true) (hr : Room 3 X.A) (hrg : H rg = some (.rng 0 (xs.length : Int)))
    (hf : H f = some (LamO f qual (lamP pp) (lamB p1 p2 p3) lamS cl c')) (hc : H c' = some (CodeO c' qual)) (hcl : cl.lookup ("levels" : Str) = some cL) (hcell : s.heap.IsCell cL (some (.ref lv))) (hl : SqL X.K H lv xs)
    (hd : DpAll X.K H xs ds) (hal : AllAlike ds) (hsk : Sortable ds) (hdp : ∀ d ∈ ds, d.depth < 60)
    (q : ∀ p, H p = none → Q (.ref p) (upd H p (.lst ((orderOf ds).map fun j => V.int (j : Nat))))) :
    wpAny (model X.prog X.w) X.A (call (.builtin "sorted") [.ref rg] [(Str.ofString "key", .ref f)]) (EP X pins σ Q) X.xe s := by
  obtain ⟨t, u, v, horg⟩ := I.hok rg _ hrg
  obtain ⟨its, rv, pl, hz⟩ := I.list hl
  have hlen := dpAll_len hd
  have hsl := sizeLine_eq
  refine call_function_entry_kw kind_sorted plain_sorted entry_sorted (ksk_s1 _ _) ?_
  unfold Builtin.«sorted»
  refine wpAny_bind (m := checkCount "sorted" 1 1 _) (wpAny_pure ?_)
  refine wpAny_bind (collect_range (A := X.A.in1) (n := xs.length) (I.ok.hd hcal) horg (small_one (by omega) (by omega) (by omega) (by omega)) (by rw [rangeSize_one]; split <;> omega) (by omega) fun h' tk acc hk hacc => ?_)
  have J : Inv X pins σ H { s with heap := h', toks := tk } := I.kept hk
  have hla : acc.toList.length = xs.length := by
    rw [Array.length_toList]
    exact hacc.1
  refine wpAny_bind (wpAny_newList ?_ (by omega))
  have hoL : (h'.push (seqObj "list" acc.toList.toArray 0)).get? h'.objs.size = some (seqObj "list" acc.toList.toArray 0) := Heap.get?_push_size _ rfl
  have old : ∀ b o, s.heap.get? b = some o → b ≠ h'.objs.size ∧ (h'.push (seqObj "list" acc.toList.toArray 0)).get? b = some o := fun b o e => ⟨Nat.ne_of_lt (Heap.lt_size (hk b o e)), Heap.get?_push_of_some _ (hk b o e)⟩
  have intAt : ∀ (j : Nat) (v : Value), acc.toList[j]? = some v → ∃ t, v = Value.int (j : Nat) t := fun j v e => by
    obtain ⟨t, et⟩ := hacc.2 j v (by rw [← Array.getElem?_toList]; exact e)
    exact ⟨t, by rw [et]; congr 1; omega⟩
  show wpAny _ _ _ _ _ { s with heap := h'.push (seqObj "list" acc.toList.toArray 0), toks := tk }
  refine wpAny_bind (wpAny_holding (wpAny_call_entry_kw slot_list_sort ⟨_, hoL, rfl⟩ entry_list_sort ?_ (ksk_l1 _ _)))
  rw [ksk_t1]
  have hr2 : Room 1 X.A.in1.in1 := hr.in1.in1
  obtain ⟨od, sl, pm, ctv, hof⟩ := lamO_at I.hok hf
  have hcd := codeO_at I.hok hc
  refine keyed_tree (kz := ds) (s := { s with heap := h'.push (seqObj "list" acc.toList.toArray 0), toks := tk }) hoL (by omega) (by omega) hal hsk (fun d hd' => ?_) (fun i v k hv hk' h2 tk2 kb => ?_) fun h2 tk2 out c kb ho ko => ⟨_, rfl, ?_⟩
  · have h1 := hdp d hd'
    have h3 := hr2.units
    omega
  · obtain ⟨t2, rfl⟩ := intAt i v hv
    obtain ⟨x, hx, hdx⟩ := dpAll_get hd hk'
    obtain ⟨u2, hu2, ru2⟩ := rv.get hx
    have kk : ∀ b o, s.heap.get? b = some o → h2.get? b = some o := fun b o e => kb b o (old b o e).1 (old b o e).2
    have hil : i < its.length := (List.getElem?_eq_some_iff.mp hu2).1
    have hxl := rv.length
    obtain ⟨oc, hoc, hoc2⟩ := hcell
    obtain ⟨c2, oc2, vs2, tq, ec, hoc3, hd3, hv3⟩ := hcd
    obtain ⟨ol, n2, hol, hol2, hol3, hol4⟩ := pl
    refine lam_call (s := { s with heap := h2, toks := tk2 }) hr2.depth (I.nolimit.keeps kk) (kk _ _ hof) ⟨c2, oc2, vs2, tq, ec, kk _ _ hoc3, hd3, hv3⟩ hcl ⟨oc, kk _ _ hoc, hoc2⟩ ⟨ol, kk _ _ hol, hol2, n2, hol4⟩ (by omega) (by omega) (by simpa using hu2) fun h3 tk3 kp => ?_
    refine ⟨h3, tk3, rfl, kp, fun g kg => ?_⟩
    obtain ⟨as, hrd⟩ := Dp.reads I k x u2 hdx ru2
    exact ⟨as, PyProof.Rows.Reads.keeps (fun b o e => kg b o (old b o e).1 (old b o e).2) hrd⟩
  · have kk : ∀ b o, h'.get? b = some o → h2.get? b = some o := fun b o e => kb b o (Nat.ne_of_lt (Heap.lt_size e)) (Heap.get?_push_of_some _ e)
    have eR : EachIs (fun (v : Value) (j : Nat) => ∃ t, v = Value.int (j : Nat) t) acc.toList (List.range ds.length) := by
      have aux : ∀ (l : List Value) (b : Nat), (∀ j v, l[j]? = some v → ∃ t, v = Value.int ((b + j : Nat) : Int) t) → EachIs (fun (v : Value) (j : Nat) => ∃ t, v = Value.int (j : Nat) t) l (List.range' b l.length) := by
        intro l
        induction l with
        | nil => intro b _; exact .nil
        | cons a l ih =>
          intro b hb
          rw [List.length_cons, List.range'_succ]
          refine .cons (by obtain ⟨t, e⟩ := hb 0 a rfl; exact ⟨t, by simpa using e⟩) (ih (b + 1) fun j v e => ?_)
          obtain ⟨t, e2⟩ := hb (j + 1) v (by simpa using e)
          exact ⟨t, by rw [e2]; congr 2; omega⟩
      have z := aux acc.toList 0 fun j v e => by
        obtain ⟨t, e2⟩ := intAt j v e
        exact ⟨t, by rw [e2]; congr 2; omega⟩
      rw [hla, hlen, ← List.range_eq_range'] at z
      exact z
    have em : (List.range ds.length).map (fun j => ds.getD j .none) = ds := by
      apply List.ext_getElem?
      intro i
      rw [List.getElem?_map]
      by_cases hi : i < ds.length
      · rw [List.getElem?_range hi]
        simp [hi]
      · simp [Nat.le_of_not_lt hi]
    have eo := keyedOut_each (β := Nat) (R := fun v j => ∃ t, v = Value.int (j : Nat) t) (bs := List.range ds.length) (fun j => ds.getD j .none) (by rw [em]; exact ko) eR
    have vo : Vals ((orderOf ds).map fun j => V.int (j : Nat)) out := by
      have aux : ∀ {l : List Value} {m : List Nat}, EachIs (fun (v : Value) (j : Nat) => ∃ t, v = Value.int (j : Nat) t) l m → Vals (m.map fun j => V.int (j : Nat)) l := by
        intro l m h
        induction h with
        | nil => exact .nil
        | cons a b ih => exact .cons a ih
      exact aux eo
    have hol : out.length = xs.length := by
      have e1 := vo.length
      rw [List.length_map] at e1
      unfold orderOf at e1
      rw [List.length_mergeSort, List.length_range] at e1
      omega
    refine wpAny_pure ⟨_, rfl, .ref h'.objs.size, upd H h'.objs.size (.lst ((orderOf ds).map fun j => V.int (j : Nat))), J.laid (t' := tk2) kk (Nat.le_refl _) ⟨by rw [vo.length, hol]; omega, out, c, vo, ho⟩, rfl, q _ (J.hok.fresh (Nat.le_refl _))⟩

/-- sorted(range .., key=lambda number: levels[number]), levels in the slot i -/
def tSort (K : PySem.W.Frag) (P : Addr) (nm : Nat → Nat → Str) (i : Nat) (tr : TE) : TE := fun σ H Q => tr σ H fun v H1 => ∃ (rg lv : Addr) (xs : List V) (ds : List PyData), v = .ref rg ∧ H1 rg = some (.rng 0 (xs.length : Int)) ∧ σ[i]? = some (some (.ref lv)) ∧ H1 lv = some (.lst xs) ∧
  DpAll K H1 xs ds ∧ AllAlike ds ∧ Sortable ds ∧ (∀ d ∈ ds, d.depth < 60) ∧ TabN H1 P nm ∧ ∀ H2 p, ExtN H1 H2 → (∀ b, H2 b = Option.none → H1 b = Option.none) → TabN H2 P nm → H2 p = none → Q (.ref p) (upd H2 p (.lst ((orderOf ds).map fun j => V.int (j : Nat))))
theorem sql_ext {K : PySem.W.Frag} {H H1 : Hp} {a : Addr} {xs : List V} (e : ExtN H H1) (h : SqL K H a xs) : SqL K H1 a xs := by
  rcases h with (h | ⟨o, h⟩) | h
  · exact .inl (.inl (e _ _ h fun _ z => nomatch z))
  · exact .inl (.inr ⟨o, e _ _ h fun _ z => nomatch z⟩)
  · exact .inr h
theorem sqt_ext {K : PySem.W.Frag} {H H1 : Hp} {a : Addr} {xs : List V} (e : ExtN H H1) (h : SqT K H a xs) : SqT K H1 a xs := by
  rcases h with (h | ⟨o, h⟩) | h
  · exact .inl (.inl (e _ _ h fun _ z => nomatch z))
  · exact .inl (.inr ⟨o, e _ _ h fun _ z => nomatch z⟩)
  · exact .inr h
mutual
theorem dp_ext {K : PySem.W.Frag} {H H1 : Hp} (e : ExtN H H1) : ∀ (d : PyData) (v : V), Dp K H v d → Dp K H1 v d
  | _, _, .non => .non
  | _, _, .bl b => .bl b
  | _, _, .int i => .int i
  | _, _, .str x => .str x
  | _, _, .lst a b => .lst (sql_ext e a) (dpAll_ext e _ _ b)
  | _, _, .tup a b => .tup (sqt_ext e a) (dpAll_ext e _ _ b)
theorem dpAll_ext {K : PySem.W.Frag} {H H1 : Hp} (e : ExtN H H1) : ∀ (ds : List PyData) (xs : List V), DpAll K H xs ds → DpAll K H1 xs ds
  | _, _, .nil => .nil
  | _, _, .cons a b => .cons (dp_ext e _ _ a) (dpAll_ext e _ _ b)
end
theorem pe_sortLam {P c : Addr} {nm : Nat → Nat → Str} {i : Nat} {tr : TA} {e : Expr} {p1 p2 p3 pp lp kp sp pos : Pos} (hcal : X.calm = true) (hr : Room 3 X.A) (hg : Gl X "sorted") (hm : X.mg "sorted" = none) (ha : PA X [e] tr) (TB : TabB X.base X.mg c P) (hcode : X.env.code = .ref c)
    (hn : nm lp.line lp.col = X.env.qual ++ "<lambda>") (hN : X.N[i]? = some ("levels" : Str)) (hk : X.env.scope.names.lookup ("levels" : Str) = some .cell)
    (hdef : defaultsOf (lamP pp) X.env = ([], []) := by rfl) (he : backTo pos (starEach [e] X.env) = (false, eval e X.env) :: backTo pos (starEach [] X.env) := by rfl) (hpl : (backTo pos (starEach [e] X.env)).any (·.1) = false := by rfl) :
    PE X (.Call (.Name "sorted" sp) [e] [⟨some "key", .Lambda (lamP pp) (lamB p1 p2 p3) lamS lp, kp⟩] pos) (fun σ H Q => tr σ H fun vs H1 => ∃ (rg lv : Addr) (xs : List V) (ds : List PyData), vs = [.ref rg] ∧ H1 rg = some (.rng 0 (xs.length : Int)) ∧ σ[i]? = some (some (.ref lv)) ∧ H1 lv = some (.lst xs) ∧
      DpAll X.K H1 xs ds ∧ AllAlike ds ∧ Sortable ds ∧ (∀ d ∈ ds, d.depth < 60) ∧ TabN H1 P nm ∧ ∀ H2 p, ExtN H1 H2 → (∀ b, H2 b = Option.none → H1 b = Option.none) → TabN H2 P nm → H2 p = none → Q (.ref p) (upd H2 p (.lst ((orderOf ds).map fun j => V.int (j : Nat))))) := by
  refine ⟨fun pins s σ H Q I h => ?_⟩
  refine wpAny_Call_Name_kw (ld_blt I hg hm (u := .builtin "sorted") (by decide +kernel) ?_)
  refine PyProof.Rows.callWith_kw (thn (ha.run pos pins s σ H _ I h) fun us s1 ⟨vs, H1, I1, r1, rg, lv, xs, ds, ev, h1, h2, h3, h4, h5, h6, h7, h8, q⟩ => ?_) he hpl rfl rfl
  subst ev
  rw [Vals.ref1 r1]
  refine kws_cons (lam_made I1 TB hcode hn h8 (fun y hy hy2 => I1.ok.has _ (.inl ?_)) hdef fun f c' H2 s2 I2 eN nn T2 f0 f1 c1 => kws_nil ?_)
  · rcases List.mem_cons.mp hy with e | hy
    · rw [e] at hy2
      cases hy2
    · rw [List.mem_singleton.mp hy]
      exact hk
  show wpAny _ _ (call (.builtin "sorted") [.ref rg] [(Str.ofString "key", .ref f)]) _ _ _
  obtain ⟨m, hns, hl⟩ := I2.loc
  obtain ⟨u, ru, lk⟩ := hl i ("levels" : Str) (.ref lv) hN h2 (.inr (.inl hk))
  obtain rfl : u = Value.ref lv := ru
  have hcc : ∃ cL, X.env.cells.lookup ("levels" : Str) = some cL ∧ s2.heap.IsCell cL (some (.ref lv)) := by
    rcases lk with ⟨hk2, _⟩ | ⟨_, cL, e1, e2⟩
    · have hk3 : X.env.scope.names.lookup ("levels" : Str) = some .local := hk2
      rw [hk] at hk3
      cases hk3
    · exact ⟨cL, e1, e2⟩
  obtain ⟨cL, e1, e2⟩ := hcc
  have hcl : (cloFrom X.env.cells lamS.names []).lookup ("levels" : Str) = some cL := clo_has (fun y hy hy2 => by
    rcases List.mem_cons.mp hy with e | hy
    · rw [e] at hy2
      cases hy2
    · rw [List.mem_singleton.mp hy]
      exact ⟨cL, e1⟩) (.tail _ (.head _)) e1
  exact sort_run I2 hcal hr (eN _ _ h1 fun _ z => nomatch z) f1 c1 hcl e2 (.of (eN _ _ h3 fun _ z => nomatch z)) (dpAll_ext eN _ _ h4) h5 h6 h7 fun p np => q H2 p eN nn T2 np
end
end Fl
end

section
/-! the data that the program compares, and their order as the specification tells it -/
namespace Fx
open Ih IhFiling PySem PySem.W PyProof.Rows
/-- data of one kind, compared as f says -/
structure OrdD {α : Type} (enc : α → PyData) (f : α → α → Ordering) : Prop where
  al : ∀ a b, alike (enc a) (enc b) = true
  eq : ∀ a b, PyData.eqv (enc a) (enc b) = (f a b == .eq)
  lt : ∀ a b, dataLt (enc a) (enc b) = (f a b == .lt)
theorem al_list {α : Type} {enc : α → PyData} {f : α → α → Ordering} (O : OrdD enc f) : ∀ l m : List α, alikeAll (l.map enc) (m.map enc) = true
  | [], _ => by simp [alikeAll]
  | _ :: _, [] => by simp [alikeAll]
  | a :: l, b :: m => by
    rw [List.map_cons, List.map_cons, alikeAll, O.al a b, al_list O l m]
    rfl
theorem eqv_list {α : Type} {enc : α → PyData} {f : α → α → Ordering} (O : OrdD enc f) : ∀ l m : List α, PyData.eqvAll (l.map enc) (m.map enc) = (rows f l m == .eq)
  | [], [] => by simp [PyData.eqvAll, rows]
  | [], _ :: _ => by simp [PyData.eqvAll, rows]
  | _ :: _, [] => by simp [PyData.eqvAll, rows]
  | a :: l, b :: m => by
    rw [List.map_cons, List.map_cons, PyData.eqvAll, O.eq a b, eqv_list O l m, rows_cons]
    cases f a b <;> rfl
theorem lt_list {α : Type} {enc : α → PyData} {f : α → α → Ordering} (O : OrdD enc f) : ∀ l m : List α, PyProof.Rows.lexLt itemOrd (keyToksAll (l.map enc)) (keyToksAll (m.map enc)) = (rows f l m == .lt)
  | [], [] => by
    simp only [List.map_nil, keyToksAll]
    rw [lex_irrefl]
    rfl
  | [], b :: m => by
    rw [List.map_nil, List.map_cons, toks_all_cons]
    simp only [keyToksAll]
    rw [lex_diff (O := itemOrd) (by simp)]
    simp [itemLt, rows]
  | a :: l, [] => by
    rw [List.map_nil, List.map_cons, toks_all_cons]
    simp only [keyToksAll]
    rw [lex_diff (O := itemOrd) (by simp)]
    simp [itemLt, rows]
  | a :: l, b :: m => by
    rw [List.map_cons, List.map_cons, rows_cons]
    have h1 := O.al a b
    have h2 := O.eq a b
    cases h : f a b with
    | eq =>
      rw [h] at h2
      rw [dataLt_all_yes h1 h2, lt_list O l m]
      rfl
    | lt =>
      rw [h] at h2
      rw [dataLt_all_no h1 h2, O.lt a b, h]
      rfl
    | gt =>
      rw [h] at h2
      rw [dataLt_all_no h1 h2, O.lt a b, h]
      rfl
theorem OrdD.list {α : Type} {enc : α → PyData} {f : α → α → Ordering} (O : OrdD enc f) : OrdD (fun l : List α => .list (l.map enc)) (rows f) where
  al l m := by
    rw [alike]
    exact al_list O l m
  eq l m := by
    rw [PyData.eqv]
    exact eqv_list O l m
  lt l m := by
    rw [dataLt_list]
    exact lt_list O l m
abbrev natD (n : Nat) : PyData := .int (n : Int)
theorem ordD_nat : OrdD natD nats where
  al a b := by simp [alike]
  eq a b := by
    rcases Nat.lt_trichotomy a b with h | h | h
    · rw [nats_lt.mpr h]; simp [PyData.eqv]; omega
    · rw [nats_eq.mpr h]; simp [PyData.eqv]; omega
    · rw [nats_gt.mpr h]; simp [PyData.eqv]; omega
  lt a b := by
    rw [dataLt_int]
    rcases Nat.lt_trichotomy a b with h | h | h
    · rw [nats_lt.mpr h]; simp; omega
    · rw [nats_eq.mpr h]; simp; omega
    · rw [nats_gt.mpr h]; simp; omega
abbrev elemD (e : Elem) : PyData := .tuple [natD e.1, natD e.2]
theorem rows_pair (a b : Elem) : rows nats [a.1, a.2] [b.1, b.2] = elem a b := by
  rw [rows_cons, rows_cons]
  unfold elem
  cases nats a.1 b.1 <;> cases nats a.2 b.2 <;> rfl
theorem ordD_elem : OrdD elemD elem where
  al a b := by simp [alike, alikeAll]
  eq a b := by
    rw [← rows_pair, PyData.eqv]
    exact eqv_list ordD_nat [a.1, a.2] [b.1, b.2]
  lt a b := by
    rw [← rows_pair, dataLt_tuple]
    exact lt_list ordD_nat [a.1, a.2] [b.1, b.2]
abbrev natsD (l : List Nat) : PyData := .list (l.map natD)
abbrev wordD (l : List Elem) : PyData := .list (l.map elemD)
abbrev wordsD (l : List (List Elem)) : PyData := .list (l.map wordD)
theorem ordD_nats : OrdD natsD (rows nats) := ordD_nat.list
theorem ordD_word : OrdD wordD (rows elem) := ordD_elem.list
theorem ordD_words : OrdD wordsD (rows (rows elem)) := ordD_word.list
/-- the first level's row -/
def firstD (way : Nat) (ws : List (List Elem)) : PyData := if way = 1 then wordD ws.flatten else wordsD ws
/-- a text's four rows -/
def levD (k : Ih.Code) (t : Text) : PyData := .list [firstD k.way (k.filed t), natsD (k.accents t), natsD (k.marks t), natsD t]
theorem firstD_al (k : Ih.Code) (a b : List (List Elem)) : alike (firstD k.way a) (firstD k.way b) = true := by
  unfold firstD
  split
  · exact ordD_word.al _ _
  · exact ordD_words.al _ _
theorem firstD_eq (k : Ih.Code) (hw : k.way ≤ 1) (a b : List (List Elem)) : PyData.eqv (firstD k.way a) (firstD k.way b) = (k.first a b == .eq) := by
  unfold firstD Ih.Code.first
  by_cases h : k.way = 1
  · rw [if_pos h, if_pos h, if_neg (by omega)]
    exact ordD_word.eq _ _
  · rw [if_neg h, if_neg h, if_pos (by omega)]
    exact ordD_words.eq _ _
theorem firstD_lt (k : Ih.Code) (hw : k.way ≤ 1) (a b : List (List Elem)) : dataLt (firstD k.way a) (firstD k.way b) = (k.first a b == .lt) := by
  unfold firstD Ih.Code.first
  by_cases h : k.way = 1
  · rw [if_pos h, if_pos h, if_neg (by omega)]
    exact ordD_word.lt _ _
  · rw [if_neg h, if_neg h, if_pos (by omega)]
    exact ordD_words.lt _ _
theorem firstD_ne (w : Nat) (a : List (List Elem)) : firstD w a ≠ .none ∧ ∀ xs, firstD w a ≠ .tuple xs := by
  unfold firstD
  split <;> exact ⟨nofun, nofun⟩
theorem levD_al (k : Ih.Code) (a b : Text) : alike (levD k a) (levD k b) = true := by
  unfold levD
  rw [alike, alikeAll, alikeAll, alikeAll, alikeAll, firstD_al, ordD_nats.al (k.accents a), ordD_nats.al (k.marks a), ordD_nats.al a]
  simp [alikeAll]
theorem levD_lt (k : Ih.Code) (hw : k.way ≤ 1) (a b : Text) : dataLt (levD k a) (levD k b) = (levO k a b == .lt) := by
  unfold levD levO lev1
  rw [dataLt_list]
  have one : ∀ {x y : PyData} {xs ys : List PyData} {o o' : Ordering}, alike x y = true → PyData.eqv x y = (o == .eq) → dataLt x y = (o == .lt) → PyProof.Rows.lexLt itemOrd (keyToksAll xs) (keyToksAll ys) = (o' == .lt) →
      PyProof.Rows.lexLt itemOrd (keyToksAll (x :: xs)) (keyToksAll (y :: ys)) = (o.then o' == .lt) := by
    intro x y xs ys o o' h1 h2 h3 h4
    cases o with
    | eq => rw [dataLt_all_yes h1 h2, h4]; rfl
    | lt => rw [dataLt_all_no h1 h2, h3]; rfl
    | gt => rw [dataLt_all_no h1 h2, h3]; rfl
  refine one (firstD_al k _ _) (firstD_eq k hw _ _) (firstD_lt k hw _ _) (one (ordD_nats.al _ _) (ordD_nats.eq _ _) (ordD_nats.lt _ _) (one (ordD_nats.al _ _) (ordD_nats.eq _ _) (ordD_nats.lt _ _) ?_))
  have h := one (o' := .eq) (xs := []) (ys := []) (ordD_nats.al a b) (ordD_nats.eq a b) (ordD_nats.lt a b) (by simp only [keyToksAll]; rw [lex_irrefl]; rfl)
  rw [h]
  cases rows nats a b <;> rfl
/-! sizes and shapes -/
theorem depth_nats : ∀ l : List Nat, PyData.depthAll (l.map natD) = 0
  | [] => by simp [PyData.depthAll]
  | a :: l => by rw [List.map_cons, PyData.depthAll, depth_nats l]; simp [PyData.depth]
theorem depth_elems : ∀ l : List Elem, PyData.depthAll (l.map elemD) ≤ 1
  | [] => by simp [PyData.depthAll]
  | a :: l => by
    have := depth_elems l
    rw [List.map_cons, PyData.depthAll]
    simp [PyData.depth, PyData.depthAll]
    omega
theorem depth_words : ∀ l : List (List Elem), PyData.depthAll (l.map wordD) ≤ 2
  | [] => by simp [PyData.depthAll]
  | a :: l => by
    have h1 := depth_words l
    have h2 := depth_elems a
    rw [List.map_cons, PyData.depthAll]
    simp only [PyData.depth]
    omega
theorem depth_first (w : Nat) (ws : List (List Elem)) : (firstD w ws).depth ≤ 3 := by
  unfold firstD
  split
  · have := depth_elems ws.flatten
    simp only [PyData.depth]
    omega
  · have := depth_words ws
    simp only [PyData.depth]
    omega
theorem depth_natsD (l : List Nat) : (natsD l).depth ≤ 1 := by
  have := depth_nats l
  simp only [PyData.depth]
  omega
theorem depth_lev (k : Ih.Code) (t : Text) : (levD k t).depth ≤ 4 := by
  have h1 := depth_first k.way (k.filed t)
  have h2 := depth_natsD (k.accents t)
  have h3 := depth_natsD (k.marks t)
  have h4 := depth_natsD t
  unfold levD
  simp only [PyData.depth, PyData.depthAll] at *
  omega
theorem lay_nats : ∀ l : List Nat, PyData.canLayAll0 (l.map natD) = true
  | [] => by simp [PyData.canLayAll0]
  | a :: l => by simp [PyData.canLayAll0, PyData.canLay0, lay_nats l]
theorem lay_elems : ∀ l : List Elem, PyData.canLayAll0 (l.map elemD) = true
  | [] => by simp [PyData.canLayAll0]
  | a :: l => by simp [PyData.canLayAll0, PyData.canLay0, lay_elems l]
theorem lay_words : ∀ l : List (List Elem), PyData.canLayAll0 (l.map wordD) = true
  | [] => by simp [PyData.canLayAll0]
  | a :: l => by
    have h := lay_elems a
    simp only [List.map_cons, PyData.canLayAll0, PyData.canLay0, lay_words l, h]
    rfl
theorem lay_texts : ∀ l : List (List Nat), PyData.canLayAll0 (l.map natsD) = true
  | [] => by simp [PyData.canLayAll0]
  | a :: l => by
    have h := lay_nats a
    simp only [List.map_cons, PyData.canLayAll0, PyData.canLay0, lay_texts l, h]
    rfl
theorem shape_of {d : PyData} (h1 : d.canLay0 = true) (h2 : d.depth ≤ 64) : SeqAt.shaped d = true := by
  show (d.canLay0 && decide (d.depth ≤ 64)) = true
  rw [h1, decide_eq_true h2]
  rfl
theorem shaped_nats (l : List Nat) : SeqAt.shaped (natsD l) = true := shape_of (by simp only [PyData.canLay0]; exact lay_nats l) (Nat.le_trans (depth_natsD l) (by decide))
theorem shaped_word (l : List Elem) : SeqAt.shaped (wordD l) = true := shape_of (by simp only [PyData.canLay0]; exact lay_elems l) (by have := depth_elems l; simp only [PyData.depth]; omega)
theorem shaped_words (l : List (List Elem)) : SeqAt.shaped (wordsD l) = true := shape_of (by simp only [PyData.canLay0]; exact lay_words l) (by have := depth_words l; simp only [PyData.depth]; omega)
theorem depth_texts : ∀ l : List (List Nat), PyData.depthAll (l.map natsD) ≤ 1
  | [] => by simp [PyData.depthAll]
  | a :: l => by
    have h1 := depth_texts l
    have h2 := depth_natsD a
    rw [List.map_cons, PyData.depthAll]
    omega
theorem shaped_texts (l : List (List Nat)) : SeqAt.shaped (.list (l.map natsD)) = true := shape_of (by simp only [PyData.canLay0]; exact lay_texts l) (by have := depth_texts l; simp only [PyData.depth]; omega)
theorem eqv_nats (a b : List Nat) : PyData.eqv (natsD a) (natsD b) = decide (a = b) := by
  rw [ordD_nats.eq]
  cases h : rows nats a b with
  | eq => rw [ordT_rn.eq a b h]; simp
  | lt => have : a ≠ b := fun e => by subst e; rw [ordT_rn.rfl] at h; cases h
          simp [this]
  | gt => have : a ≠ b := fun e => by subst e; rw [ordT_rn.rfl] at h; cases h
          simp [this]
theorem eqv_word (a b : List Elem) : PyData.eqv (wordD a) (wordD b) = decide (a = b) := by
  rw [ordD_word.eq]
  cases h : rows elem a b with
  | eq => rw [ordR1.eq a b h]; simp
  | lt => have : a ≠ b := fun e => by subst e; rw [(show rows elem a a = .eq from ordR1.rfl a)] at h; cases h
          simp [this]
  | gt => have : a ≠ b := fun e => by subst e; rw [(show rows elem a a = .eq from ordR1.rfl a)] at h; cases h
          simp [this]
theorem eqv_words (a b : List (List Elem)) : PyData.eqv (wordsD a) (wordsD b) = decide (a = b) := by
  rw [ordD_words.eq]
  cases h : rows (rows elem) a b with
  | eq => rw [ordT_rr.eq a b h]; simp
  | lt => have : a ≠ b := fun e => by subst e; rw [ordT_rr.rfl] at h; cases h
          simp [this]
  | gt => have : a ≠ b := fun e => by subst e; rw [ordT_rr.rfl] at h; cases h
          simp [this]
end Fx
end

section
namespace Fp
open PySem PySem.Spec PyProof.Rows L2
/-! ### the text by places -/
def top (i : Nat) : Stmt := PySem.Challenge.pw_indexfile_s01_answers.main.body.getD i (.Pass ⟨0, 0, 0, 0⟩)
/-! ### attributes by their places -/
theorem lk_of : ∀ {fs : List (Str × V)} {ns : List Str} {k : Str} {n : Nat} {v : V}, fs.map (·.1) = ns → ns.findIdx? (fun x => k == x) = some n → (fs[n]?).map (·.2) = some v → fs.lookup k = some v
  | [], ns, k, n, v, h1, h2, h3 => by simp at h3
  | (f, x) :: r, ns, k, n, v, h1, h2, h3 => by
    subst h1
    rw [List.map_cons, List.findIdx?_cons] at h2
    cases e : k == f with
    | true =>
      have h4 : n = 0 := by simpa [e] using h2.symm
      subst h4
      simp only [List.lookup, e]
      simpa using h3
    | false =>
      simp only [e, Bool.false_eq_true, if_false] at h2
      cases h5 : (r.map (·.1)).findIdx? (fun x => k == x) with
      | none => rw [h5] at h2; simp at h2
      | some m =>
        rw [h5] at h2
        have h6 : n = m + 1 := by simpa using h2.symm
        subst h6
        simp only [List.lookup, e]
        exact lk_of rfl h5 (by simpa using h3)
theorem lk_not : ∀ {fs : List (Str × V)} {ns : List Str} {k : Str}, fs.map (·.1) = ns → (ns.any fun x => k == x) = false → fs.lookup k = none
  | [], _, _, _, _ => rfl
  | (f, x) :: r, ns, k, h1, h2 => by
    subst h1
    rw [List.map_cons, List.any_cons, Bool.or_eq_false_iff] at h2
    have e : (k == f) = false := h2.1
    simp only [List.lookup, e]
    exact lk_not rfl h2.2
theorem put_new : ∀ {fs : List (Str × V)} {ns : List Str} {k : Str} {v : V}, fs.map (·.1) = ns → (ns.any fun x => k == x) = false → putF k v fs = fs ++ [(k, v)]
  | [], _, _, _, _, _ => rfl
  | (f, x) :: r, ns, k, v, h1, h2 => by
    subst h1
    rw [List.map_cons, List.any_cons, Bool.or_eq_false_iff] at h2
    have e : ¬ f = k := fun z => by
      subst z
      have := h2.1
      simp at this
    show (if f = k then (f, v) :: r else (f, x) :: putF k v r) = (f, x) :: (r ++ [(k, v)])
    rw [if_neg e, put_new rfl h2.2]
theorem put_at : ∀ {fs : List (Str × V)} {ns : List Str} {k : Str} {n : Nat} {v : V}, fs.map (·.1) = ns → ns.findIdx? (fun x => k == x) = some n → putF k v fs = fs.set n (k, v)
  | [], ns, k, n, v, h1, h2 => by subst h1; simp at h2
  | (f, x) :: r, ns, k, n, v, h1, h2 => by
    subst h1
    rw [List.map_cons, List.findIdx?_cons] at h2
    cases e : k == f with
    | true =>
      have h4 : n = 0 := by simpa [e] using h2.symm
      have h5 : k = f := by simpa using e
      subst h4 h5
      show (if k = k then (k, v) :: r else (k, x) :: putF k v r) = _
      rw [if_pos rfl]
      rfl
    | false =>
      have h5 : ¬ f = k := fun z => by subst z; simp at e
      simp only [e, Bool.false_eq_true, if_false] at h2
      cases h6 : (r.map (·.1)).findIdx? (fun x => k == x) with
      | none => rw [h6] at h2; simp at h2
      | some m =>
        rw [h6] at h2
        have h7 : n = m + 1 := by simpa using h2.symm
        subst h7
        show (if f = k then (f, v) :: r else (f, x) :: putF k v r) = _
        rw [if_neg h5, put_at rfl h6]
        rfl
/-! ### rows -/
def vi (l : List Nat) : List V := l.map fun (n : Nat) => V.int (n : Int)
def refs (l : List Addr) : List V := l.map V.ref
theorem vi_len (l : List Nat) : (vi l).length = l.length := List.length_map ..
theorem refs_len (l : List Addr) : (refs l).length = l.length := List.length_map ..
theorem vi_at {l : List Nat} {i : Nat} {n : Nat} (h : l[i]? = some n) : (vi l)[i]? = some (.int (n : Int)) := by simp [vi, h]
theorem refs_at' {l : List Addr} {i : Nat} {a : Addr} (h : l[i]? = some a) : (refs l)[i]? = some (.ref a) := by simp [refs, h]
theorem vi_of {l : List Nat} {i : Nat} {x : V} (h : (vi l)[i]? = some x) : ∃ n, l[i]? = some n ∧ x = .int (n : Int) := by
  unfold vi at h
  rw [List.getElem?_map] at h
  cases e : l[i]? with
  | none => rw [e] at h; cases h
  | some n => rw [e] at h; exact ⟨n, rfl, (Option.some.inj h).symm⟩
theorem refs_of {l : List Addr} {i : Nat} {x : V} (h : (refs l)[i]? = some x) : ∃ n, l[i]? = some n ∧ x = .ref n := by
  unfold refs at h
  rw [List.getElem?_map] at h
  cases e : l[i]? with
  | none => rw [e] at h; cases h
  | some n => rw [e] at h; exact ⟨n, rfl, (Option.some.inj h).symm⟩
theorem vi_app (l m : List Nat) : vi (l ++ m) = vi l ++ vi m := List.map_append
theorem refs_app (l m : List Addr) : refs (l ++ m) = refs l ++ refs m := List.map_append
def All2 {α β : Type} (P : α → β → Prop) : List α → List β → Prop
  | [], [] => True
  | a :: l, b :: m => P a b ∧ All2 P l m
  | _, _ => False
section
variable {α β : Type} {P Q : α → β → Prop}
theorem All2.len : ∀ {l : List α} {m : List β}, All2 P l m → l.length = m.length
  | [], [], _ => rfl
  | a :: l, b :: m, h => congrArg Nat.succ (All2.len h.2)
  | [], _ :: _, h => h.elim
  | _ :: _, [], h => h.elim
theorem All2.mono (f : ∀ a b, P a b → Q a b) : ∀ {l : List α} {m : List β}, All2 P l m → All2 Q l m
  | [], [], _ => trivial
  | a :: l, b :: m, h => ⟨f a b h.1, All2.mono f h.2⟩
  | [], _ :: _, h => h.elim
  | _ :: _, [], h => h.elim
theorem All2.app : ∀ {l l' : List α} {m m' : List β}, All2 P l m → All2 P l' m' → All2 P (l ++ l') (m ++ m')
  | [], _, [], _, _, h => h
  | a :: l, _, b :: m, _, h, h' => ⟨h.1, All2.app h.2 h'⟩
  | [], _, _ :: _, _, h, _ => h.elim
  | _ :: _, _, [], _, h, _ => h.elim
theorem All2.at1 : ∀ {l : List α} {m : List β} {i : Nat} {a : α}, All2 P l m → l[i]? = some a → ∃ b, m[i]? = some b ∧ P a b
  | [], [], i, a, _, h => by simp at h
  | x :: l, y :: m, 0, a, h, e => by
    simp at e
    subst e
    exact ⟨y, rfl, h.1⟩
  | x :: l, y :: m, i + 1, a, h, e => by
    obtain ⟨b, h1, h2⟩ := All2.at1 (i := i) h.2 (by simpa using e)
    exact ⟨b, by simpa using h1, h2⟩
  | [], _ :: _, _, _, h, _ => h.elim
  | _ :: _, [], _, _, h, _ => h.elim
theorem All2.at2 : ∀ {l : List α} {m : List β} {i : Nat} {b : β}, All2 P l m → m[i]? = some b → ∃ a, l[i]? = some a ∧ P a b
  | [], [], i, a, _, h => by simp at h
  | x :: l, y :: m, 0, a, h, e => by
    simp at e
    subst e
    exact ⟨x, rfl, h.1⟩
  | x :: l, y :: m, i + 1, a, h, e => by
    obtain ⟨b, h1, h2⟩ := All2.at2 (i := i) h.2 (by simpa using e)
    exact ⟨b, by simpa using h1, h2⟩
  | [], _ :: _, _, _, h, _ => h.elim
  | _ :: _, [], _, _, h, _ => h.elim
theorem All2.drop : ∀ {l : List α} {m : List β} (i : Nat), All2 P l m → All2 P (l.drop i) (m.drop i)
  | _, _, 0, h => h
  | [], [], _ + 1, _ => trivial
  | a :: l, b :: m, i + 1, h => All2.drop i h.2
  | [], _ :: _, _ + 1, h => h.elim
  | _ :: _, [], _ + 1, h => h.elim
theorem All2.take : ∀ {l : List α} {m : List β} (i : Nat), All2 P l m → All2 P (l.take i) (m.take i)
  | _, _, 0, h => trivial
  | [], [], _ + 1, _ => trivial
  | a :: l, b :: m, i + 1, h => ⟨h.1, All2.take i h.2⟩
  | [], _ :: _, _ + 1, h => h.elim
  | _ :: _, [], _ + 1, h => h.elim
end
/-! ### what stays: all that's tracked but dicts -/
def NoD (o : HO) : Prop := ∀ kvs, o ≠ .dK kvs
def Kp (H H' : Hp) : Prop := ∀ b o, H b = some o → NoD o → H' b = some o
theorem Kp.refl (H : Hp) : Kp H H := fun _ _ h _ => h
theorem Kp.trans {H H1 H2 : Hp} (a : Kp H H1) (b : Kp H1 H2) : Kp H H2 := fun c o h n => b c o (a c o h n) n
theorem Kp.of {H H' : Hp} (h : Same H H') : Kp H H' := fun b o e _ => h b o e
theorem Kp.lst {H H' : Hp} (k : Kp H H') {a : Addr} {xs : List V} (h : H a = some (.lst xs)) : H' a = some (.lst xs) := k a _ h fun _ z => nomatch z
theorem Kp.tup {H H' : Hp} (k : Kp H H') {a : Addr} {xs : List V} (h : H a = some (.tup xs)) : H' a = some (.tup xs) := k a _ h fun _ z => nomatch z
theorem Kp.ins {H H' : Hp} (k : Kp H H') {a C dx : Addr} {fs : List (Str × V)} (h : H a = some (.ins C dx fs)) : H' a = some (.ins C dx fs) := k a _ h fun _ z => nomatch z
theorem Same.new {H : Hp} {p : Addr} {o : HO} (h : H p = none) : Same H (upd H p o) := fun b u e => by rw [upd_ne (ne_of_none e h)]; exact e
/-! ### number lists and lists of them -/
def NL (H : Hp) (a : Addr) (l : List Nat) : Prop := H a = some (.lst (vi l))
def LL (P : Hp → Addr → β → Prop) (H : Hp) (a : Addr) (ms : List β) : Prop := ∃ as, H a = some (.lst (refs as)) ∧ All2 (P H) as ms
theorem NL.kp {H H' : Hp} (k : Kp H H') {a : Addr} {l : List Nat} (h : NL H a l) : NL H' a l := k.lst h
theorem nl_kp {H H' : Hp} (k : Kp H H') (a : Addr) (b : List Nat) (h : NL H a b) : NL H' a b := h.kp k
theorem LL.kp {P : Hp → Addr → β → Prop} (f : ∀ {H H' : Hp}, Kp H H' → ∀ a b, P H a b → P H' a b) {H H' : Hp} (k : Kp H H') {a : Addr} {ms : List β} (h : LL P H a ms) : LL P H' a ms := by
  obtain ⟨as, h1, h2⟩ := h
  exact ⟨as, k.lst h1, h2.mono (f k)⟩
/-! ### the classes' addresses -/
structure Ad where
  rule : Addr
  part : Addr
  book : Addr
  turn : Addr
  code : Addr
  filed : Addr
  call : Addr
  reader : Addr
  desk : Addr
def b2n (b : Bool) : Nat := if b = true then 1 else 0
/-! ### rules -/
def rNums (r : Ih.Rule) : List Nat := [r.from_, r.to_, r.kind, b2n r.rise, r.mark, r.accent, r.weight]
abbrev nFirst : Str := "first"
abbrev rNames : List Str := ["first", "last", "kind", "rise", "mark", "accent", "weight"]
def ruleF (r : Ih.Rule) : List (Str × V) := [("first", .int (r.from_ : Nat)), ("last", .int (r.to_ : Nat)), ("kind", .int (r.kind : Nat)), ("rise", .int (b2n r.rise : Nat)), ("mark", .int (r.mark : Nat)), ("accent", .int (r.accent : Nat)), ("weight", .int (r.weight : Nat))]
def RuleAt (A : Ad) (H : Hp) (a : Addr) (r : Ih.Rule) : Prop := ∃ dx, H a = some (.ins A.rule dx (ruleF r))
theorem RuleAt.kp {A : Ad} {H H' : Hp} (k : Kp H H') (a : Addr) (r : Ih.Rule) (h : RuleAt A H a r) : RuleAt A H' a r := by
  obtain ⟨dx, h⟩ := h
  exact ⟨dx, k.ins h⟩
/-! ### parts -/
def itemIs : Ih.Item → Nat → Nat → Nat → Nat → Prop
  | .letter w a m, kd, w', a', m' => kd = 0 ∧ w' = w ∧ a' = a ∧ m' = m
  | .digit v, kd, w', _, _ => kd = 1 ∧ w' = v
  | .sign w, kd, w', _, _ => kd = 2 ∧ w' = w
def partF (kd w ac mk : Nat) : List (Str × V) := [("kind", .int (kd : Nat)), ("weight", .int (w : Nat)), ("accent", .int (ac : Nat)), ("mark", .int (mk : Nat))]
def PartAt (A : Ad) (H : Hp) (a : Addr) (it : Ih.Item) : Prop := ∃ dx kd w ac mk, H a = some (.ins A.part dx (partF kd w ac mk)) ∧ itemIs it kd w ac mk
theorem PartAt.kp {A : Ad} {H H' : Hp} (k : Kp H H') (a : Addr) (it : Ih.Item) (h : PartAt A H a it) : PartAt A H' a it := by
  obtain ⟨dx, kd, w, ac, mk, h, i⟩ := h
  exact ⟨dx, kd, w, ac, mk, k.ins h, i⟩
def PartsT (A : Ad) (H : Hp) (t : Addr) (its : List Ih.Item) : Prop := ∃ as, H t = some (.tup (refs as)) ∧ All2 (PartAt A H) as its
theorem PartsT.kp {A : Ad} {H H' : Hp} (k : Kp H H') {a : Addr} {its : List Ih.Item} (h : PartsT A H a its) : PartsT A H' a its := by
  obtain ⟨as, h1, h2⟩ := h
  exact ⟨as, k.tup h1, h2.mono (PartAt.kp k)⟩
/-! ### the book -/
def itemsB (rules : List Ih.Rule) (spells : List Ih.Text) (c : Nat) : List Ih.Item := Ih.Code.items ⟨0, spells, [], [], rules⟩ c
def ownV (rs : List Addr) : Option Nat → V
  | none => .non
  | some i => .ref (rs.getD i 0)
def KnownOk (A : Ad) (U : List Nat) (H : Hp) (rules : List Ih.Rule) (spells : List Ih.Text) (kvs : List (Key × V)) : Prop :=
  (∀ p ∈ kvs, ∃ (c : Nat) (t : Addr), p = (.inl (c : Int), .ref t) ∧ c ∈ U ∧ PartsT A H t (itemsB rules spells c)) ∧ (kvs.map (·.1)).Nodup
def bookF (rl sl st ow kd : Addr) : List (Str × V) := [("rules", .ref rl), ("spellings", .ref sl), ("starts", .ref st), ("owners", .ref ow), ("known", .ref kd)]
/-- all of a book but what it remembers -/
def BookS (A : Ad) (H : Hp) (b kd : Addr) (rules : List Ih.Rule) (spells : List Ih.Text) : Prop := ∃ (dx rl sl st ow : Addr) (rs : List Addr) (starts : List Nat),
  H b = some (.ins A.book dx (bookF rl sl st ow kd)) ∧ H rl = some (.lst (refs rs)) ∧ All2 (RuleAt A H) rs rules ∧ LL NL H sl spells ∧
  Fx.Starts rules starts ∧ NL H st starts ∧ H ow = some (.lst ((Fx.ownersOf rules starts).map (ownV rs)))
def BookAt (A : Ad) (U : List Nat) (H : Hp) (b : Addr) (rules : List Ih.Rule) (spells : List Ih.Text) : Prop := ∃ (kd : Addr) (kvs : List (Key × V)),
  BookS A H b kd rules spells ∧ H kd = some (.dK kvs) ∧ KnownOk A U H rules spells kvs
theorem BookS.kp {A : Ad} {H H' : Hp} (k : Kp H H') {b kd : Addr} {rules : List Ih.Rule} {spells : List Ih.Text} (h : BookS A H b kd rules spells) : BookS A H' b kd rules spells := by
  obtain ⟨dx, rl, sl, st, ow, rs, starts, h1, h2, h3, h4, h5, h6, h7⟩ := h
  exact ⟨dx, rl, sl, st, ow, rs, starts, k.ins h1, k.lst h2, h3.mono (RuleAt.kp k), h4.kp nl_kp k, h5, h6.kp k, k.lst h7⟩
theorem KnownOk.kp {A : Ad} {U : List Nat} {H H' : Hp} (k : Kp H H') {rules : List Ih.Rule} {spells : List Ih.Text} {kvs : List (Key × V)} (h : KnownOk A U H rules spells kvs) : KnownOk A U H' rules spells kvs :=
  ⟨fun p hp => by
    obtain ⟨c, t, e, hc, ht⟩ := h.1 p hp
    exact ⟨c, t, e, hc, ht.kp k⟩, h.2⟩
theorem BookAt.same {A : Ad} {U : List Nat} {H H' : Hp} (k : Same H H') {b : Addr} {rules : List Ih.Rule} {spells : List Ih.Text} (h : BookAt A U H b rules spells) : BookAt A U H' b rules spells := by
  obtain ⟨kd, kvs, h1, h2, h3⟩ := h
  exact ⟨kd, kvs, h1.kp (.of k), k _ _ h2, h3.kp (.of k)⟩
/-! ### turns, a code -/
def turnF (f b : Addr) (w : Bool) : List (Str × V) := [("front", .ref f), ("brought", .ref b), ("whole", .int (b2n w : Nat))]
def TurnAt (A : Ad) (H : Hp) (a : Addr) (t : Ih.Turn) : Prop := ∃ dx f b, H a = some (.ins A.turn dx (turnF f b t.whole)) ∧ NL H f t.f ∧ NL H b t.t
theorem TurnAt.kp {A : Ad} {H H' : Hp} (k : Kp H H') (a : Addr) (t : Ih.Turn) (h : TurnAt A H a t) : TurnAt A H' a t := by
  obtain ⟨dx, f, b, h1, h2, h3⟩ := h
  exact ⟨dx, f, b, k.ins h1, h2.kp k, h3.kp k⟩
/-- what holds of every code that the calls can make -/
structure Good (U : List Nat) (k : Ih.Code) : Prop where
  way : k.way ≤ 1
  sp : k.spells.length ≤ 256
  sp4 : ∀ s ∈ k.spells, s.length ≤ 4
  tn : k.turns.length ≤ 64
  tn12 : ∀ t ∈ k.turns, t.t.length ≤ 12
  tnU : ∀ t ∈ k.turns, ∀ c ∈ t.t, c ∈ U
  ar : k.articles.length ≤ 32
  rl : k.rules.length ≤ 1024
def codeF (way : Nat) (sp tn ar b : Addr) : List (Str × V) := [("way", .int (way : Nat)), ("spellings", .ref sp), ("turns", .ref tn), ("articles", .ref ar), ("book", .ref b)]
structure Gh where
  sp : Addr
  tn : Addr
  ar : Addr
  b : Addr
def CodeS (A : Ad) (H : Hp) (c : Addr) (g : Gh) (k : Ih.Code) : Prop := ∃ dx, H c = some (.ins A.code dx (codeF k.way g.sp g.tn g.ar g.b)) ∧ LL NL H g.sp k.spells ∧ LL (TurnAt A) H g.tn k.turns ∧ LL NL H g.ar k.articles
def BookK (A : Ad) (U : List Nat) (H : Hp) (b : Addr) (k : Ih.Code) : Prop := ∃ bs, BookAt A U H b k.rules bs ∧ bs <+: k.spells ∧ ∀ r ∈ k.rules, r.right k.rules bs = true
def CodeAt (A : Ad) (U : List Nat) (H : Hp) (c : Addr) (g : Gh) (k : Ih.Code) : Prop := CodeS A H c g k ∧ BookK A U H g.b k
theorem CodeS.kp {A : Ad} {H H' : Hp} (k : Kp H H') {c : Addr} {g : Gh} {m : Ih.Code} (h : CodeS A H c g m) : CodeS A H' c g m := by
  obtain ⟨dx, h1, h2, h3, h4⟩ := h
  exact ⟨dx, k.ins h1, h2.kp nl_kp k, h3.kp TurnAt.kp k, h4.kp nl_kp k⟩
theorem BookK.same {A : Ad} {U : List Nat} {H H' : Hp} (s : Same H H') {b : Addr} {k : Ih.Code} (h : BookK A U H b k) : BookK A U H' b k := by
  obtain ⟨bs, h1, h2, h3⟩ := h
  exact ⟨bs, h1.same s, h2, h3⟩
theorem CodeAt.same {A : Ad} {U : List Nat} {H H' : Hp} (s : Same H H') {c : Addr} {g : Gh} {k : Ih.Code} (h : CodeAt A U H c g k) : CodeAt A U H' c g k := ⟨h.1.kp (.of s), h.2.same s⟩
/-! ### what is filed -/
def UnitAt (H : Hp) (t : Addr) (e : Ih.Elem) : Prop := H t = some (.tup [.int (e.1 : Nat), .int (e.2 : Nat)])
theorem unit_kp {H H' : Hp} (k : Kp H H') (a : Addr) (e : Ih.Elem) (h : UnitAt H a e) : UnitAt H' a e := k.tup h
abbrev WordAt : Hp → Addr → List Ih.Elem → Prop := LL UnitAt
theorem word_kp {H H' : Hp} (k : Kp H H') (a : Addr) (e : List Ih.Elem) (h : WordAt H a e) : WordAt H' a e := h.kp unit_kp k
abbrev WordsAt : Hp → Addr → List (List Ih.Elem) → Prop := LL WordAt
theorem words_kp {H H' : Hp} (k : Kp H H') (a : Addr) (e : List (List Ih.Elem)) (h : WordsAt H a e) : WordsAt H' a e := h.kp word_kp k
def filedF (w a m : Addr) : List (Str × V) := [("words", .ref w), ("accents", .ref a), ("marks", .ref m)]
def FiledAt (A : Ad) (H : Hp) (f w a m : Addr) (ws : List (List Ih.Elem)) (ac mk : List Nat) : Prop := (∃ dx, H f = some (.ins A.filed dx (filedF w a m))) ∧ WordsAt H w ws ∧ NL H a ac ∧ NL H m mk
def FirstAt (H : Hp) (f : Addr) (way : Nat) (ws : List (List Ih.Elem)) : Prop := if way = 1 then WordAt H f ws.flatten else WordsAt H f ws
def LevAt (H : Hp) (p : Addr) (k : Ih.Code) (t : Ih.Text) : Prop := ∃ f a m x, H p = some (.lst [.ref f, .ref a, .ref m, .ref x]) ∧ FirstAt H f k.way (k.filed t) ∧ NL H a (k.accents t) ∧ NL H m (k.marks t) ∧ NL H x t
theorem first_kp {H H' : Hp} (k : Kp H H') {a : Addr} {w : Nat} {ws : List (List Ih.Elem)} (h : FirstAt H a w ws) : FirstAt H' a w ws := by
  unfold FirstAt at *
  by_cases e : w = 1
  · rw [if_pos e] at h ⊢
    exact word_kp k _ _ h
  · rw [if_neg e] at h ⊢
    exact words_kp k _ _ h
theorem lev_kp {H H' : Hp} (k : Kp H H') (p : Addr) (c : Ih.Code) (t : Ih.Text) (h : LevAt H p c t) : LevAt H' p c t := by
  obtain ⟨f, a, m, x, h1, h2, h3, h4, h5⟩ := h
  exact ⟨f, a, m, x, k.lst h1, first_kp k h2, h3.kp k, h4.kp k, h5.kp k⟩
/-! ### as data -/
theorem dp_vi {K : PySem.W.Frag} {H : Hp} : ∀ l : List Nat, DpAll K H (vi l) (l.map Fx.natD)
  | [] => .nil
  | a :: l => .cons (.int _) (dp_vi l)
theorem NL.dp {K : PySem.W.Frag} {H : Hp} {a : Addr} {l : List Nat} (h : NL H a l) : Dp K H (.ref a) (Fx.natsD l) := .lst (.of h) (dp_vi l)
theorem dp_refs {K : PySem.W.Frag} {H : Hp} {P : Addr → β → Prop} {enc : β → PyData} (f : ∀ a b, P a b → Dp K H (.ref a) (enc b)) : ∀ {as : List Addr} {ms : List β}, All2 P as ms → DpAll K H (refs as) (ms.map enc)
  | [], [], _ => .nil
  | a :: l, b :: m, h => .cons (f a b h.1) (dp_refs f h.2)
  | [], _ :: _, h => h.elim
  | _ :: _, [], h => h.elim
theorem LL.dp {K : PySem.W.Frag} {H : Hp} {P : Hp → Addr → β → Prop} {enc : β → PyData} (f : ∀ a b, P H a b → Dp K H (.ref a) (enc b)) {a : Addr} {ms : List β} (h : LL P H a ms) : Dp K H (.ref a) (.list (ms.map enc)) := by
  obtain ⟨as, h1, h2⟩ := h
  exact .lst (.of h1) (dp_refs f h2)
theorem unit_dp {K : PySem.W.Frag} {H : Hp} (a : Addr) (e : Ih.Elem) (h : UnitAt H a e) : Dp K H (.ref a) (Fx.elemD e) := .tup (.of h) (.cons (.int _) (.cons (.int _) .nil))
theorem word_dp {K : PySem.W.Frag} {H : Hp} (a : Addr) (e : List Ih.Elem) (h : WordAt H a e) : Dp K H (.ref a) (Fx.wordD e) := h.dp unit_dp
theorem words_dp {K : PySem.W.Frag} {H : Hp} (a : Addr) (e : List (List Ih.Elem)) (h : WordsAt H a e) : Dp K H (.ref a) (Fx.wordsD e) := h.dp word_dp
theorem first_dp {K : PySem.W.Frag} {H : Hp} {a : Addr} {w : Nat} {ws : List (List Ih.Elem)} (h : FirstAt H a w ws) : Dp K H (.ref a) (Fx.firstD w ws) := by
  unfold FirstAt at h
  unfold Fx.firstD
  split at h
  · rename_i e
    rw [if_pos e]
    exact word_dp _ _ h
  · rename_i e
    rw [if_neg e]
    exact words_dp _ _ h
theorem lev_dp {K : PySem.W.Frag} {H : Hp} {p : Addr} {k : Ih.Code} {t : Ih.Text} (h : LevAt H p k t) : Dp K H (.ref p) (Fx.levD k t) := by
  obtain ⟨f, a, m, x, h1, h2, h3, h4, h5⟩ := h
  exact .lst (.of h1) (.cons (first_dp h2) (.cons h3.dp (.cons h4.dp (.cons h5.dp .nil))))
/-! ### what the top has written -/
def CI (mg : Str → Option Value) (x : Str) (n : Nat) : Prop := ∃ u, mg x = some u ∧ RelV (.int (n : Int)) u
structure Tx (K : PySem.W.Frag) (mg : Str → Option Value) (A : Ad) : Prop where
  cRule : Cls K A.rule
  cPart : Cls K A.part
  cBook : Cls K A.book
  cTurn : Cls K A.turn
  cCode : Cls K A.code
  cFiled : Cls K A.filed
  cCall : Cls K A.call
  cReader : Cls K A.reader
  cDesk : Cls K A.desk
  nRule : ∀ x ∈ rNames, NoAttr K A.rule x
  nPart : ∀ x ∈ (["kind", "weight", "accent", "mark"] : List Str), NoAttr K A.part x
  nBook : ∀ x ∈ (["rules", "spellings", "starts", "owners", "known"] : List Str), NoAttr K A.book x
  nTurn : ∀ x ∈ (["front", "brought", "whole"] : List Str), NoAttr K A.turn x
  nCode : ∀ x ∈ (["way", "spellings", "turns", "articles", "book"] : List Str), NoAttr K A.code x
  nFiled : ∀ x ∈ (["words", "accents", "marks"] : List Str), NoAttr K A.filed x
  nCall : ∀ x ∈ (["number", "numbers", "rows"] : List Str), NoAttr K A.call x
  nReader : ∀ x ∈ (["calls", "place"] : List Str), NoAttr K A.reader x
  nDesk : ∀ x ∈ (["code"] : List Str), NoAttr K A.desk x
  len : mg "len" = none
  range : mg "range" = none
  sorted : mg "sorted" = none
  list : mg "list" = none
  tuple : mg "tuple" = none
  any : mg "any" = none
  enum : mg "enumerate" = none
  LETTER : CI mg "LETTER" 0
  DIGIT : CI mg "DIGIT" 1
  SIGN : CI mg "SIGN" 2
  GAP : CI mg "GAP" 3
  SPELLED : CI mg "SPELLED" 5
  NUMBERS_OF_A_RULE : CI mg "NUMBERS_OF_A_RULE" 7
  GREATEST_WEIGHT : CI mg "GREATEST_WEIGHT" 65535
  GREATEST_DIGIT : CI mg "GREATEST_DIGIT" 9
  WORD_BY_WORD : CI mg "WORD_BY_WORD" 0
  RIGHT_THROUGH : CI mg "RIGHT_THROUGH" 1
  RANK_OF_SIGN : CI mg "RANK_OF_SIGN" 0
  RANK_OF_NUMBER : CI mg "RANK_OF_NUMBER" 1
  RANK_OF_LETTER : CI mg "RANK_OF_LETTER" 2
  GROUP_OF_NOTHING : CI mg "GROUP_OF_NOTHING" 0
  GROUP_OF_SIGNS : CI mg "GROUP_OF_SIGNS" 1
  GROUP_OF_NUMBERS : CI mg "GROUP_OF_NUMBERS" 2
  GROUPS_BEFORE_LETTERS : CI mg "GROUPS_BEFORE_LETTERS" 2
  LONGEST_TEXT : CI mg "LONGEST_TEXT" 256
  LONGEST_SPELLING : CI mg "LONGEST_SPELLING" 4
  LONGEST_FRONT : CI mg "LONGEST_FRONT" 8
  LONGEST_BROUGHT : CI mg "LONGEST_BROUGHT" 12
  LONGEST_ARTICLE : CI mg "LONGEST_ARTICLE" 16
  MOST_SPELLINGS : CI mg "MOST_SPELLINGS" 256
  MOST_TURNS : CI mg "MOST_TURNS" 64
  MOST_ARTICLES : CI mg "MOST_ARTICLES" 32
  MOST_RULES : CI mg "MOST_RULES" 1024
  MOST_TEXTS : CI mg "MOST_TEXTS" 4096
/-! ### attributes read -/
section
variable {K : PySem.W.Frag} {mg : Str → Option Value} {A : Ad} {H : Hp} {a : Addr} {f : Str} {v : V} {G : V → Prop}
theorem rd_fld {C dx : Addr} {fs : List (Str × V)} {ns : List Str} (n : Nat) (h : H a = some (.ins C dx fs)) (c : Cls K C) (na : NoAttr K C f) (h1 : fs.map (·.1) = ns) (h2 : ns.findIdx? (fun x => f == x) = some n) (h3 : (fs[n]?).map (·.2) = some v) (g : G v) :
    ∃ a' C dx fs v, V.ref a = .ref a' ∧ H a' = some (.ins C dx fs) ∧ Cls K C ∧ NoAttr K C f ∧ fs.lookup f = some v ∧ G v := ⟨a, C, dx, fs, v, rfl, h, c, na, lk_of h1 h2 h3, g⟩
theorem rd_rule {r : Ih.Rule} (T : Tx K mg A) (h : RuleAt A H a r) (n : Nat) (g : G v) (hm : f ∈ rNames := by decide +kernel) (h2 : rNames.findIdx? (fun x => f == x) = some n := by decide +kernel) (h3 : ((ruleF r)[n]?).map (·.2) = some v := by rfl) :
    ∃ a' C dx fs v, V.ref a = .ref a' ∧ H a' = some (.ins C dx fs) ∧ Cls K C ∧ NoAttr K C f ∧ fs.lookup f = some v ∧ G v := by
  obtain ⟨dx, h⟩ := h
  exact rd_fld n h T.cRule (T.nRule f hm) rfl h2 h3 g
theorem rd_part {dx : Addr} {kd w ac mk : Nat} (T : Tx K mg A) (h : H a = some (.ins A.part dx (partF kd w ac mk))) (n : Nat) (g : G v) (hm : f ∈ (["kind", "weight", "accent", "mark"] : List Str) := by decide +kernel)
    (h2 : (["kind", "weight", "accent", "mark"] : List Str).findIdx? (fun x => f == x) = some n := by decide +kernel) (h3 : ((partF kd w ac mk)[n]?).map (·.2) = some v := by rfl) :
    ∃ a' C dx fs v, V.ref a = .ref a' ∧ H a' = some (.ins C dx fs) ∧ Cls K C ∧ NoAttr K C f ∧ fs.lookup f = some v ∧ G v := rd_fld n h T.cPart (T.nPart f hm) rfl h2 h3 g
theorem rd_book {dx rl sl st ow kd : Addr} (T : Tx K mg A) (h : H a = some (.ins A.book dx (bookF rl sl st ow kd))) (n : Nat) (g : G v) (hm : f ∈ (["rules", "spellings", "starts", "owners", "known"] : List Str) := by decide +kernel)
    (h2 : (["rules", "spellings", "starts", "owners", "known"] : List Str).findIdx? (fun x => f == x) = some n := by decide +kernel) (h3 : ((bookF rl sl st ow kd)[n]?).map (·.2) = some v := by rfl) :
    ∃ a' C dx fs v, V.ref a = .ref a' ∧ H a' = some (.ins C dx fs) ∧ Cls K C ∧ NoAttr K C f ∧ fs.lookup f = some v ∧ G v := rd_fld n h T.cBook (T.nBook f hm) rfl h2 h3 g
theorem rd_turn {dx x y : Addr} {w : Bool} (T : Tx K mg A) (h : H a = some (.ins A.turn dx (turnF x y w))) (n : Nat) (g : G v) (hm : f ∈ (["front", "brought", "whole"] : List Str) := by decide +kernel)
    (h2 : (["front", "brought", "whole"] : List Str).findIdx? (fun x => f == x) = some n := by decide +kernel) (h3 : ((turnF x y w)[n]?).map (·.2) = some v := by rfl) :
    ∃ a' C dx fs v, V.ref a = .ref a' ∧ H a' = some (.ins C dx fs) ∧ Cls K C ∧ NoAttr K C f ∧ fs.lookup f = some v ∧ G v := rd_fld n h T.cTurn (T.nTurn f hm) rfl h2 h3 g
theorem rd_code {dx sp tn ar b : Addr} {way : Nat} (T : Tx K mg A) (h : H a = some (.ins A.code dx (codeF way sp tn ar b))) (n : Nat) (g : G v) (hm : f ∈ (["way", "spellings", "turns", "articles", "book"] : List Str) := by decide +kernel)
    (h2 : (["way", "spellings", "turns", "articles", "book"] : List Str).findIdx? (fun x => f == x) = some n := by decide +kernel) (h3 : ((codeF way sp tn ar b)[n]?).map (·.2) = some v := by rfl) :
    ∃ a' C dx fs v, V.ref a = .ref a' ∧ H a' = some (.ins C dx fs) ∧ Cls K C ∧ NoAttr K C f ∧ fs.lookup f = some v ∧ G v := rd_fld n h T.cCode (T.nCode f hm) rfl h2 h3 g
theorem rd_filed {dx x y z : Addr} (T : Tx K mg A) (h : H a = some (.ins A.filed dx (filedF x y z))) (n : Nat) (g : G v) (hm : f ∈ (["words", "accents", "marks"] : List Str) := by decide +kernel)
    (h2 : (["words", "accents", "marks"] : List Str).findIdx? (fun x => f == x) = some n := by decide +kernel) (h3 : ((filedF x y z)[n]?).map (·.2) = some v := by rfl) :
    ∃ a' C dx fs v, V.ref a = .ref a' ∧ H a' = some (.ins C dx fs) ∧ Cls K C ∧ NoAttr K C f ∧ fs.lookup f = some v ∧ G v := rd_fld n h T.cFiled (T.nFiled f hm) rfl h2 h3 g
end
theorem mem1 {α : Type} {a b : α} : a ∈ [a, b] := List.mem_cons_self
theorem gl {X : Cx} {x : Str} {n : Nat} {pos : Pos} (h : CI X.mg x n) (hg : Gl X x := by rfl) (hd : (x == ("__debug__" : Str)) = false := by decide) : PE X (.Name x pos) (tC (.int (n : Int))) := C8.pe_gc hg h hd
theorem dec_nn (a b : Nat) : decide (V.int (a : Int) = V.int (b : Int)) = decide (a = b) := by
  apply decide_eq_decide.mpr
  constructor
  · intro h
    have := V.int.inj h
    omega
  · rintro rfl
    rfl
/-- the length of a row of the heap is within Python's line -/
theorem line_of {n : Nat} (h : n ≤ 1000000) : n ≤ sizeLine := Nat.le_trans h (by decide)
theorem line_lt {n : Nat} (h : n ≤ 1000000) : n < sizeLine := Nat.lt_of_le_of_lt h (by decide)
end Fp
namespace Fp
open PySem PySem.Spec PyProof.Rows L2
/-! ### instances and tuples stay though lists and dicts are changed -/
def IT : HO → Prop
  | .ins _ _ _ => True
  | .tup _ => True
  | _ => False
def It (H H' : Hp) : Prop := ∀ b o, H b = some o → IT o → H' b = some o
theorem It.of {H H' : Hp} (s : Same H H') : It H H' := fun b o h _ => s b o h
theorem It.trans {H H1 H2 : Hp} (a : It H H1) (b : It H1 H2) : It H H2 := fun c o h i => b c o (a c o h i) i
theorem It.updL {H : Hp} {D : Addr} {xs : List V} {o : HO} (h : H D = some (.lst xs)) : It H (upd H D o) := fun b u e i => by
  rw [upd_ne (fun z => by subst z; rw [h] at e; cases e; exact i)]
  exact e
theorem It.updD {H : Hp} {D : Addr} {xs : List (Key × V)} {o : HO} (h : H D = some (.dK xs)) : It H (upd H D o) := fun b u e i => by
  rw [upd_ne (fun z => by subst z; rw [h] at e; cases e; exact i)]
  exact e
theorem It.kp {H H' : Hp} (k : Kp H H') : It H H' := fun b o h i => k b o h fun kvs z => by subst z; exact i
theorem RuleAt.it {A : Ad} {H H' : Hp} (k : It H H') (a : Addr) (r : Ih.Rule) (h : RuleAt A H a r) : RuleAt A H' a r := by
  obtain ⟨dx, h⟩ := h
  exact ⟨dx, k _ _ h trivial⟩
theorem PartAt.it {A : Ad} {H H' : Hp} (k : It H H') (a : Addr) (it : Ih.Item) (h : PartAt A H a it) : PartAt A H' a it := by
  obtain ⟨dx, kd, w, ac, mk, h, i⟩ := h
  exact ⟨dx, kd, w, ac, mk, k _ _ h trivial, i⟩
theorem PartsT.it {A : Ad} {H H' : Hp} (k : It H H') {a : Addr} {its : List Ih.Item} (h : PartsT A H a its) : PartsT A H' a its := by
  obtain ⟨as, h1, h2⟩ := h
  exact ⟨as, k _ _ h1 trivial, h2.mono (PartAt.it k)⟩
theorem unit_it {H H' : Hp} (k : It H H') (a : Addr) (e : Ih.Elem) (h : UnitAt H a e) : UnitAt H' a e := k _ _ h trivial
/-! ### all but one address -/
def Bt (D : Addr) (H H' : Hp) : Prop := ∀ b o, H b = some o → b ≠ D → H' b = some o
theorem Bt.upd {D : Addr} {H : Hp} {o : HO} : Bt D H (L2.upd H D o) := fun b u e n => by rw [upd_ne n]; exact e
theorem Bt.trans {D : Addr} {H H1 H2 : Hp} (a : Bt D H H1) (b : Bt D H1 H2) : Bt D H H2 := fun c o h n => b c o (a c o h n) n
theorem Bt.of {D : Addr} {H H' : Hp} (s : Same H H') : Bt D H H' := fun b o h _ => s b o h
/-- over a new address: nothing of before is touched -/
theorem Bt.same {D : Addr} {H H' : Hp} (n : H D = none) (b : Bt D H H') : Same H H' := fun c o h => b c o h (ne_of_none h n)
/-! ### walks -/
theorem for_enum {K : PySem.W.Frag} {a : Addr} {xs : List V} {g : TG} {tb : TS} {D : Ends} {σ : L2.St} {H : Hp} (Pv : Nat → L2.St → Hp → Prop) (h0 : Pv 0 σ H) (hl : ∀ i σ H, Pv i σ H → SqL K H a xs)
    (hs : ∀ i x σ H T, xs[i]? = some x → Pv i σ H → H T = none → g (.ref T) σ (upd H T (.tup [.int (i : Nat), x])) fun σ2 H2 => tb { D with nx := Pv (i + 1), ct := Pv (i + 1), bk := D.nx } σ2 H2) (hd : ∀ σ H, Pv xs.length σ H → D.nx σ H) :
    ∃ W : Nat → Nat → L2.St → Hp → Prop, (∃ m, W 0 m σ H) ∧ ∀ i m σ H, W i m σ H → ((Ite K a).stop i H ∧ D.nx σ H) ∨ ((Ite K a).go i H ∧ ∃ N : L2.St → Hp → Prop, (∀ σ' H', N σ' H' → ∃ m', m' < m ∧ W (i + 1) m' σ' H') ∧
      ∀ x H', (Ite K a).yld i H x H' → g x σ H' fun σ2 H2 => tb { D with nx := N, ct := N, bk := D.nx } σ2 H2) := by
  refine ⟨fun i m σ H => m = xs.length - i ∧ i ≤ xs.length ∧ Pv i σ H, ⟨xs.length, rfl, Nat.zero_le _, h0⟩, ?_⟩
  rintro i m σ H ⟨rfl, hi, p⟩
  have q := hl i σ H p
  by_cases hlt : i < xs.length
  · refine .inr ⟨⟨xs, xs[i], q, List.getElem?_eq_getElem hlt⟩, Pv (i + 1), fun σ' H' p' => ⟨xs.length - (i + 1), by omega, rfl, hlt, p'⟩, ?_⟩
    rintro v H' ⟨T, x, rfl, nT, rfl, hx⟩
    exact hs i x σ H T (hx xs q) p nT
  · have e : i = xs.length := by omega
    subst e
    exact .inl ⟨⟨xs, q, Nat.le_refl _⟩, hd σ H p⟩
end Fp
end

section
namespace Fp
open PySem PySem.Spec PyProof.Rows L2
section
variable {P : Program} {w : World} {K : PySem.W.Frag} {mg : Str → Option Value} {base : Heap} {A : Ad}
/-! ### Rule -/
def spRuleI (A : Ad) : Sp := fun vs H Q _ => ∃ (p dx a : Addr) (r : Ih.Rule), vs = [.ref p, .ref a] ∧ H p = some (.ins A.rule dx []) ∧ NL H a (rNums r) ∧ Q .non (upd H p (.ins A.rule dx (ruleF r)))
theorem scRuleI : FnScope ["self", "numbers"] ["self", "numbers"] (C8.fnScope (inClass (top 9) 0)) := ⟨rfl, rfl, rfl, by decide +kernel, rfl, by decide +kernel, by decide +kernel⟩
theorem mak_rule {f : Addr} {fd : FuncData} (T : Tx K mg A) (M : Mk K A.rule f) (hm : mg "Rule" = some (.ref A.rule)) (F : C8.Fun K "__init__" "Rule.__init__" (inClass (top 9) 0) f fd) (b : Binds K fd ["self", "numbers"] []) : C8.Mak P w K mg base 1 "Rule" A.rule (spRuleI A) [] := by
  refine C8.mak0 M hm F b .nil scRuleI (fun vs H Q E h => ?_) (fun cdv B outer s H vs Q E hr h => ?_)
  · obtain ⟨_, _, _, _, rfl, _⟩ := h
    rfl
  · obtain ⟨p, dx, a, r, rfl, h1, h2, q⟩ := h
    refine ⟨_, pss_cons (ps_fld (pv 0) (pe_ix ix_list (pv 1) pe_int (fun _ _ => rfl)) rfl) (pss_cons (ps_fld (pv 0) (pe_ix ix_list (pv 1) pe_int (fun _ _ => rfl)) rfl) (pss_cons (ps_fld (pv 0) (pe_ix ix_list (pv 1) pe_int (fun _ _ => rfl)) rfl)
      (pss_cons (ps_fld (pv 0) (pe_ix ix_list (pv 1) pe_int (fun _ _ => rfl)) rfl) (pss_cons (ps_fld (pv 0) (pe_ix ix_list (pv 1) pe_int (fun _ _ => rfl)) rfl) (pss_cons (ps_fld (pv 0) (pe_ix ix_list (pv 1) pe_int (fun _ _ => rfl)) rfl) (pss_one (ps_fld (pv 0) (pe_ix ix_list (pv 1) pe_int (fun _ _ => rfl)) rfl))))))), ?_⟩
    have hne : a ≠ p := ne_of h2 h1 (fun z => nomatch z)
    have sq : ∀ o, SqL K (upd H p o) a (vi (rNums r)) := fun o => .of (by rw [upd_ne hne]; exact h2)
    have ix : ∀ (i : Nat) (n : Nat), (rNums r)[i]? = some n → atI (vi (rNums r)) (i : Int) = some (.int (n : Int)) := fun i n h => atI_nat (vi_at h)
    refine ⟨_, rfl, a, _, 0, _, rfl, rfl, .of h2, ix 0 _ rfl, _, rfl, p, A.rule, dx, _, rfl, h1, T.cRule, T.nRule _ (by simp [rNames]), (by show 0 < 1000; decide), ?_⟩
    rw [put_new (ns := []) rfl (by decide +kernel)]
    refine ⟨_, rfl, a, _, 1, _, rfl, rfl, sq _, ix 1 _ rfl, _, rfl, p, A.rule, dx, _, rfl, upd_same, T.cRule, T.nRule _ (by simp [rNames]), (by show 1 < 1000; decide), ?_⟩
    rw [upd_upd, put_new (ns := ["first"]) rfl (by decide +kernel)]
    refine ⟨_, rfl, a, _, 2, _, rfl, rfl, sq _, ix 2 _ rfl, _, rfl, p, A.rule, dx, _, rfl, upd_same, T.cRule, T.nRule _ (by simp [rNames]), (by show 2 < 1000; decide), ?_⟩
    rw [upd_upd, put_new (ns := ["first", "last"]) rfl (by decide +kernel)]
    refine ⟨_, rfl, a, _, 3, _, rfl, rfl, sq _, ix 3 _ rfl, _, rfl, p, A.rule, dx, _, rfl, upd_same, T.cRule, T.nRule _ (by simp [rNames]), (by show 3 < 1000; decide), ?_⟩
    rw [upd_upd, put_new (ns := ["first", "last", "kind"]) rfl (by decide +kernel)]
    refine ⟨_, rfl, a, _, 4, _, rfl, rfl, sq _, ix 4 _ rfl, _, rfl, p, A.rule, dx, _, rfl, upd_same, T.cRule, T.nRule _ (by simp [rNames]), (by show 4 < 1000; decide), ?_⟩
    rw [upd_upd, put_new (ns := ["first", "last", "kind", "rise"]) rfl (by decide +kernel)]
    refine ⟨_, rfl, a, _, 5, _, rfl, rfl, sq _, ix 5 _ rfl, _, rfl, p, A.rule, dx, _, rfl, upd_same, T.cRule, T.nRule _ (by simp [rNames]), (by show 5 < 1000; decide), ?_⟩
    rw [upd_upd, put_new (ns := ["first", "last", "kind", "rise", "mark"]) rfl (by decide +kernel)]
    refine ⟨_, rfl, a, _, 6, _, rfl, rfl, sq _, ix 6 _ rfl, _, rfl, p, A.rule, dx, _, rfl, upd_same, T.cRule, T.nRule _ (by simp [rNames]), (by show 6 < 1000; decide), ?_⟩
    rw [upd_upd, put_new (ns := ["first", "last", "kind", "rise", "mark", "accent"]) rfl (by decide +kernel)]
    exact q

/-! ### Rule.weight_at -/
def spWat (A : Ad) : Sp := fun vs H Q _ => ∃ (a : Addr) (c : Nat) (r : Ih.Rule), vs = [.ref a, .int (c : Int)] ∧ RuleAt A H a r ∧ r.from_ ≤ c ∧ Q (.int (r.at_ c : Nat)) H
theorem scWat : FnScope ["self", "character"] ["self", "character"] (C8.fnScope (inClass (top 9) 1)) := ⟨rfl, rfl, rfl, by decide +kernel, rfl, by decide +kernel, by decide +kernel⟩
theorem met_wat {f : Addr} {fd : FuncData} (T : Tx K mg A) (me : Meth K A.rule "weight_at" f) (F : C8.Fun K "weight_at" "Rule.weight_at" (inClass (top 9) 1) f fd) (b : Binds K fd ["self", "character"] []) : C8.Met P w K mg base 1 A.rule "weight_at" (spWat A) [] := by
  refine C8.met0 T.cRule me F b scWat (fun vs H Q E h => ?_) (fun cdv B outer s H vs Q E hr h => ?_)
  · obtain ⟨_, _, _, rfl, _⟩ := h
    rfl
  · obtain ⟨a, c, r, rfl, h, hc, q⟩ := h
    refine ⟨_, pss_one (ps_ret (pe_op op_add (pe_fld (pv 0) rfl) (pe_op op_mul (pe_fld (pv 0) rfl) (pe_op op_sub (pv 1) (pe_fld (pv 0) rfl))))), ?_⟩
    have e : ((r.weight : Nat) : Int) + ((b2n r.rise : Nat) : Int) * ((c : Int) - (r.from_ : Nat)) = ((r.at_ c : Nat) : Int) := by
      unfold Ih.Rule.at_ b2n
      cases r.rise
      · simp
      · simp
        omega
    rw [← e] at q
    have hb : b2n r.rise ≤ 1 := by unfold b2n; split <;> omega
    exact ⟨_, rfl, rd_rule T h 6 ⟨_, rfl, rd_rule T h 3 ⟨_, rfl, ⟨_, rfl, rd_rule T h 0 ⟨_, _, rfl, rfl, ⟨_, _, rfl, rfl, .inl ⟨by omega, by omega⟩, ⟨_, _, rfl, rfl, q⟩⟩⟩⟩⟩⟩⟩
/-! ### Part -/
def spPartI (A : Ad) : Sp := fun vs H Q _ => ∃ (p dx : Addr) (kd wt ac mk : Nat), vs = [.ref p, .int (kd : Int), .int (wt : Int), .int (ac : Int), .int (mk : Int)] ∧ H p = some (.ins A.part dx []) ∧ Q .non (upd H p (.ins A.part dx (partF kd wt ac mk)))
theorem scPartI : FnScope ["self", "kind", "weight", "accent", "mark"] ["self", "kind", "weight", "accent", "mark"] (C8.fnScope (inClass (top 10) 0)) := ⟨rfl, rfl, rfl, by decide +kernel, rfl, by decide +kernel, by decide +kernel⟩
theorem mak_part {f : Addr} {fd : FuncData} (T : Tx K mg A) (M : Mk K A.part f) (hm : mg "Part" = some (.ref A.part)) (F : C8.Fun K "__init__" "Part.__init__" (inClass (top 10) 0) f fd) (b : Binds K fd ["self", "kind", "weight", "accent", "mark"] []) : C8.Mak P w K mg base 1 "Part" A.part (spPartI A) [] := by
  refine C8.mak0 M hm F b .nil scPartI (fun vs H Q E h => ?_) (fun cdv B outer s H vs Q E hr h => ?_)
  · obtain ⟨_, _, _, _, _, _, rfl, _⟩ := h
    rfl
  · obtain ⟨p, dx, kd, wt, ac, mk, rfl, h1, q⟩ := h
    refine ⟨_, pss_cons (ps_fld (pv 0) (pv 1) rfl) (pss_cons (ps_fld (pv 0) (pv 2) rfl) (pss_cons (ps_fld (pv 0) (pv 3) rfl) (pss_one (ps_fld (pv 0) (pv 4) rfl)))), ?_⟩
    refine ⟨_, rfl, _, rfl, p, A.part, dx, _, rfl, h1, T.cPart, T.nPart _ (by simp), (by show 0 < 1000; decide), ?_⟩
    rw [put_new (ns := []) rfl (by decide +kernel)]
    refine ⟨_, rfl, _, rfl, p, A.part, dx, _, rfl, upd_same, T.cPart, T.nPart _ (by simp), (by show 1 < 1000; decide), ?_⟩
    rw [upd_upd, put_new (ns := ["kind"]) rfl (by decide +kernel)]
    refine ⟨_, rfl, _, rfl, p, A.part, dx, _, rfl, upd_same, T.cPart, T.nPart _ (by simp), (by show 2 < 1000; decide), ?_⟩
    rw [upd_upd, put_new (ns := ["kind", "weight"]) rfl (by decide +kernel)]
    refine ⟨_, rfl, _, rfl, p, A.part, dx, _, rfl, upd_same, T.cPart, T.nPart _ (by simp), (by show 3 < 1000; decide), ?_⟩
    rw [upd_upd, put_new (ns := ["kind", "weight", "accent"]) rfl (by decide +kernel)]
    exact q
/-! ### make_part -/
def spMkPart (A : Ad) : Sp := fun vs H Q _ => ∃ (a d : Addr) (c : Nat) (r r2 : Ih.Rule), vs = [.ref a, .int (c : Int), .ref d] ∧ RuleAt A H a r ∧ RuleAt A H d r2 ∧ r.from_ ≤ c ∧
  ∀ H' p dx, Same H H' → H p = none → H' p = some (.ins A.part dx (partF r.kind (r.at_ c) r2.accent r2.mark)) → Q (.ref p) H'
theorem scMkPart : FnScope ["rule", "character", "dress"] ["rule", "character", "dress"] (C8.fnScope (top 12)) := ⟨rfl, rfl, rfl, by decide +kernel, rfl, by decide +kernel, by decide +kernel⟩
theorem same_new {H : Hp} {x dx : Addr} {o o' : HO} (nx : H x = none) (nd : H dx = none) : Same H (upd (upd H dx o) x o') := fun b u e => by rw [upd_ne (ne_of_none e nx), upd_ne (ne_of_none e nd)]; exact e
theorem same_new3 {H : Hp} {x dx : Addr} {o o' u' : HO} (nx : H x = none) (nd : H dx = none) : Same H (upd (upd (upd H dx o) x o') x u') := by
  rw [upd_upd]
  exact same_new nx nd
theorem cal_mkpart {f : Addr} {fd : FuncData} (T : Tx K mg A) (D : C8.Def K mg "make_part" (top 12) f fd) (b : Binds K fd ["rule", "character", "dress"] []) (cP : C8.Mak P w K mg base 1 "Part" A.part (spPartI A) []) (cW : C8.Met P w K mg base 1 A.rule "weight_at" (spWat A) []) : C8.Cal P w K mg base 3 "make_part" (spMkPart A) [] := by
  refine C8.cal0 D b .nil scMkPart (fun vs H Q E h => ?_) (fun cdv B outer s H vs Q E hr h => ?_)
  · obtain ⟨_, _, _, _, _, rfl, _⟩ := h
    rfl
  · obtain ⟨a, d, c, r, r2, rfl, h1, h2, hc, q⟩ := h
    refine ⟨_, pss_one (ps_ret (C8.pe_mk cP hr (by decide) rfl (pa_cons (pe_fld (pv 0) rfl) (pa_cons (C8.pe_mt cW hr (by decide) (pv 0) (pa_cons (pv 1) pa_nil)) (pa_cons (pe_fld (pv 2) rfl) (pa_cons (pe_fld (pv 2) rfl) pa_nil)))))), ?_⟩
    refine ⟨_, rfl, rd_rule T h1 2 ?_⟩
    obtain ⟨dx0, g1⟩ := id h1
    refine ⟨_, rfl, a, dx0, _, rfl, g1, lk_not (ns := rNames) rfl (by decide +kernel), _, rfl, a, c, r, rfl, h1, hc, ?_⟩
    refine ⟨_, rfl, rd_rule T h2 5 ⟨_, rfl, rd_rule T h2 4 fun x dx nx nd ne => ?_⟩⟩
    exact ⟨x, dx, r.kind, r.at_ c, r2.accent, r2.mark, rfl, upd_same, rfl, q _ x dx (same_new3 nx nd) nx upd_same⟩
end
end Fp
end

section
namespace Fp
open PySem PySem.Spec PyProof.Rows L2
section
variable {P : Program} {w : World} {K : PySem.W.Frag} {mg : Str → Option Value} {base : Heap} {A : Ad}
/-! ### RuleBook.rule_of -/
def RuleV (A : Ad) (H : Hp) (rules : List Ih.Rule) (c : Nat) (v : V) : Prop := match Ih.ruleIn rules c with
  | none => v = .non
  | some r => ∃ a, v = .ref a ∧ RuleAt A H a r
def spRuleOf (A : Ad) : Sp := fun vs H Q _ => ∃ (b kd : Addr) (c : Nat) (rules : List Ih.Rule) (spells : List Ih.Text), vs = [.ref b, .int (c : Int)] ∧ BookS A H b kd rules spells ∧ ∀ v, RuleV A H rules c v → Q v H
theorem ruleV_of {H : Hp} {rs : List Addr} {rules : List Ih.Rule} (h : All2 (RuleAt A H) rs rules) (c : Nat) : RuleV A H rules c (ownV rs (Fx.firstIx rules c)) := by
  unfold RuleV
  rw [Fx.firstIx_rule]
  cases e : Fx.firstIx rules c with
  | none => rfl
  | some i =>
    obtain ⟨r, hr, _⟩ := Fx.firstIx_some e
    obtain ⟨a, ha, h2⟩ := h.at2 hr
    simp only [Option.bind_some, hr]
    exact ⟨a, by simp [ownV, ha], h2⟩
theorem scRuleOf : FnScope ["self", "character", "low", "high", "middle"] ["self", "character"] (C8.fnScope (inClass (top 11) 1)) := ⟨rfl, rfl, rfl, by decide +kernel, rfl, by decide +kernel, by decide +kernel⟩
theorem met_ruleof {f : Addr} {fd : FuncData} (T : Tx K mg A) (me : Meth K A.book "rule_of" f) (F : C8.Fun K "rule_of" "RuleBook.rule_of" (inClass (top 11) 1) f fd) (b : Binds K fd ["self", "character"] []) : C8.Met P w K mg base 1 A.book "rule_of" (spRuleOf A) [] := by
  refine C8.met0 T.cBook me F b scRuleOf (fun vs H Q E h => ?_) (fun cdv B outer s H vs Q E hr h => ?_)
  · obtain ⟨_, _, _, _, _, rfl, _⟩ := h
    rfl
  · obtain ⟨b, kd, c, rules, spells, rfl, ⟨dx, rl, sl, st, ow, rs, starts, h1, h2, h3, h4, h5, h6, h7⟩, q⟩ := h
    have nd := scRuleOf.nd
    refine ⟨_, pss_cons (ps_set (i := 2) nd rfl (.inl rfl) pe_int)
      (pss_cons (ps_set (i := 3) nd rfl (.inl rfl) (pe_callB call_len_seq (by rfl) T.len PySem.boot_len (pa_cons (pe_fld (pv 0) rfl) pa_nil)))
      (pss_cons (ps_while PassesOwn.never (pt_cmpR op_gt (pe_op op_sub (pv 3) (pv 2)) pe_int (nomark _))
        (pss_cons (ps_set (i := 4) nd rfl (.inl rfl) (pe_op op_fdiv (pe_op op_add (pv 2) (pv 3)) pe_int))
        (pss_one (ps_if (pt_cmpR op_le (pe_ix ix_list (pe_fld (pv 0) rfl) (pv 4) (fun _ _ => rfl)) (pv 1) (nomark _)) (pss_one (ps_set (i := 2) nd rfl (.inl rfl) (pv 4))) (pss_one (ps_set (i := 3) nd rfl (.inl rfl) (pv 4)))))))
      (pss_one (ps_ret (pe_ix ix_list (pe_fld (pv 0) rfl) (pv 2) (fun _ _ => rfl)))))), ?_⟩
    have len0 : 0 < starts.length := (List.getElem?_eq_some_iff.mp h5.zero).1
    refine ⟨_, rfl, rd_book T h1 2 ⟨st, _, rfl, .inl (.of h6), ?_⟩⟩
    refine ⟨fun m σ H' => ∃ (lo hi : Nat) (mid : Option V), H' = H ∧ σ = [some (.ref b), some (.int (c : Int)), some (.int (lo : Int)), some (.int (hi : Int)), mid] ∧ lo < hi ∧ hi ≤ starts.length ∧ (∀ s, starts[lo]? = some s → s ≤ c) ∧ (∀ s, starts[hi]? = some s → c < s) ∧ m = hi - lo,
      ⟨_, 0, starts.length, none, rfl, by rw [vi_len]; rfl, len0, Nat.le_refl _, fun s hs => by rw [h5.zero] at hs; cases hs; exact Nat.zero_le _, fun s hs => by simp at hs, rfl⟩, ?_⟩
    rintro m σ H' ⟨lo, hi, mid, rfl, rfl, hlt, hle, hlo, hhi, rfl⟩
    refine ⟨_, rfl, _, rfl, _, _, rfl, rfl, _, _, rfl, rfl, _, rfl, ite2 (fun hgt => ?_) (fun hgt => ?_)⟩
    · have hgt' : 1 < (hi : Int) - lo := by simpa using hgt
      have hmid : ((lo : Int) + hi) / 2 = (((lo + hi) / 2 : Nat) : Int) := by omega
      refine ⟨fun σ' H2 => ∃ (lo' hi' : Nat) (mid : Option V), H2 = H' ∧ σ' = [some (.ref b), some (.int (c : Int)), some (.int (lo' : Int)), some (.int (hi' : Int)), mid] ∧ lo' < hi' ∧ hi' ≤ starts.length ∧ (∀ s, starts[lo']? = some s → s ≤ c) ∧ (∀ s, starts[hi']? = some s → c < s) ∧ hi' - lo' < hi - lo,
        fun σ' H2 ⟨lo', hi', mid', a1, a2, a3, a4, a5, a6, a7⟩ => ⟨_, a7, lo', hi', mid', a1, a2, a3, a4, a5, a6, rfl⟩, ?_⟩
      refine ⟨_, rfl, _, rfl, _, _, rfl, rfl, _, _, rfl, rfl, ⟨by decide, by decide⟩, ?_⟩
      have hml : (lo + hi) / 2 < starts.length := by omega
      have hms : starts[(lo + hi) / 2]? = some (starts[(lo + hi) / 2]'hml) := List.getElem?_eq_getElem hml
      refine ⟨_, rfl, rd_book T h1 2 ⟨_, rfl, st, _, _, _, rfl, rfl, .of h6, (by rw [hmid]; exact atI_nat (vi_at hms)), _, rfl, _, _, rfl, rfl, _, rfl, ite2 (fun hle2 => ?_) (fun hle2 => ?_)⟩⟩
      · have h8 : starts[(lo + hi) / 2]'hml ≤ c := by simpa using hle2
        exact ⟨_, rfl, (lo + hi) / 2, hi, _, rfl, by rw [← hmid]; rfl, by omega, hle, fun s hs => by rw [hms] at hs; cases hs; exact h8, hhi, by omega⟩
      · have h8 : c < starts[(lo + hi) / 2]'hml := by simpa using hle2
        exact ⟨_, rfl, lo, (lo + hi) / 2, _, rfl, by rw [← hmid]; rfl, by omega, by omega, hlo, fun s hs => by rw [hms] at hs; cases hs; exact h8, by omega⟩
    · have hgt' : ¬ 1 < (hi : Int) - lo := by simpa using hgt
      have e : hi = lo + 1 := by omega
      subst e
      have hml : lo < starts.length := by omega
      have hms : starts[lo]? = some (starts[lo]'hml) := List.getElem?_eq_getElem hml
      have hv : ((Fx.ownersOf rules starts).map (ownV rs))[lo]? = some (ownV rs (Fx.firstIx rules (starts[lo]'hml))) := by
        unfold Fx.ownersOf
        rw [List.getElem?_map, List.getElem?_map, hms]
        rfl
      refine ⟨_, rfl, rd_book T h1 3 ⟨_, rfl, ow, _, _, _, rfl, rfl, .of h7, atI_nat hv, ?_⟩⟩
      rw [Fx.firstIx_stretch h5 hms (hlo _ hms) hhi]
      exact q _ (ruleV_of h3 c)
/-! ### RuleBook.is_gap -/
def gapB (rules : List Ih.Rule) (c : Nat) : Bool := Ih.Code.gap ⟨0, [], [], [], rules⟩ c
def spIsGap (A : Ad) : Sp := fun vs H Q _ => ∃ (b kd : Addr) (c : Nat) (rules : List Ih.Rule) (spells : List Ih.Text), vs = [.ref b, .int (c : Int)] ∧ BookS A H b kd rules spells ∧ Q (.bl (gapB rules c)) H
theorem scIsGap : FnScope ["self", "character", "rule"] ["self", "character"] (C8.fnScope (inClass (top 11) 2)) := ⟨rfl, rfl, rfl, by decide +kernel, rfl, by decide +kernel, by decide +kernel⟩
theorem met_isgap {f : Addr} {fd : FuncData} (T : Tx K mg A) (me : Meth K A.book "is_gap" f) (F : C8.Fun K "is_gap" "RuleBook.is_gap" (inClass (top 11) 2) f fd) (b : Binds K fd ["self", "character"] []) (cR : C8.Met P w K mg base 1 A.book "rule_of" (spRuleOf A) []) : C8.Met P w K mg base 2 A.book "is_gap" (spIsGap A) [] := by
  refine C8.met0 T.cBook me F b scIsGap (fun vs H Q E h => ?_) (fun cdv B outer s H vs Q E hr h => ?_)
  · obtain ⟨_, _, _, _, _, rfl, _⟩ := h
    rfl
  · obtain ⟨b, kd, c, rules, spells, rfl, hb, q⟩ := h
    have nd := scIsGap.nd
    refine ⟨_, pss_cons (ps_set (i := 2) nd rfl (.inl rfl) (C8.pe_mt cR hr (by decide) (pv 0) (pa_cons (pv 1) pa_nil)))
      (pss_one (ps_ret (pe_and (pe_cmp (pc_notN (pv 2)) rfl) (pe_one (pe_cmpR op_eq (pe_fld (pv 2) rfl) (gl T.GAP) (nomark _)))))), ?_⟩
    obtain ⟨dx, rl, sl, st, ow, rs, starts, h1, _⟩ := id hb
    refine ⟨_, rfl, b, dx, _, rfl, h1, lk_not (ns := ["rules", "spellings", "starts", "owners", "known"]) rfl (by decide +kernel), _, rfl, b, kd, c, rules, spells, rfl, hb, fun v hv => ?_⟩
    unfold RuleV at hv
    unfold gapB Ih.Code.gap at q
    cases e : Ih.ruleIn rules c with
    | none =>
      rw [e] at hv
      subst hv
      refine ⟨_, rfl, _, rfl, ?_⟩
      simp only [e] at q
      exact q
    | some r =>
      rw [e] at hv
      obtain ⟨a, rfl, ha⟩ := hv
      refine ⟨_, rfl, _, rfl, ?_⟩
      simp only [e] at q
      refine ⟨_, rfl, rd_rule T ha 2 ⟨rfl, ?_⟩⟩
      have e2 : decide (V.int (r.kind : Nat) = V.int ((3 : Nat) : Int)) = (r.kind == 3) := by
        rw [dec_nn]
        by_cases z : r.kind = 3
        · simp [z]
        · simp [z]
      rw [e2]
      exact q
end
end Fp
end

section
namespace Fp
open PySem PySem.Spec PyProof.Rows L2
theorem cut_at {l : List V} {i n : Nat} : cutV l (some (i : Int)) (some ((i : Int) + (n : Int))) = (l.drop i).take n := by
  unfold cutV
  have e : ((i : Int) + (n : Int)) = ((i + n : Nat) : Int) := by omega
  rw [e, HT.sIx_nat, HT.sIx_nat]
  by_cases h : i ≤ l.length
  · rw [Nat.min_eq_left h]
    by_cases h2 : i + n ≤ l.length
    · rw [Nat.min_eq_left h2, Nat.add_sub_cancel_left]
    · rw [Nat.min_eq_right (by omega), List.take_of_length_le (by rw [List.length_drop]; omega), List.take_of_length_le (by rw [List.length_drop]; omega)]
  · rw [Nat.min_eq_right (show l.length ≤ i by omega), List.drop_eq_nil_of_le (Nat.le_refl _), List.drop_eq_nil_of_le (show l.length ≤ i by omega)]
    simp
theorem vi_cut {l : List Nat} {i n : Nat} : ((vi l).drop i).take n = vi ((l.drop i).take n) := by
  unfold vi
  rw [List.map_take, List.map_drop]
theorem nums7 : ∀ (rules : List Ih.Rule) (i : Nat) (r : Ih.Rule), rules[i]? = some r → ((rules.flatMap rNums).drop (i * 7)).take 7 = rNums r
  | [], i, r, h => by simp at h
  | a :: l, 0, r, h => by
    simp at h
    subst h
    rfl
  | a :: l, i + 1, r, h => by
    have ih := nums7 l i r (by simpa using h)
    have e : (i + 1) * 7 = (rNums a).length + i * 7 := by simp [rNums]; omega
    rw [List.flatMap_cons, e, List.drop_append, List.drop_eq_nil_of_le (Nat.le_add_right _ _), Nat.add_sub_cancel_left, List.nil_append]
    exact ih
theorem nums_len : ∀ rules : List Ih.Rule, (rules.flatMap rNums).length = rules.length * 7
  | [] => rfl
  | a :: l => by
    rw [List.flatMap_cons, List.length_append, nums_len l, List.length_cons]
    simp [rNums]
    omega
theorem rg7 (n : Nat) (h : n ≤ 100000) : RgC 0 (((n * 7 : Nat)) : Int) 7 n := by
  have hs : Builtin.Range.rangeSize 0 ((n * 7 : Nat) : Int) 7 = n := by
    rw [rangeSize_pos (by decide) (by omega)]
    omega
  refine ⟨by decide, by decide, ?_, hs⟩
  have fits : ∀ i : Int, 0 ≤ i → i < 1000000000 → Builtin.Range.rangeFitsLong i = true := fun i h1 h2 => by
    unfold Builtin.Range.rangeFitsLong
    rw [Bool.and_eq_true]
    exact ⟨decide_eq_true (by omega), decide_eq_true (by omega)⟩
  unfold Builtin.Range.small
  rw [hs, fits 0 (by decide) (by decide), fits _ (by omega) (by omega), fits 7 (by decide) (by decide), fits _ (by omega) (by omega), if_pos (by decide), fits _ (by omega) (by omega)]
  simp
section
variable {P : Program} {w : World} {K : PySem.W.Frag} {mg : Str → Option Value} {base : Heap} {A : Ad}
/-! ### read_rules -/
def spReadRules (A : Ad) : Sp := fun vs H Q _ => ∃ (a : Addr) (rules : List Ih.Rule), vs = [.ref a] ∧ NL H a (rules.flatMap rNums) ∧ rules.length ≤ 1024 ∧
  ∀ H' l rs, Same H H' → H l = none → H' l = some (.lst (refs rs)) → All2 (RuleAt A H') rs rules → Q (.ref l) H'
theorem scReadRules : FnScope ["numbers", "at"] ["numbers"] (C8.fnScope (top 13)) := ⟨rfl, rfl, rfl, by decide +kernel, rfl, by decide +kernel, by decide +kernel⟩
theorem cal_readrules {f : Addr} {fd : FuncData} (T : Tx K mg A) (D : C8.Def K mg "read_rules" (top 13) f fd) (b : Binds K fd ["numbers"] []) (cR : C8.Mak P w K mg base 1 "Rule" A.rule (spRuleI A) []) : C8.Cal P w K mg base 3 "read_rules" (spReadRules A) [] := by
  refine C8.cal0 D b .nil scReadRules (fun vs H Q E h => ?_) (fun cdv B outer s H vs Q E hr h => ?_)
  · obtain ⟨_, _, rfl, _⟩ := h
    rfl
  · obtain ⟨a, rules, rfl, h1, h2, q⟩ := h
    have nd := scReadRules.nd
    have hr' := hr
    refine ⟨_, pss_one (ps_ret (pe_lc (own := [("at", 1)]) (g := gName 1) (tt := tYes) rfl nd (pi_range3 (by rfl) T.range (pa_cons pe_int (pa_cons (pe_callB call_len_seq (by rfl) T.len PySem.boot_len (pa_cons (pv 0) pa_nil)) (pa_cons (gl T.NUMBERS_OF_A_RULE) pa_nil))))
      (blkOk_by (own := [("at", 1)]) (N := ["numbers", "at"]) (sc := C8.fnScope (top 13)) (by decide +kernel)) (fun _ _ _ _ _ => pg_name (i := 1) nd rfl (Or.inl rfl)) (fun _ _ _ _ _ => pts_nil)
      (fun _ _ _ _ _ => C8.pe_mk cR hr' (by decide) (by rfl) (pa_cons (pe_slice (r := rSlL K) sl_list (pv 0) (po_some (pv 1)) (po_some (pe_op op_add (pv 1) (gl T.NUMBERS_OF_A_RULE)))) pa_nil)))), ?_⟩
    refine ⟨_, rfl, a, _, rfl, .inl (.of h1), 0, _, 7, rules.length, rfl, ?_, fun L nL => ?_⟩
    · rw [vi_len, nums_len]
      exact rg7 _ (by omega)
    have rowL := fun (H' : Hp) (x : V) (xs : List V) => (x, xs)
    refine ⟨fun i m H' => m = rules.length - i ∧ i ≤ rules.length ∧ Same H H' ∧ ∃ as, H' L = some (.lst (refs as)) ∧ All2 (RuleAt A H') as (rules.take i), ⟨_, rfl, Nat.zero_le _, Same.new nL, [], upd_same, trivial⟩, ?_⟩
    rintro i m H' ⟨rfl, hi, hs, as, hL, hR⟩
    by_cases hlt : i < rules.length
    · refine .inr ⟨hlt, fun H2 => Same H H2 ∧ ∃ as, H2 L = some (.lst (refs as)) ∧ All2 (RuleAt A H2) as (rules.take (i + 1)), fun H2 z => ⟨_, by omega, rfl, hlt, z⟩, ?_⟩
      rintro x H2 ⟨rfl, rfl⟩
      have hri : rules[i]? = some (rules[i]'hlt) := List.getElem?_eq_getElem hlt
      refine ⟨rfl, ?_⟩
      refine ⟨_, rfl, ⟨_, rfl, _, rfl, ⟨_, rfl, ⟨_, _, rfl, rfl, _, rfl, ?_⟩⟩⟩⟩
      refine ⟨a, vi (rules.flatMap rNums), rfl, .of (hs _ _ h1), fun p np => fun x dx nx ndx ne => ?_⟩
      have ecut : cutV (vi (rules.flatMap rNums)) (some (0 + ((i : Nat) : Int) * 7)) (some (0 + ((i : Nat) : Int) * 7 + ((7 : Nat) : Int))) = vi (rNums (rules[i]'hlt)) := by
        have e0 : (0 : Int) + ((i : Nat) : Int) * 7 = ((i * 7 : Nat) : Int) := by omega
        rw [e0, cut_at, vi_cut, nums7 rules i _ hri]
      rw [ecut] at nx ndx ⊢
      have s2 : Same H2 (upd (upd (upd H2 p (.lst (vi (rNums (rules[i]'hlt))))) dx (.own x)) x (.ins A.rule dx [])) := (Same.new np).trans (same_new nx ndx)
      have s3 : Same H2 (upd (upd (upd (upd H2 p (.lst (vi (rNums (rules[i]'hlt))))) dx (.own x)) x (.ins A.rule dx [])) x (.ins A.rule dx (ruleF (rules[i]'hlt)))) := (Same.new np).trans (same_new3 nx ndx)
      have hpx : p ≠ x := ne_of_none upd_same nx
      have hpd : p ≠ dx := ne_of_none upd_same ndx
      refine ⟨x, dx, p, rules[i]'hlt, rfl, upd_same, ?_, rfl, refs as, s3 _ _ hL, ?_, ?_⟩
      · show upd _ _ _ _ = _
        rw [upd_ne hpx, upd_ne hpd]
        exact upd_same
      · rw [refs_len, hR.len, List.length_take]
        exact line_lt (by omega)
      · have hL3 := s3 _ _ hL
        have it := (It.of s3).trans (It.updL (o := .lst (refs as ++ [V.ref x])) hL3)
        refine ⟨fun c o hc => ?_, as ++ [x], by rw [refs_app]; exact upd_same, ?_⟩
        · rw [upd_ne (ne_of_none hc nL)]
          exact s3 _ _ (hs _ _ hc)
        · rw [List.take_add_one, hri]
          refine (hR.mono (RuleAt.it it)).app ⟨⟨dx, ?_⟩, trivial⟩
          rw [upd_ne (ne_of_none hL (by
            have : (upd H2 p (.lst (vi (rNums (rules[i]'hlt))))) x = none := nx
            unfold upd at this
            split at this
            · cases this
            · exact this)).symm]
          exact upd_same
    · have e : i = rules.length := by omega
      subst e
      refine .inl ⟨Nat.le_refl _, ?_⟩
      rw [List.take_length] at hR
      exact q _ L as hs nL hL hR
/-! ### stretch_starts -/
def addK (ks : List Nat) (k : Nat) : List Nat := if k ∈ ks then ks else ks ++ [k]
theorem addK_nodup {ks : List Nat} {k : Nat} (h : ks.Nodup) : (addK ks k).Nodup := by
  unfold addK
  split
  · exact h
  · rename_i n
    rw [List.nodup_append]
    exact ⟨h, by simp, fun a ha b hb => by rw [List.mem_singleton] at hb; subst hb; intro e; subst e; exact n ha⟩
theorem addK_mem {ks : List Nat} {k x : Nat} : x ∈ addK ks k ↔ x ∈ ks ∨ x = k := by
  unfold addK
  split
  · constructor
    · exact .inl
    · rintro (h | rfl)
      · exact h
      · assumption
  · simp
theorem addK_len (ks : List Nat) (k : Nat) : (addK ks k).length ≤ ks.length + 1 := by
  unfold addK
  split
  · omega
  · simp
abbrev kInl (n : Nat) : Key := Sum.inl (n : Int)
theorem putK_keys {kvs : List (Key × V)} {ks : List Nat} (h : kvs.map (·.1) = ks.map kInl) (k : Nat) (v : V) : (putK kvs (kInl k) v).map (·.1) = (addK ks k).map kInl := by
  have hm : (kvs.any fun kv => decide (kv.1 = kInl k)) = decide (k ∈ ks) := by
    have e1 : (kvs.any fun kv => decide (kv.1 = kInl k)) = (kvs.map (·.1)).any fun x => decide (x = kInl k) := by rw [List.any_map]; rfl
    rw [e1, h, List.any_map]
    by_cases q : k ∈ ks
    · rw [decide_eq_true q, List.any_eq_true]
      exact ⟨k, q, by simp⟩
    · rw [decide_eq_false q, List.any_eq_false]
      intro x hx e
      have e2 : kInl x = kInl k := by simpa using e
      have e3 : (x : Int) = k := Sum.inl.inj e2
      have e4 : x = k := by omega
      exact q (e4 ▸ hx)
  unfold putK addK
  rw [hm]
  by_cases q : k ∈ ks
  · rw [decide_eq_true q, if_pos rfl, if_pos q, List.map_map, ← h]
    apply List.map_congr_left
    intro kv _
    show (if kv.1 = kInl k then (kv.1, v) else kv).1 = kv.1
    split <;> rfl
  · rw [decide_eq_false q, if_neg Bool.false_ne_true, if_neg q, List.map_append, List.map_append, h]
    rfl
def spStarts (A : Ad) : Sp := fun vs H Q _ => ∃ (a : Addr) (rs : List Addr) (rules : List Ih.Rule), vs = [.ref a] ∧ H a = some (.lst (refs rs)) ∧ All2 (RuleAt A H) rs rules ∧ rules.length ≤ 1024 ∧
  ∀ H' p starts, Same H H' → H p = none → NL H' p starts → Fx.Starts rules starts → starts.length ≤ 2049 → Q (.ref p) H'
theorem scStarts : FnScope ["rules", "starts", "rule"] ["rules"] (C8.fnScope (top 14)) := ⟨rfl, rfl, rfl, by decide +kernel, rfl, by decide +kernel, by decide +kernel⟩
theorem starts_of {rules : List Ih.Rule} {ks starts : List Nat} (hp : starts.Perm ks) (ha : starts.Pairwise (· < ·)) (h0 : 0 ∈ ks) (he : ∀ r ∈ rules, r.from_ ≤ r.to_ → r.from_ ∈ ks ∧ r.to_ + 1 ∈ ks) : Fx.Starts rules starts := by
  refine ⟨ha, ?_, fun r hr hft => ⟨hp.mem_iff.mpr (he r hr hft).1, hp.mem_iff.mpr (he r hr hft).2⟩, fun p hpl s hs r hr => ?_⟩
  · obtain ⟨i, hi⟩ := List.getElem?_of_mem (hp.mem_iff.mpr h0)
    cases i with
    | zero => exact hi
    | succ i =>
      have hl : i + 1 < starts.length := (List.getElem?_eq_some_iff.mp hi).1
      have e0 : starts[0]? = some (starts[0]'(by omega)) := List.getElem?_eq_getElem (by omega)
      have := (Fx.asc_at ha e0 hi).1.mp (by omega)
      omega
  · cases e : Fx.cov r s with
    | false => rfl
    | true =>
      obtain ⟨h1, h2⟩ := Fx.cov_iff.mp e
      obtain ⟨i, hi⟩ := List.getElem?_of_mem (hp.mem_iff.mpr (he r hr (by omega)).2)
      have hl : i < starts.length := (List.getElem?_eq_some_iff.mp hi).1
      have := (Fx.asc_at ha hs hi).1.mpr (by omega)
      omega
theorem nats_of_perm {ys : List Int} {ks : List Nat} (h : ys.Perm (ks.map fun (n : Nat) => (n : Int))) : ∃ zs : List Nat, ys = zs.map (fun (n : Nat) => (n : Int)) ∧ zs.Perm ks := by
  refine ⟨ys.map Int.toNat, ?_, ?_⟩
  · rw [List.map_map]
    have : ∀ y ∈ ys, ((fun n : Nat => (n : Int)) ∘ Int.toNat) y = y := fun y hy => by
      obtain ⟨n, _, e⟩ := List.mem_map.mp (h.mem_iff.mp hy)
      show ((y.toNat : Nat) : Int) = y
      omega
    rw [List.map_congr_left this, List.map_id']
  · have := h.map Int.toNat
    rw [List.map_map] at this
    have e : ks.map (Int.toNat ∘ fun n : Nat => (n : Int)) = ks := by
      exact (List.map_congr_left (g := id) fun a _ => rfl).trans (List.map_id ks)
    rw [e] at this
    exact this
theorem cal_starts {f : Addr} {fd : FuncData} (T : Tx K mg A) (D : C8.Def K mg "stretch_starts" (top 14) f fd) (b : Binds K fd ["rules"] []) : C8.Cal P w K mg base 1 "stretch_starts" (spStarts A) [] := by
  refine C8.cal0 D b .nil scStarts (fun vs H Q E h => ?_) (fun cdv B outer s H vs Q E hr h => ?_)
  · obtain ⟨_, _, _, rfl, _⟩ := h
    rfl
  · obtain ⟨a, rs, rules, rfl, h1, h2, h3, q⟩ := h
    have nd := scStarts.nd
    have hu := hu_of hr
    refine ⟨_, pss_cons (ps_set (i := 1) nd rfl (.inl rfl) (pe_disp (pps_cons pe_int pe_bl pps_nil) (by rfl) (by rfl) (fun z => by cases z) (by decide)))
      (pss_cons (ps_for PassesOwn.never rfl (pi_list (pv 0)) (pg_name (i := 2) nd rfl (.inl rfl))
        (pss_one (ps_if (pt_cmpR op_le (pe_fld (pv 2) rfl) (pe_fld (pv 2) rfl) (nomark _))
          (pss_cons (ps_dput hu (pv 1) (pe_fld (pv 2) rfl) pe_bl rfl) (pss_one (ps_dput hu (pv 1) (pe_op op_add (pe_fld (pv 2) rfl) pe_int) pe_bl rfl))) pss_nil)))
      (pss_one (ps_ret (pe_callB (Fr.sortedKeys rfl) (by rfl) T.sorted (by decide +kernel) (pa_cons (pv 1) pa_nil))))), ?_⟩
    refine fun d nd' => ⟨upd_same, [(kInl 0, .bl true)], rfl, by decide, ?_⟩
    rw [upd_upd]
    have hlen := h2.len
    refine ⟨_, rfl, a, rfl, ⟨_, .of (Same.new nd' _ _ h1)⟩, for_list (K := K) (a := a) (xs := refs rs) (fun i σ H' => ∃ (v : Option V) (kvs : List (Key × V)) (ks : List Nat), σ = [some (.ref a), some (.ref d), v] ∧ Same H H' ∧ H' d = some (.dK kvs) ∧ kvs.map (·.1) = ks.map kInl ∧ ks.Nodup ∧ 0 ∈ ks ∧
      (∀ r ∈ rules.take i, r.from_ ≤ r.to_ → r.from_ ∈ ks ∧ r.to_ + 1 ∈ ks) ∧ ks.length ≤ 2 * i + 1) ?_ ?_ ?_ ?_⟩
    · exact ⟨none, mergeK [] [(kInl 0, .bl true)], [0], rfl, Same.new nd', upd_same, rfl, by simp, by simp, fun r hr => by simp at hr, by decide⟩
    · rintro i σ H' _ ⟨v, kvs, ks, rfl, hs, _⟩
      exact .of (hs _ _ h1)
    · rintro i x σ H' hx ⟨v, kvs, ks, rfl, hs, hd, hk, hn, h0, he, hl⟩
      obtain ⟨ra, hra, rfl⟩ := refs_of hx
      obtain ⟨r, hri, hr1⟩ := h2.at1 hra
      have hr2 := hr1.kp (.of hs)
      have hil : i < rules.length := (List.getElem?_eq_some_iff.mp hri).1
      have kl : kvs.length = ks.length := by
        have := congrArg List.length hk
        rwa [List.length_map, List.length_map] at this
      refine ⟨_, rfl, rd_rule T hr2 0 ⟨_, rfl, rd_rule T hr2 1 ⟨_, _, rfl, rfl, _, rfl, ite2 (fun hle => ?_) (fun hle => ?_)⟩⟩⟩
      · have hle' : r.from_ ≤ r.to_ := by simpa using hle
        refine ⟨_, rfl, _, rfl, rd_rule T hr2 0 ⟨d, _, rfl, DPut.k (k := kInl r.from_) hd (line_lt (by omega)), ?_⟩⟩
        have it1 : It H' (upd H' d (.dK (putK kvs (kInl r.from_) (.bl true)))) := It.updD hd
        have hr3 := hr2.it it1
        have hk2 := putK_keys hk r.from_ (.bl true)
        have kl2 := congrArg List.length hk2
        rw [List.length_map, List.length_map] at kl2
        have hl2 := addK_len ks r.from_
        refine ⟨_, rfl, _, rfl, rd_rule T hr3 1 ⟨_, _, rfl, rfl, ⟨d, _, rfl, DPut.k (kvs := putK kvs (kInl r.from_) (.bl true)) (k := kInl (r.to_ + 1)) upd_same (line_lt (by omega)), ?_⟩⟩⟩
        have hl3 := addK_len (addK ks r.from_) (r.to_ + 1)
        rw [upd_upd]
        refine ⟨_, _, addK (addK ks r.from_) (r.to_ + 1), rfl, fun c o hc => ?_, upd_same, putK_keys hk2 _ _, addK_nodup (addK_nodup hn), by simp [addK_mem, h0], fun r2 hr2 hft => ?_, by omega⟩
        · rw [upd_ne (ne_of_none hc nd')]
          exact hs _ _ hc
        · rw [List.take_add_one, hri] at hr2
          rcases List.mem_append.mp hr2 with hr2 | hr2
          · have := he r2 hr2 hft
            simp [addK_mem, this]
          · have e : r2 = r := by simpa using hr2
            subst e
            simp [addK_mem]
      · have hle' : ¬ r.from_ ≤ r.to_ := by simpa using hle
        refine ⟨_, kvs, ks, rfl, hs, hd, hk, hn, h0, fun r2 hr2 hft => ?_, by omega⟩
        rw [List.take_add_one, hri] at hr2
        rcases List.mem_append.mp hr2 with hr2 | hr2
        · exact he r2 hr2 hft
        · have e : r2 = r := by simpa using hr2
          subst e
          exact absurd hft hle'
    · rintro σ H' ⟨v, kvs, ks, rfl, hs, hd, hk, hn, h0, he, hl⟩
      rw [refs_len, hlen, List.take_length] at he
      refine ⟨_, rfl, d, kvs, ks.map fun (n : Nat) => (n : Int), rfl, hd, by rw [hk, List.map_map]; rfl, fun ys p hp ha np => ?_⟩
      obtain ⟨zs, rfl, hz⟩ := nats_of_perm hp
      have zn : zs.Nodup := hz.nodup_iff.mpr hn
      have za : zs.Pairwise (· < ·) := by
        have h4 : (zs.map fun (n : Nat) => (n : Int)).Pairwise (· < ·) := Fx.strict_of ha (by
          rw [List.nodup_iff_pairwise_ne, List.pairwise_map]
          exact (List.nodup_iff_pairwise_ne.mp zn).imp fun {x y} h e => h (by omega))
        rw [List.pairwise_map] at h4
        exact h4.imp fun {x y} h => by omega
      have e : (zs.map fun (n : Nat) => (n : Int)).map V.int = vi zs := by rw [List.map_map]; rfl
      rw [e]
      refine q _ p zs (fun c o hc => ?_) ?_ upd_same (starts_of hz za h0 he) ?_
      · exact (Same.new np) _ _ (hs _ _ hc)
      · exact hs.free np
      · rw [hz.length_eq]
        rw [refs_len, hlen] at hl
        omega
end
end Fp
end

section
namespace Fp
open PySem PySem.Spec PyProof.Rows L2
theorem ixN_nat {n j : Nat} (h : j < n) : ixN n (j : Int) = some j := by
  unfold ixN
  rw [if_pos (by omega), if_pos (by omega)]
  simp
theorem vi_set (l : List Nat) (j n : Nat) : (vi l).set j (.int (n : Int)) = vi (l.set j n) := by
  unfold vi
  rw [List.map_set]
theorem upd_self {H : Hp} {a : Addr} {o : HO} (h : H a = some o) : upd H a o = H := by
  funext b
  unfold upd
  split
  · rename_i e
    rw [e, h]
  · rfl
section
variable {P : Program} {w : World} {K : PySem.W.Frag} {mg : Str → Option Value} {base : Heap} {A : Ad}
/-! ### next_free -/
def spNextFree : Sp := fun vs H Q _ => ∃ (f : Addr) (p : Nat) (free : List Nat) (own : List (Option Nat)), vs = [.ref f, .int (p : Int)] ∧ NL H f free ∧ Fx.UF own free ∧ p < own.length ∧
  ∀ free' (q : Nat), Fx.UF own free' → p ≤ q → q < own.length → (∀ x, p ≤ x → x < q → ∃ i, own[x]? = some (some i)) → own[q]? = some none → Q (.int (q : Int)) (upd H f (.lst (vi free')))
theorem scNextFree : FnScope ["free", "place"] ["free", "place"] (C8.fnScope (top 16)) := ⟨rfl, rfl, rfl, by decide +kernel, rfl, by decide +kernel, by decide +kernel⟩
theorem cal_nextfree {f : Addr} {fd : FuncData} (D : C8.Def K mg "next_free" (top 16) f fd) (b : Binds K fd ["free", "place"] []) : C8.Cal P w K mg base 1 "next_free" spNextFree [] := by
  refine C8.cal0 D b .nil scNextFree (fun vs H Q E h => ?_) (fun cdv B outer s H vs Q E hr h => ?_)
  · obtain ⟨_, _, _, _, rfl, _⟩ := h
    rfl
  · obtain ⟨f, p, free, own, rfl, h1, h2, h3, q⟩ := h
    have nd := scNextFree.nd
    refine ⟨_, pss_cons (ps_while PassesOwn.never (pt_cmpR op_ne (pe_ix ix_list (pv 0) (pv 1) (fun _ _ => rfl)) (pv 1) (nomark _))
      (pss_cons (ps_asg (pe_ix ix_list (pv 0) (pe_ix ix_list (pv 0) (pv 1) (fun _ _ => rfl)) (fun _ _ => rfl)) (pg_sub (pv 0) (pv 1) set_list)) (pss_one (ps_set (i := 1) nd rfl (.inl rfl) (pe_ix ix_list (pv 0) (pv 1) (fun _ _ => rfl))))))
      (pss_one (ps_ret (pv 1))), ?_⟩
    refine ⟨fun m σ H' => ∃ (free' : List Nat) (r : Nat), H' = upd H f (.lst (vi free')) ∧ σ = [some (.ref f), some (.int (r : Int))] ∧ Fx.UF own free' ∧ p ≤ r ∧ r < own.length ∧ (∀ x, p ≤ x → x < r → ∃ i, own[x]? = some (some i)) ∧ m = own.length - r,
      ⟨_, free, p, (upd_self h1).symm, rfl, h2, Nat.le_refl _, h3, fun x a b => by omega, rfl⟩, ?_⟩
    rintro m σ H' ⟨free', r, rfl, rfl, u, hpr, hrl, hgap, rfl⟩
    have hfl : r < free'.length := by rw [u.len]; exact hrl
    have e1 : free'[r]? = some (free'[r]'hfl) := List.getElem?_eq_getElem hfl
    have sq : SqL K (upd H f (.lst (vi free'))) f (vi free') := .of upd_same
    refine ⟨_, rfl, _, rfl, f, _, _, _, rfl, rfl, sq, atI_nat (vi_at e1), _, rfl, rfl, _, rfl, ?_⟩
    rw [dec_nn]
    by_cases he : free'[r]'hfl = r
    · rw [decide_eq_true he]
      refine iteF ⟨_, rfl, q free' r u hpr hrl hgap (u.self (by rw [e1, he]))⟩
    · rw [decide_eq_false he]
      refine iteT ⟨fun σ' H2 => ∃ (free' : List Nat) (r' : Nat), H2 = upd H f (.lst (vi free')) ∧ σ' = [some (.ref f), some (.int (r' : Int))] ∧ Fx.UF own free' ∧ p ≤ r' ∧ r' < own.length ∧ (∀ x, p ≤ x → x < r' → ∃ i, own[x]? = some (some i)) ∧ own.length - r' < own.length - r,
        fun σ' H2 ⟨fr, r', a1, a2, a3, a4, a5, a6, a7⟩ => ⟨_, a7, fr, r', a1, a2, a3, a4, a5, a6, rfl⟩, ?_⟩
      have hb := u.hi r _ e1
      have hfl2 : free'[r]'hfl < free'.length := by rw [u.len]; exact hb.2
      have e2 : free'[free'[r]'hfl]? = some (free'[free'[r]'hfl]'hfl2) := List.getElem?_eq_getElem hfl2
      have u2 := u.short e1 e2 he
      have hb2 := u.hi _ _ e2
      refine ⟨_, rfl, _, rfl, _, rfl, f, _, _, _, rfl, rfl, sq, atI_nat (vi_at e1), f, _, _, _, rfl, rfl, sq, atI_nat (vi_at e2), ?_⟩
      refine ⟨_, rfl, _, rfl, f, _, _, r, rfl, rfl, upd_same, ixN_nat (by rw [vi_len]; exact hfl), ?_⟩
      rw [upd_upd, vi_set]
      have e3 : (free'.set r (free'[free'[r]'hfl]'hfl2))[r]? = some (free'[free'[r]'hfl]'hfl2) := List.getElem?_set_self hfl
      refine ⟨_, rfl, _, rfl, f, _, _, _, rfl, rfl, .of upd_same, atI_nat (vi_at e3), ?_⟩
      refine ⟨_, _, rfl, rfl, u2, by omega, hb2.2, fun x a1 a2 => ?_, by omega⟩
      by_cases hx : x < r
      · exact hgap x a1 hx
      · by_cases hx2 : x < free'[r]'hfl
        · exact u.gap r _ x e1 (by omega) hx2
        · exact u.gap _ _ x e2 (by omega) a2
/-! ### stretch_owners -/
def spOwners (A : Ad) : Sp := fun vs H Q _ => ∃ (st rl : Addr) (rs : List Addr) (rules : List Ih.Rule) (starts : List Nat), vs = [.ref st, .ref rl] ∧ NL H st starts ∧ H rl = some (.lst (refs rs)) ∧ All2 (RuleAt A H) rs rules ∧ Fx.Starts rules starts ∧ starts.length ≤ 2049 ∧ rules.length ≤ 1024 ∧
  ∀ H' p, Same H H' → H p = none → H' p = some (.lst ((Fx.ownersOf rules starts).map (ownV rs))) → Q (.ref p) H'
theorem scOwners : FnScope ["starts", "rules", "places", "place", "start", "owners", "free", "rule", "end"] ["starts", "rules"] (C8.fnScope (top 15)) := ⟨rfl, rfl, rfl, by decide +kernel, rfl, by decide +kernel, by decide +kernel⟩
theorem rgV_vi (n : Nat) : rgV 0 (n : Int) = vi (List.range n) := by
  unfold rgV vi
  have e : ((n : Int) - 0).toNat = n := by omega
  rw [e]
  apply List.map_congr_left
  intro i _
  rw [Int.zero_add]
theorem uf0 (starts : List Nat) : Fx.UF (Fx.ownersOf [] starts) (List.range starts.length) := by
  rw [Fx.owners_nil]
  have at_ : ∀ p f : Nat, (List.range starts.length)[p]? = some f → p = f ∧ f < starts.length := fun p f h => by
    by_cases hl : p < starts.length
    · rw [List.getElem?_range hl] at h
      have := Option.some.inj h
      omega
    · rw [List.getElem?_eq_none (by rw [List.length_range]; omega)] at h
      cases h
  refine ⟨by simp, fun p f h => ?_, fun p f q h h1 h2 => ?_, fun p h => ?_⟩
  · have := at_ p f h
    rw [List.length_map]
    omega
  · have := at_ p f h
    omega
  · obtain ⟨i, hi⟩ := h
    rw [List.getElem?_map] at hi
    cases e : starts[p]? with
    | none => rw [e] at hi; cases hi
    | some x => rw [e] at hi; cases hi
theorem own_set (own : List (Option Nat)) (rs : List Addr) (p j : Nat) {ra : Addr} (h : rs[j]? = some ra) : (own.map (ownV rs)).set p (.ref ra) = (own.set p (some j)).map (ownV rs) := by
  rw [List.map_set]
  congr 1
  simp [ownV, h]
theorem cal_owners {f : Addr} {fd : FuncData} (T : Tx K mg A) (D : C8.Def K mg "stretch_owners" (top 15) f fd) (b : Binds K fd ["starts", "rules"] []) (cN : C8.Cal P w K mg base 1 "next_free" spNextFree []) : C8.Cal P w K mg base 2 "stretch_owners" (spOwners A) [] := by
  refine C8.cal0 D b .nil scOwners (fun vs H Q E h => ?_) (fun cdv B outer s H vs Q E hr h => ?_)
  · obtain ⟨_, _, _, _, _, rfl, _⟩ := h
    rfl
  · obtain ⟨st, rl, rs, rules, starts, rfl, h1, h2, h3, h4, h5, h6, q⟩ := h
    have nd := scOwners.nd
    have hu := hu_of hr
    refine ⟨_, pss_cons (ps_set (i := 2) nd rfl (.inl rfl) pe_dnewK)
      (pss_cons (ps_for PassesOwn.never rfl (pi_enum (by rfl) T.enum (pa_cons (pv 0) pa_nil)) (pg_tup rfl (pgs_cons (pg_name (i := 3) nd rfl (.inl rfl)) (pgs_cons (pg_name (i := 4) nd rfl (.inl rfl)) pgs_nil))) (pss_one (ps_dput hu (pv 2) (pv 4) (pv 3) rfl)))
      (pss_cons (ps_setLc (i := 5) (own := [("start", 4)]) (g := gName 4) (tt := tYes) (by rfl) nd rfl rfl (sw_true rfl rfl rfl (by decide +kernel)) (pi_list (pv 0))
        (blkOk_by (own := [("start", 4)]) (N := ["starts", "rules", "places", "place", "start", "owners", "free", "rule", "end"]) (sc := C8.fnScope (top 15)) (by decide +kernel)) (fun _ _ _ _ _ => pg_name (i := 4) nd rfl (Or.inl rfl)) (fun _ _ _ _ _ => pts_nil) (fun _ _ _ _ _ => pe_non))
      (pss_cons (ps_set (i := 6) nd rfl (.inl rfl) (pe_listRg rfl (by rfl) T.list (prg_1 (by rfl) T.range (pe_callB call_len_seq (by rfl) T.len PySem.boot_len (pa_cons (pv 0) pa_nil)))))
      (pss_cons (ps_for PassesOwn.never rfl (pi_list (pv 1)) (pg_name (i := 7) nd rfl (.inl rfl))
        (pss_one (ps_if (pt_cmpR op_le (pe_fld (pv 7) rfl) (pe_fld (pv 7) rfl) (nomark _))
          (pss_cons (ps_set (i := 8) nd rfl (.inl rfl) (pe_dget hu (pv 2) (pe_op op_add (pe_fld (pv 7) rfl) pe_int) (fun _ _ => rfl)))
          (pss_cons (ps_set (i := 3) nd rfl (.inl rfl) (C8.pe_c cN hr (by decide) rfl (pa_cons (pv 6) (pa_cons (pe_dget hu (pv 2) (pe_fld (pv 7) rfl) (fun _ _ => rfl)) pa_nil))))
          (pss_one (ps_while PassesOwn.never (pt_cmpR op_lt (pv 3) (pv 8) (nomark _))
            (pss_cons (ps_asg (pv 7) (pg_sub (pv 5) (pv 3) set_list)) (pss_cons (ps_asg (pe_op op_add (pv 3) pe_int) (pg_sub (pv 6) (pv 3) set_list)) (pss_one (ps_set (i := 3) nd rfl (.inl rfl) (C8.pe_c cN hr (by decide) rfl (pa_cons (pv 6) (pa_cons (pv 3) pa_nil))))))))))) pss_nil)))
      (pss_one (ps_ret (pv 5))))))), ?_⟩
    intro d hd0 
    -- places
    have sD : Same H (upd H d (.dK [])) := Same.new hd0
    refine ⟨_, rfl, st, _, rfl, .of (sD _ _ h1), for_enum (K := K) (a := st) (xs := vi starts) (fun i σ H' => ∃ (v3 v4 : Option V) (kvs : List (Key × V)), σ = [some (.ref st), some (.ref rl), some (.ref d), v3, v4, none, none, none, none] ∧ Same H H' ∧ H' d = some (.dK kvs) ∧ kvs.length ≤ i ∧
      ∀ (p : Nat) (x : Nat), p < i → starts[p]? = some x → valV kvs (kInl x) = some (.int (p : Int))) ⟨none, none, [], rfl, sD, upd_same, Nat.le_refl _, fun p x hp _ => by omega⟩ ?_ ?_ ?_⟩
    · rintro i σ H' ⟨v3, v4, kvs, rfl, hs, _⟩
      exact .of (hs _ _ h1)
    · rintro i x σ H' T0 hx ⟨v3, v4, kvs, rfl, hs, hd, hl, hv⟩ nT
      obtain ⟨n, hn, rfl⟩ := vi_of hx
      have hil : i < starts.length := (List.getElem?_eq_some_iff.mp hn).1
      refine ⟨T0, _, rfl, .of upd_same, rfl, _, _, rfl, _, _, rfl, rfl, ?_⟩
      have hd' : (upd H' T0 (.tup [.int (i : Nat), .int (n : Int)])) d = some (.dK kvs) := Same.new nT _ _ hd
      refine ⟨_, rfl, _, rfl, _, rfl, d, _, rfl, DPut.k (k := kInl n) hd' (line_lt (by omega)), ?_⟩
      refine ⟨_, _, _, rfl, fun c o hc => ?_, upd_same, ?_, fun p x hp hx2 => ?_⟩
      · rw [upd_ne (ne_of_none hc hd0)]
        exact Same.new nT _ _ (hs _ _ hc)
      · have := length_putK kvs (kInl n) (.int (i : Nat))
        omega
      · rw [valV_put]
        by_cases e : p = i
        · subst e
          rw [hn] at hx2
          cases hx2
          rw [if_pos rfl]
        · have hne : x ≠ n := fun z => by
            subst z
            exact e ((Fx.asc_at h4.asc hx2 hn).2.mpr rfl)
          rw [if_neg (fun z => hne (by have := Sum.inl.inj z; omega))]
          exact hv p x (by omega) hx2
    · rintro σ H1 ⟨v3, v4, kvs, rfl, hs1, hd1, hl1, hv1⟩
      rw [vi_len] at hv1
      have hval : ∀ (p x : Nat), starts[p]? = some x → valV kvs (kInl x) = some (.int (p : Int)) := fun p x hx => hv1 p x (List.getElem?_eq_some_iff.mp hx).1 hx
      -- owners
      refine ⟨_, rfl, st, rfl, ⟨_, .of (hs1 _ _ h1)⟩, fun L nL => lc_list (K := K) (a := st) (xs := vi starts) (fun i H' => H' L = some (.lst (List.replicate i .non)) ∧ Same H1 H') ⟨upd_same, Same.new nL⟩ (fun i H' _ z => .of (z.2 _ _ (hs1 _ _ h1))) ?_ ?_⟩
      · rintro i x H' hx ⟨hL, hs⟩
        have hil : i < (vi starts).length := (List.getElem?_eq_some_iff.mp hx).1
        rw [vi_len] at hil
        refine ⟨rfl, _, hL, by rw [List.length_replicate]; exact line_lt (by omega), ?_, fun c o hc => ?_⟩
        · rw [upd_same, List.replicate_succ']
        · rw [upd_ne (ne_of_none hc nL)]
          exact hs _ _ hc
      · rintro H2 ⟨hL2, hs2⟩
        rw [vi_len] at hL2
        -- free
        refine ⟨_, rfl, st, _, rfl, .inl (.of (hs2 _ _ (hs1 _ _ h1))), _, rfl, ?_, fun F nF => ?_⟩
        · rw [vi_len]
          exact .of_le (by decide) (by omega) (by decide) (by omega)
        · rw [vi_len, rgV_vi]
          have hFL : L ≠ F := ne_of_none hL2 nF
          have hdd : d ≠ F := ne_of_none (hs2 _ _ hd1) nF
          have hdL : d ≠ L := ne_of_none hd1 nL
          have s3 : Same H (upd H2 F (.lst (vi (List.range starts.length)))) := fun c o hc => Same.new nF _ _ (hs2 _ _ (hs1 _ _ hc))
          have nLH : H L = none := hs1.free nL
          have nFH : H F = none := hs1.free (hs2.free nF)
          have rep : List.replicate starts.length V.non = (Fx.ownersOf [] starts).map (ownV rs) := by
            rw [Fx.owners_nil, List.map_map]
            show _ = starts.map fun _ => V.non
            rw [List.map_const']
          have h3l := h3.len
          refine ⟨_, rfl, rl, rfl, ⟨_, .of (s3 _ _ h2)⟩, for_list (K := K) (a := rl) (xs := refs rs) (fun j σ H' => ∃ (v3 v4 v7 v8 : Option V) (free : List Nat), σ = [some (.ref st), some (.ref rl), some (.ref d), v3, v4, some (.ref L), some (.ref F), v7, v8] ∧ Same H H' ∧ H' d = some (.dK kvs) ∧
            H' L = some (.lst ((Fx.ownersOf (rules.take j) starts).map (ownV rs))) ∧ NL H' F free ∧ Fx.UF (Fx.ownersOf (rules.take j) starts) free) ?_ ?_ ?_ ?_⟩
          · refine ⟨_, _, _, _, List.range starts.length, rfl, s3, ?_, ?_, upd_same, uf0 starts⟩
            · rw [upd_ne hdd]
              exact hs2 _ _ hd1
            · rw [upd_ne hFL, hL2, rep]
              rfl
          · rintro j σ H' _ ⟨v3, v4, v7, v8, free, rfl, hs, _⟩
            exact .of (hs _ _ h2)
          · rintro j x σ H' hx ⟨v3, v4, v7, v8, free, rfl, hs, hd, hL, hF, u⟩
            obtain ⟨ra, hra, rfl⟩ := refs_of hx
            obtain ⟨r, hri, hr1⟩ := h3.at1 hra
            have hr2 := hr1.kp (.of hs)
            have hjl : j < rules.length := (List.getElem?_eq_some_iff.mp hri).1
            have etk : rules.take (j + 1) = rules.take j ++ [r] := by rw [List.take_add_one, hri]; rfl
            refine ⟨_, rfl, rd_rule T hr2 0 ⟨_, rfl, rd_rule T hr2 1 ⟨_, _, rfl, rfl, _, rfl, ite2 (fun hle => ?_) (fun hle => ?_)⟩⟩⟩
            · have hle' : r.from_ ≤ r.to_ := by simpa using hle
              obtain ⟨m1, m2⟩ := h4.ends r (List.mem_of_getElem? hri) hle'
              obtain ⟨a0, ha0⟩ := List.getElem?_of_mem m1
              obtain ⟨e0, he0⟩ := List.getElem?_of_mem m2
              have ha0l : a0 < starts.length := (List.getElem?_eq_some_iff.mp ha0).1
              have he0l : e0 < starts.length := (List.getElem?_eq_some_iff.mp he0).1
              have nown : (Fx.ownersOf (rules.take j) starts).length = starts.length := by unfold Fx.ownersOf; rw [List.length_map]
              have g1 : DGet H' d (.int ((r.to_ : Nat) + 1 : Int)) (some (.int (e0 : Int))) := by
                have z := DGet.k (k := kInl (r.to_ + 1)) hd
                rw [hval e0 _ he0] at z
                exact z
              have g2 : DGet H' d (.int ((r.from_ : Nat) : Int)) (some (.int (a0 : Int))) := by
                have z := DGet.k (k := kInl r.from_) hd
                rw [hval a0 _ ha0] at z
                exact z
              refine ⟨_, rfl, ⟨_, rfl, rd_rule T hr2 1 ⟨_, _, rfl, rfl, ⟨d, _, rfl, g1, ?_⟩⟩⟩⟩
              refine ⟨_, rfl, ⟨_, rfl, ⟨_, rfl, rd_rule T hr2 0 ⟨d, _, rfl, g2, ?_⟩⟩⟩⟩
              refine ⟨F, a0, free, Fx.ownersOf (rules.take j) starts, rfl, hF, u, by omega, fun free1 p1 u1 hp1 hp1l hg1 hn1 => ?_⟩
              refine ⟨fun m σ' H3 => ∃ (v4 : Option V) (p : Nat) (free' : List Nat), σ' = [some (.ref st), some (.ref rl), some (.ref d), some (.int (p : Int)), v4, some (.ref L), some (.ref F), some (.ref ra), some (.int (e0 : Int))] ∧ Same H H3 ∧ H3 d = some (.dK kvs) ∧
                H3 L = some (.lst ((Fx.paint (Fx.ownersOf (rules.take j) starts) a0 p j).map (ownV rs))) ∧ NL H3 F free' ∧ Fx.UF (Fx.paint (Fx.ownersOf (rules.take j) starts) a0 p j) free' ∧ a0 ≤ p ∧ (Fx.paint (Fx.ownersOf (rules.take j) starts) a0 p j)[p]? = some none ∧
                (∀ x, e0 ≤ x → x < p → ∃ i, (Fx.ownersOf (rules.take j) starts)[x]? = some (some i)) ∧ m = starts.length - p, ⟨_, _, p1, free1, rfl, ?_, ?_, ?_, upd_same, ?_, hp1, ?_, ?_, rfl⟩, ?_⟩
              · intro c o hc
                rw [upd_ne (ne_of_none hc nFH)]
                exact hs _ _ hc
              · rw [upd_ne hdd]
                exact hd
              · rw [upd_ne hFL, Fx.paint_more hp1 (fun x x1 x2 => by rw [Fx.paint_nil (Nat.le_refl _)]; exact hg1 x x1 x2), Fx.paint_nil (Nat.le_refl _)]
                exact hL
              · rw [Fx.paint_more hp1 (fun x x1 x2 => by rw [Fx.paint_nil (Nat.le_refl _)]; exact hg1 x x1 x2), Fx.paint_nil (Nat.le_refl _)]
                exact u1
              · rw [Fx.paint_more hp1 (fun x x1 x2 => by rw [Fx.paint_nil (Nat.le_refl _)]; exact hg1 x x1 x2), Fx.paint_nil (Nat.le_refl _)]
                exact hn1
              · intro x x1 x2
                have hae : a0 < e0 := (Fx.asc_at h4.asc ha0 he0).1.mpr (by omega)
                exact hg1 x (by omega) x2
              · rintro m σ' H3 ⟨v4', p, free', rfl, hs3, hd3, hL3, hF3, u3, hap, hnp, hpe, rfl⟩
                have hpl : p < starts.length := by
                  have := (List.getElem?_eq_some_iff.mp hnp).1
                  rw [Fx.paint_len, nown] at this
                  exact this
                refine ⟨_, rfl, _, rfl, _, _, rfl, rfl, _, rfl, ite2 (fun hlt => ?_) (fun hlt => ?_)⟩
                · have hlt' : p < e0 := by simpa using hlt
                  refine ⟨fun σ' H3 => ∃ (v4 : Option V) (p' : Nat) (free' : List Nat), σ' = [some (.ref st), some (.ref rl), some (.ref d), some (.int (p' : Int)), v4, some (.ref L), some (.ref F), some (.ref ra), some (.int (e0 : Int))] ∧ Same H H3 ∧ H3 d = some (.dK kvs) ∧
                    H3 L = some (.lst ((Fx.paint (Fx.ownersOf (rules.take j) starts) a0 p' j).map (ownV rs))) ∧ NL H3 F free' ∧ Fx.UF (Fx.paint (Fx.ownersOf (rules.take j) starts) a0 p' j) free' ∧ a0 ≤ p' ∧ (Fx.paint (Fx.ownersOf (rules.take j) starts) a0 p' j)[p']? = some none ∧
                    (∀ x, e0 ≤ x → x < p' → ∃ i, (Fx.ownersOf (rules.take j) starts)[x]? = some (some i)) ∧ starts.length - p' < starts.length - p, fun σ' H4 ⟨v, p', fr, a1, a2, a3, a4, a5, a6, a7, a8, a9, a10⟩ => ⟨_, a10, v, p', fr, a1, a2, a3, a4, a5, a6, a7, a8, a9, rfl⟩, ?_⟩
                  have hLl : p < ((Fx.paint (Fx.ownersOf (rules.take j) starts) a0 p j).map (ownV rs)).length := by
                    rw [List.length_map, Fx.paint_len, nown]
                    exact hpl
                  refine ⟨_, rfl, _, rfl, _, rfl, L, _, _, p, rfl, rfl, hL3, ixN_nat hLl, ?_⟩
                  rw [own_set _ rs p j hra, Fx.paint_step hap hnp]
                  have hF4 : (upd H3 L (.lst ((Fx.paint (Fx.ownersOf (rules.take j) starts) a0 (p + 1) j).map (ownV rs)))) F = some (.lst (vi free')) := by
                    rw [upd_ne (Ne.symm hFL)]
                    exact hF3
                  have hfl : free'.length = starts.length := by rw [u3.len, Fx.paint_len, nown]
                  refine ⟨_, rfl, _, _, rfl, rfl, _, rfl, _, rfl, F, _, _, p, rfl, rfl, hF4, ixN_nat (by rw [vi_len, hfl]; exact hpl), ?_⟩
                  have e1 : ((p : Nat) : Int) + 1 = ((p + 1 : Nat) : Int) := by omega
                  have e2 : (vi free').set p ((fun (i j : Int) => V.int (i + j)) (p : Int) 1) = vi (free'.set p (p + 1)) := by
                    show (vi free').set p (.int ((p : Int) + 1)) = _
                    rw [e1, vi_set]
                  rw [e2]
                  have u4 := u3.paint1 (p := p) (j := j) (by rw [Fx.paint_len, nown]; omega)
                  rw [Fx.paint_step hap hnp] at u4
                  refine ⟨_, rfl, ⟨_, rfl, ?_⟩⟩
                  refine ⟨F, p, free'.set p (p + 1), Fx.paint (Fx.ownersOf (rules.take j) starts) a0 (p + 1) j, rfl, upd_same, u4, by rw [Fx.paint_len, nown]; exact hpl, fun free5 p5 u5 hp5 hp5l hg5 hn5 => ?_⟩
                  rw [upd_upd]
                  have hp15 : p + 1 ≤ p5 := by
                    rcases Nat.lt_or_ge p p5 with z | z
                    · exact z
                    · have z2 : p5 = p := by omega
                      subst z2
                      rw [← Fx.paint_step hap hnp, List.getElem?_set_self (by rw [Fx.paint_len, nown]; exact hpl)] at hn5
                      cases hn5
                  have epaint : Fx.paint (Fx.ownersOf (rules.take j) starts) a0 p5 j = Fx.paint (Fx.ownersOf (rules.take j) starts) a0 (p + 1) j := Fx.paint_more hp15 fun x x1 x2 => hg5 x (by omega) x2
                  refine ⟨_, p5, free5, rfl, fun c o hc => ?_, ?_, ?_, upd_same, by rw [epaint]; exact u5, by omega, by rw [epaint]; exact hn5, fun x x1 x2 => ?_, by rw [Fx.paint_len, nown] at hp5l; omega⟩
                  · rw [upd_ne (ne_of_none hc nFH), upd_ne (ne_of_none hc nLH)]
                    exact hs3 _ _ hc
                  · rw [upd_ne hdd, upd_ne hdL]
                    exact hd3
                  · rw [upd_ne hFL, epaint]
                    exact upd_same
                  · obtain ⟨i, hi⟩ := hg5 x (by omega) x2
                    rw [Fx.paint_at] at hi
                    cases e : (Fx.ownersOf (rules.take j) starts)[x]? with
                    | none => rw [e] at hi; cases hi
                    | some o =>
                      rw [e] at hi
                      have c1 : ¬ (a0 ≤ x ∧ x < p + 1 ∧ o = none) := by intro ⟨_, y, _⟩; omega
                      simp only [Option.map_some, if_neg c1] at hi
                      exact ⟨i, hi⟩
                · have hlt' : e0 ≤ p := by
                    have : ¬ (p : Int) < e0 := by simpa using hlt
                    omega
                  have epaint : Fx.paint (Fx.ownersOf (rules.take j) starts) a0 p j = Fx.ownersOf (rules.take (j + 1)) starts := by
                    have hjl2 : (rules.take j).length = j := by rw [List.length_take]; omega
                    rw [etk, Fx.owners_snoc h4.asc ha0 he0, hjl2]
                    refine Fx.paint_more hlt' fun x x1 x2 => ?_
                    obtain ⟨i, hi⟩ := hpe x x1 x2
                    refine ⟨i, ?_⟩
                    rw [Fx.paint_at, hi]
                    simp
                  rw [epaint] at hL3 u3
                  exact ⟨_, _, _, _, free', rfl, hs3, hd3, hL3, hF3, u3⟩
            · have hle' : ¬ r.from_ ≤ r.to_ := by simpa using hle
              have eo : Fx.ownersOf (rules.take (j + 1)) starts = Fx.ownersOf (rules.take j) starts := by rw [etk]; exact Fx.owners_same hle'
              refine ⟨_, _, _, _, free, rfl, hs, hd, ?_, hF, ?_⟩
              · rw [eo]
                exact hL
              · rw [eo]
                exact u
          · rintro σ H' ⟨v3, v4, v7, v8, free, rfl, hs, hd, hL, hF, u⟩
            rw [refs_len, h3l, List.take_length] at hL
            exact ⟨_, rfl, q _ L hs nLH hL⟩
end
end Fp
end

section
namespace Fp
open PySem PySem.Spec PyProof.Rows L2
theorem ruleIn_cov {rules : List Ih.Rule} {c : Nat} {r : Ih.Rule} (h : Ih.ruleIn rules c = some r) : r.from_ ≤ c ∧ c ≤ r.to_ := by
  unfold Ih.ruleIn at h
  have := List.find?_some h
  rw [Bool.and_eq_true, decide_eq_true_eq, decide_eq_true_eq] at this
  exact this
theorem ruleIn_mem {rules : List Ih.Rule} {c : Nat} {r : Ih.Rule} (h : Ih.ruleIn rules c = some r) : r ∈ rules := List.mem_of_find?_eq_some h
/-- a fresh instance stands aside of rules -/
theorem RuleAt.bt {A : Ad} {H H' : Hp} {p C dx : Addr} (hp : H p = some (.ins C dx [])) (k : Bt p H H') (a : Addr) (r : Ih.Rule) (h : RuleAt A H a r) : RuleAt A H' a r := by
  obtain ⟨d, h⟩ := h
  refine ⟨d, k _ _ h fun e => ?_⟩
  subst e
  rw [hp] at h
  cases h
theorem NL.bt {H H' : Hp} {p C dx : Addr} (hp : H p = some (.ins C dx [])) (k : Bt p H H') (a : Addr) (l : List Nat) (h : NL H a l) : NL H' a l := by
  refine k _ _ h fun e => ?_
  subst e
  have h2 : H a = some (.lst (vi l)) := h
  rw [hp] at h2
  cases h2
theorem inV3 (a b c n : Nat) : inV (.int (n : Int)) [.int (a : Int), .int (b : Int), .int (c : Int)] = (decide (n = a) || (decide (n = b) || decide (n = c))) := by
  have e : ∀ x : Nat, (((x : Int) == (n : Int))) = decide (n = x) := fun x => by
    by_cases z : n = x
    · subst z
      simp
    · rw [decide_eq_false z]
      simp
      omega
  show (eqV (.int (a : Int)) (.int (n : Int)) || (eqV (.int (b : Int)) (.int (n : Int)) || (eqV (.int (c : Int)) (.int (n : Int)) || false))) = _
  rw [Bool.or_false]
  show (((a : Int) == (n : Int)) || (((b : Int) == (n : Int)) || ((c : Int) == (n : Int)))) = _
  rw [e, e, e]
theorem inV2 (a b n : Nat) : inV (.int (n : Int)) [.int (a : Int), .int (b : Int)] = (decide (n = a) || decide (n = b)) := by
  have e : ∀ x : Nat, (((x : Int) == (n : Int))) = decide (n = x) := fun x => by
    by_cases z : n = x
    · subst z
      simp
    · rw [decide_eq_false z]
      simp
      omega
  show (eqV (.int (a : Int)) (.int (n : Int)) || (eqV (.int (b : Int)) (.int (n : Int)) || false)) = _
  rw [Bool.or_false]
  show (((a : Int) == (n : Int)) || ((b : Int) == (n : Int))) = _
  rw [e, e]
section
variable {P : Program} {w : World} {K : PySem.W.Frag} {mg : Str → Option Value} {base : Heap} {A : Ad}
/-! ### RuleBook -/
def spBookI (A : Ad) : Sp := fun vs H Q _ => ∃ (p dx rl sl : Addr) (rs : List Addr) (rules : List Ih.Rule), vs = [.ref p, .ref rl, .ref sl] ∧ H p = some (.ins A.book dx []) ∧ H rl = some (.lst (refs rs)) ∧ All2 (RuleAt A H) rs rules ∧ rules.length ≤ 1024 ∧
  ∀ H' st ow kd starts, Bt p H H' → H st = none → H ow = none → H kd = none → H' p = some (.ins A.book dx (bookF rl sl st ow kd)) → Fx.Starts rules starts → NL H' st starts → H' ow = some (.lst ((Fx.ownersOf rules starts).map (ownV rs))) → H' kd = some (.dK []) → Q .non H'
theorem scBookI : FnScope ["self", "rules", "spellings"] ["self", "rules", "spellings"] (C8.fnScope (inClass (top 11) 0)) := ⟨rfl, rfl, rfl, by decide +kernel, rfl, by decide +kernel, by decide +kernel⟩
theorem mak_book {f : Addr} {fd : FuncData} (T : Tx K mg A) (M : Mk K A.book f) (hm : mg "RuleBook" = some (.ref A.book)) (F : C8.Fun K "__init__" "RuleBook.__init__" (inClass (top 11) 0) f fd) (b : Binds K fd ["self", "rules", "spellings"] [])
    (cS : C8.Cal P w K mg base 1 "stretch_starts" (spStarts A) []) (cO : C8.Cal P w K mg base 2 "stretch_owners" (spOwners A) []) : C8.Mak P w K mg base 3 "RuleBook" A.book (spBookI A) [] := by
  refine C8.mak0 M hm F b .nil scBookI (fun vs H Q E h => ?_) (fun cdv B outer s H vs Q E hr h => ?_)
  · obtain ⟨_, _, _, _, _, _, rfl, _⟩ := h
    rfl
  · obtain ⟨p, dx, rl, sl, rs, rules, rfl, h1, h2, h3, h4, q⟩ := h
    refine ⟨_, pss_cons (ps_fld (pv 0) (pv 1) rfl) (pss_cons (ps_fld (pv 0) (pv 2) rfl) (pss_cons (ps_fld (pv 0) (C8.pe_c cS hr (by decide) rfl (pa_cons (pv 1) pa_nil)) rfl)
      (pss_cons (ps_fld (pv 0) (C8.pe_c cO hr (by decide) rfl (pa_cons (pe_fld (pv 0) rfl) (pa_cons (pv 1) pa_nil))) rfl) (pss_one (ps_fld (pv 0) pe_dnewK rfl))))), ?_⟩
    have hrp : rl ≠ p := ne_of h2 h1 (fun z => nomatch z)
    refine ⟨_, rfl, _, rfl, p, A.book, dx, _, rfl, h1, T.cBook, T.nBook _ (by simp), (by show 0 < 1000; decide), ?_⟩
    rw [put_new (ns := []) rfl (by decide +kernel)]
    refine ⟨_, rfl, _, rfl, p, A.book, dx, _, rfl, upd_same, T.cBook, T.nBook _ (by simp), (by show 1 < 1000; decide), ?_⟩
    rw [upd_upd, put_new (ns := ["rules"]) rfl (by decide +kernel)]
    have b1 : ∀ o, Bt p H (upd H p o) := fun o => Bt.upd
    refine ⟨_, rfl, rl, rs, rules, rfl, b1 _ _ _ h2 hrp, h3.mono (RuleAt.bt h1 (b1 _)), h4, fun H1 st starts s1 nst hst hS hSl => ?_⟩
    have hp1 := s1 _ _ upd_same
    have hstp : st ≠ p := fun e => by
      subst e
      rw [upd_same] at nst
      cases nst
    refine ⟨_, rfl, p, A.book, dx, _, rfl, hp1, T.cBook, T.nBook _ (by simp), (by show 2 < 1000; decide), ?_⟩
    rw [put_new (ns := ["rules", "spellings"]) rfl (by decide +kernel)]
    have b2 : ∀ o, Bt p H (upd H1 p o) := fun o => ((b1 _).trans (Bt.of s1)).trans Bt.upd
    refine ⟨_, rfl, rd_fld (ns := ["rules", "spellings", "starts"]) 2 upd_same T.cBook (T.nBook _ (by simp)) rfl (by decide +kernel) rfl ⟨_, rfl, ?_⟩⟩
    refine ⟨st, rl, rs, rules, starts, rfl, ?_, b2 _ _ _ h2 hrp, h3.mono (RuleAt.bt h1 (b2 _)), hS, hSl, h4, fun H2 ow s2 now how => ?_⟩
    · show upd _ _ _ _ = _
      rw [upd_ne hstp]
      exact hst
    have hp2 := s2 _ _ upd_same
    have hst2 : NL H2 st starts := s2 _ _ (by
      rw [upd_ne hstp]
      exact hst)
    have howp : ow ≠ p := fun e => by
      subst e
      rw [upd_same] at now
      cases now
    refine ⟨_, rfl, p, A.book, dx, _, rfl, hp2, T.cBook, T.nBook _ (by simp), (by show 3 < 1000; decide), ?_⟩
    rw [put_new (ns := ["rules", "spellings", "starts"]) rfl (by decide +kernel)]
    intro d nd
    have hdp : p ≠ d := ne_of_none upd_same nd
    refine ⟨_, rfl, p, A.book, dx, [("rules", V.ref rl), ("spellings", V.ref sl), ("starts", V.ref st), ("owners", V.ref ow)], rfl, ?_, T.cBook, T.nBook _ (by simp), (by show 4 < 1000; decide), ?_⟩
    · exact Eq.trans (upd_ne hdp) upd_same
    rw [put_new (ns := ["rules", "spellings", "starts", "owners"]) rfl (by decide +kernel)]
    have nd2 : H2 d = none := by
      rw [upd_ne (Ne.symm hdp)] at nd
      exact nd
    have b3 : Bt p H2 (upd (upd (upd H2 p (.ins A.book dx (([("rules", V.ref rl), ("spellings", V.ref sl), ("starts", V.ref st)] : List (Str × V)) ++ ([("owners", V.ref ow)] : List (Str × V))))) d (.dK [])) p (.ins A.book dx (bookF rl sl st ow d))) := fun c o hc hcp => by
      rw [upd_ne hcp, upd_ne (ne_of_none hc nd2), upd_ne hcp]
      exact hc
    have b4 := ((b2 _).trans (Bt.of s2)).trans b3
    have f1 : ∀ {z : Addr} {o : HO}, z ≠ p → (upd H p o) z = none → H z = none := fun hz e => by
      rw [upd_ne hz] at e
      exact e
    have f2 : ∀ {z : Addr} {o : HO}, z ≠ p → (upd H1 p o) z = none → H z = none := fun hz e => by
      rw [upd_ne hz] at e
      exact f1 hz (s1.free e)
    have f3 : H d = none := f2 (Ne.symm hdp) (s2.free nd2)
    refine q _ st ow d starts b4 (f1 hstp nst) (f2 howp now) f3 upd_same hS (b3 _ _ hst2 hstp) (b3 _ _ how howp) ?_
    rw [upd_ne (Ne.symm hdp)]
    exact upd_same
/-! ### can_be_spelled -/
def spellB (rules : List Ih.Rule) (spells : List Ih.Text) (n : Nat) : Bool := match spells[n]? with
  | some s => s.all fun c => match Ih.ruleIn rules c with
    | some x => decide (x.kind ≤ 2)
    | none => false
  | none => false
def spSpell (A : Ad) : Sp := fun vs H Q _ => ∃ (b kd : Addr) (n : Nat) (rules : List Ih.Rule) (spells : List Ih.Text), vs = [.ref b, .int (n : Int)] ∧ BookS A H b kd rules spells ∧ ∀ H', Same H H' → Q (.bl (spellB rules spells n)) H'
theorem scSpell : FnScope ["book", "number", "character", "rule"] ["book", "number"] (C8.fnScope (top 19)) := ⟨rfl, rfl, rfl, by decide +kernel, rfl, by decide +kernel, by decide +kernel⟩
theorem cal_spell {f : Addr} {fd : FuncData} (T : Tx K mg A) (D : C8.Def K mg "can_be_spelled" (top 19) f fd) (b : Binds K fd ["book", "number"] []) (cR : C8.Met P w K mg base 1 A.book "rule_of" (spRuleOf A) []) : C8.Cal P w K mg base 2 "can_be_spelled" (spSpell A) [] := by
  refine C8.cal0 D b .nil scSpell (fun vs H Q E h => ?_) (fun cdv B outer s H vs Q E hr h => ?_)
  · obtain ⟨_, _, _, _, _, rfl, _⟩ := h
    rfl
  · obtain ⟨b, kd, n, rules, spells, rfl, hb, q⟩ := h
    have nd := scSpell.nd
    refine ⟨_, pss_cons (ps_if (pt_cmpR op_ge (pv 1) (pe_callB call_len_seq (by rfl) T.len PySem.boot_len (pa_cons (pe_fld (pv 0) rfl) pa_nil)) (nomark _)) (pss_one (ps_ret pe_bl)) pss_nil)
      (pss_cons (ps_for PassesOwn.never rfl (pi_list (pe_ix ix_list (pe_fld (pv 0) rfl) (pv 1) (fun _ _ => rfl))) (pg_name (i := 2) nd rfl (.inl rfl))
        (pss_cons (ps_set (i := 3) nd rfl (.inl rfl) (C8.pe_mt cR hr (by decide) (pv 0) (pa_cons (pv 2) pa_nil)))
        (pss_one (ps_if (PW.pt (pw_or (pt_cmpR op_isN (pv 3) pe_non (nomark _)) (pw_or1 (pt_cmpR op_notIn_seq (pe_fld (pv 3) rfl) (pe_tup (pa_cons (gl T.LETTER) (pa_cons (gl T.DIGIT) (pa_cons (gl T.SIGN) pa_nil)))) (by rfl)))))
          (pss_one (ps_ret pe_bl)) pss_nil))))
      (pss_one (ps_ret pe_bl))), ?_⟩
    obtain ⟨dx, rl, sl, st, ow, rs, starts, h1, h2, h3, ⟨ss, h4, h5⟩, hh⟩ := id hb
    have hlen := h5.len
    refine ⟨_, rfl, _, rfl, rd_book T h1 1 ⟨sl, _, rfl, .inl (.of h4), _, _, rfl, rfl, _, rfl, ite2 (fun hge => ?_) (fun hge => ?_)⟩⟩
    · have hge' : spells.length ≤ n := by
        rw [refs_len, hlen] at hge
        simpa using hge
      have e : spellB rules spells n = false := by
        unfold spellB
        rw [List.getElem?_eq_none hge']
      rw [e] at q
      exact q _ (fun _ _ z => z)
    · have hlt : n < spells.length := by
        rw [refs_len, hlen] at hge
        simpa using hge
      have hsn : spells[n]? = some (spells[n]'hlt) := List.getElem?_eq_getElem hlt
      obtain ⟨sa, hsa, hsl⟩ := h5.at2 hsn
      have e : spellB rules spells n = (spells[n]'hlt).all fun c => match Ih.ruleIn rules c with
          | some x => decide (x.kind ≤ 2)
          | none => false := by
        unfold spellB
        rw [hsn]
      rw [e] at q
      generalize spells[n]'hlt = s at hsl q
      refine ⟨_, rfl, rd_book T h1 1 ⟨_, rfl, sl, _, _, _, rfl, rfl, .of h4, atI_nat (refs_at' hsa), sa, rfl, ⟨_, .of hsl⟩, for_list (K := K) (a := sa) (xs := vi s) (fun i σ H' => ∃ (v2 v3 : Option V), σ = [some (.ref b), some (.int (n : Int)), v2, v3] ∧ Same H H' ∧
        (s.take i).all (fun c => match Ih.ruleIn rules c with
          | some x => decide (x.kind ≤ 2)
          | none => false) = true) ⟨none, none, rfl, fun _ _ z => z, rfl⟩ ?_ ?_ ?_⟩⟩
      · rintro i σ H' _ ⟨_, _, rfl, hs, _⟩
        exact .of (hs _ _ hsl)
      · rintro i x σ H' hx ⟨v2, v3, rfl, hs, hall⟩
        obtain ⟨c, hc, rfl⟩ := vi_of hx
        have hb2 : BookS A H' b kd rules spells := hb.kp (.of hs)
        refine ⟨_, rfl, b, dx, _, rfl, hs _ _ h1, lk_not (ns := ["rules", "spellings", "starts", "owners", "known"]) rfl (by decide +kernel), _, rfl, b, kd, c, rules, spells, rfl, hb2, fun v hv => ?_⟩
        have etk : s.take (i + 1) = s.take i ++ [c] := by rw [List.take_add_one, hc]; rfl
        have eall : (s.all fun c => match Ih.ruleIn rules c with
          | some x => decide (x.kind ≤ 2)
          | none => false) = false ∨ (match Ih.ruleIn rules c with
          | some x => decide (x.kind ≤ 2)
          | none => false) = true := by
          cases e2 : (match Ih.ruleIn rules c with
          | some x => decide (x.kind ≤ 2)
          | none => false) with
          | true => exact .inr rfl
          | false =>
            left
            rw [List.all_eq_false]
            exact ⟨c, List.mem_of_getElem? hc, by rw [e2]; decide⟩
        have eall2 : (match Ih.ruleIn rules c with
          | some x => decide (x.kind ≤ 2)
          | none => false) = true → (s.take (i + 1)).all (fun c => match Ih.ruleIn rules c with
          | some x => decide (x.kind ≤ 2)
          | none => false) = true := fun z => by
          rw [etk, List.all_append, hall]
          simp [z]
        unfold RuleV at hv
        cases er : Ih.ruleIn rules c with
        | none =>
          rw [er] at hv eall
          subst hv
          refine ⟨_, rfl, rfl, _, rfl, iteT ?_⟩
          rcases eall with eall | eall
          · rw [eall] at q
            exact q _ hs
          · cases eall
        | some r =>
          rw [er] at hv eall eall2
          obtain ⟨ra, rfl, hra⟩ := hv
          refine ⟨_, rfl, rfl, _, rfl, iteF ?_⟩
          refine ⟨_, rfl, rd_rule T hra 2 ⟨(by show 3 ≤ sizeLine; decide), fun t nt => ?_⟩⟩
          have hs2 : Same H (upd H' t (.tup [.int ((0 : Nat) : Int), .int ((1 : Nat) : Int), .int ((2 : Nat) : Int)])) := fun a o z => Same.new nt _ _ (hs _ _ z)
          refine ⟨t, _, rfl, .inr (.of upd_same), rfl, rfl, _, rfl, ?_⟩
          rw [if_pos rfl, inV3]
          have ek : (decide (r.kind = 0) || (decide (r.kind = 1) || decide (r.kind = 2))) = decide (r.kind ≤ 2) := by
            rw [Bool.eq_iff_iff]
            simp
            omega
          rw [ek]
          by_cases z : r.kind ≤ 2
          · rw [decide_eq_true z]
            exact iteF ⟨_, _, rfl, hs2, eall2 (by simpa using z)⟩
          · rw [decide_eq_false z]
            refine iteT ?_
            rcases eall with eall | eall
            · rw [eall] at q
              exact q _ hs2
            · exact absurd (by simpa using eall) z
      · rintro σ H' ⟨v2, v3, rfl, hs, hall⟩
        rw [vi_len, List.take_length] at hall
        rw [hall] at q
        exact q _ hs
end
end Fp
end

section
namespace Fp
open PySem PySem.Spec PyProof.Rows L2
/-! ### a right rule -/
theorem right_eq (r : Ih.Rule) (rules : List Ih.Rule) (spells : List Ih.Text) : r.right rules spells =
    (if r.to_ < r.from_ ∨ 5 < r.kind then false else if r.kind = 1 then decide (r.at_ r.to_ ≤ 9) else if r.kind = 0 ∨ r.kind = 2 then decide (1 ≤ r.weight) && decide (r.at_ r.to_ ≤ 65535) else
      if r.kind = 5 ∧ spellB rules spells r.weight = false then false else !r.rise) := by
  have e : r.right rules spells = (decide (r.from_ ≤ r.to_) && decide (r.kind ≤ 5) && (r.kind != 0 && r.kind != 2 || decide (1 ≤ r.weight) && decide (r.at_ r.to_ ≤ 65535)) && (r.kind != 1 || decide (r.at_ r.to_ ≤ 9)) && (r.kind != 5 || spellB rules spells r.weight) && (decide (r.kind ≤ 2) || !r.rise)) := rfl
  rw [e]
  by_cases h1 : r.from_ ≤ r.to_
  · by_cases h2 : r.kind ≤ 5
    · rw [if_neg (by omega)]
      have : r.kind = 0 ∨ r.kind = 1 ∨ r.kind = 2 ∨ r.kind = 3 ∨ r.kind = 4 ∨ r.kind = 5 := by omega
      rcases this with k | k | k | k | k | k
      all_goals simp [h1, k]
    · rw [if_pos (by omega)]
      simp [h2]
  · rw [if_pos (by omega)]
    simp [h1]
theorem item_of (s : Ih.Rule) (d : Nat) (h : s.kind ≤ 2) : ∃ it, s.item d = [it] ∧ itemIs it s.kind (s.at_ d) s.accent s.mark ∧ ∀ r : Ih.Rule, itemIs (r.takes it) s.kind (s.at_ d) r.accent r.mark := by
  unfold Ih.Rule.item
  have : s.kind = 0 ∨ s.kind = 1 ∨ s.kind = 2 := by omega
  rcases this with k | k | k
  · rw [if_pos k, k]
    exact ⟨_, rfl, ⟨rfl, rfl, rfl, rfl⟩, fun r => ⟨rfl, rfl, rfl, rfl⟩⟩
  · rw [if_neg (by omega), if_pos k, k]
    exact ⟨_, rfl, ⟨rfl, rfl⟩, fun r => ⟨rfl, rfl⟩⟩
  · rw [if_neg (by omega), if_neg (by omega), if_pos k, k]
    exact ⟨_, rfl, ⟨rfl, rfl⟩, fun r => ⟨rfl, rfl⟩⟩
theorem item_no (s : Ih.Rule) (d : Nat) (h : 2 < s.kind) : s.item d = [] := by
  unfold Ih.Rule.item
  rw [if_neg (by omega), if_neg (by omega), if_neg (by omega)]
def oneB (rules : List Ih.Rule) (d : Nat) : List Ih.Item := match Ih.ruleIn rules d with
  | some s => s.item d
  | none => []
theorem itemsB_eq (rules : List Ih.Rule) (spells : List Ih.Text) (c : Nat) : itemsB rules spells c = (match Ih.ruleIn rules c with
  | none => []
  | some r => if r.kind = 5 then ((spells.getD r.weight []).flatMap (oneB rules)).map r.takes else r.item c) := rfl
section
variable {P : Program} {w : World} {K : PySem.W.Frag} {mg : Str → Option Value} {base : Heap} {A : Ad}
/-! ### is_right -/
def spRight (A : Ad) : Sp := fun vs H Q _ => ∃ (b a kd : Addr) (r : Ih.Rule) (rules : List Ih.Rule) (spells : List Ih.Text), vs = [.ref b, .ref a] ∧ BookS A H b kd rules spells ∧ RuleAt A H a r ∧ ∀ H', Same H H' → Q (.bl (r.right rules spells)) H'
theorem scRight : FnScope ["book", "rule"] ["book", "rule"] (C8.fnScope (top 18)) := ⟨rfl, rfl, rfl, by decide +kernel, rfl, by decide +kernel, by decide +kernel⟩
theorem cal_right {f : Addr} {fd : FuncData} (T : Tx K mg A) (D : C8.Def K mg "is_right" (top 18) f fd) (b : Binds K fd ["book", "rule"] []) (cW : C8.Met P w K mg base 1 A.rule "weight_at" (spWat A) []) (cC : C8.Cal P w K mg base 2 "can_be_spelled" (spSpell A) []) : C8.Cal P w K mg base 3 "is_right" (spRight A) [] := by
  refine C8.cal0 D b .nil scRight (fun vs H Q E h => ?_) (fun cdv B outer s H vs Q E hr h => ?_)
  · obtain ⟨_, _, _, _, _, _, rfl, _⟩ := h
    rfl
  · obtain ⟨b, a, kd, r, rules, spells, rfl, hb, ha, q⟩ := h
    refine ⟨_, pss_cons (ps_if (PW.pt (pw_or (pt_cmpR op_gt (pe_fld (pv 1) rfl) (pe_fld (pv 1) rfl) (nomark _)) (pw_or1 (pt_cmpR op_gt (pe_fld (pv 1) rfl) (gl T.SPELLED) (nomark _))))) (pss_one (ps_ret pe_bl)) pss_nil)
      (pss_cons (ps_if (pt_cmpR op_eq (pe_fld (pv 1) rfl) (gl T.DIGIT) (nomark _)) (pss_one (ps_ret (pe_cmpR op_le (C8.pe_mt cW hr (by decide) (pv 1) (pa_cons (pe_fld (pv 1) rfl) pa_nil)) (gl T.GREATEST_DIGIT) (nomark _)))) pss_nil)
      (pss_cons (ps_if (pt_cmpR op_in_seq (pe_fld (pv 1) rfl) (pe_tup (pa_cons (gl T.LETTER) (pa_cons (gl T.SIGN) pa_nil))) (by rfl))
        (pss_one (ps_ret (pe_and (pe_cmpR op_ge (pe_fld (pv 1) rfl) pe_int (nomark _)) (pe_one (pe_cmpR op_le (C8.pe_mt cW hr (by decide) (pv 1) (pa_cons (pe_fld (pv 1) rfl) pa_nil)) (gl T.GREATEST_WEIGHT) (nomark _)))))) pss_nil)
      (pss_cons (ps_if (PW.pt (pw_and (pt_cmpR op_eq (pe_fld (pv 1) rfl) (gl T.SPELLED) (nomark _)) (pw_and1 (pt_not (pt_val (C8.pe_c cC hr (by decide) rfl (pa_cons (pv 0) (pa_cons (pe_fld (pv 1) rfl) pa_nil)))))))) (pss_one (ps_ret pe_bl)) pss_nil)
      (pss_one (ps_ret (pe_cmpR op_eq (pe_fld (pv 1) rfl) pe_int (nomark _))))))), ?_⟩
    rw [right_eq] at q
    have noR : ∀ _dx : Addr, List.lookup ("weight_at" : Str) (ruleF r) = none := fun dx => lk_not (ns := rNames) rfl (by decide +kernel)
    obtain ⟨dx, ha0⟩ := id ha
    refine ⟨_, rfl, rd_rule T ha 0 ⟨_, rfl, rd_rule T ha 1 ⟨_, _, rfl, rfl, _, rfl, ite2 (fun h1 => ?_) (fun h1 => ?_)⟩⟩⟩
    · have h1' : r.to_ < r.from_ := by simpa using h1
      rw [if_pos (.inl h1')] at q
      exact iteT (q _ (fun _ _ z => z))
    have h1' : r.from_ ≤ r.to_ := by
      have : ¬ (r.to_ : Int) < (r.from_ : Int) := by simpa using h1
      omega
    refine ⟨_, rfl, rd_rule T ha 2 ⟨_, _, rfl, rfl, _, rfl, ite2 (fun h2 => ?_) (fun h2 => ?_)⟩⟩
    · have h2' : 5 < r.kind := by
        have : ((5 : Nat) : Int) < (r.kind : Nat) := by simpa using h2
        omega
      rw [if_pos (.inr h2')] at q
      exact q _ (fun _ _ z => z)
    have h2' : r.kind ≤ 5 := by
      have : ¬ ((5 : Nat) : Int) < (r.kind : Nat) := by simpa using h2
      omega
    rw [if_neg (by omega)] at q
    refine ⟨_, rfl, rd_rule T ha 2 ⟨rfl, _, rfl, ?_⟩⟩
    rw [dec_nn]
    by_cases h3 : r.kind = 1
    · rw [decide_eq_true h3]
      rw [if_pos h3] at q
      refine iteT ⟨_, rfl, a, dx, _, rfl, ha0, noR dx, _, rfl, rd_rule T ha 1 ⟨a, r.to_, r, rfl, ha, h1', _, _, rfl, rfl, ?_⟩⟩
      have e : decide (((r.at_ r.to_ : Nat) : Int) ≤ ((9 : Nat) : Int)) = decide (r.at_ r.to_ ≤ 9) := decide_eq_decide.mpr (by omega)
      have z := q _ (fun _ _ z => z)
      rw [← e] at z
      exact z
    rw [decide_eq_false h3]
    rw [if_neg h3] at q
    refine iteF ⟨_, rfl, rd_rule T ha 2 ⟨(by show 2 ≤ sizeLine; decide), fun t nt => ⟨t, _, rfl, .inr (.of upd_same), rfl, rfl, _, rfl, ?_⟩⟩⟩
    have s1 : Same H (upd H t (.tup [.int ((0 : Nat) : Int), .int ((2 : Nat) : Int)])) := Same.new nt
    have ha1 := RuleAt.kp (.of s1) a r ha
    obtain ⟨dx1, ha2⟩ := id ha1
    rw [if_neg Bool.false_ne_true, inV2]
    by_cases h4 : r.kind = 0 ∨ r.kind = 2
    · have e4 : (decide (r.kind = 0) || decide (r.kind = 2)) = true := by simpa using h4
      rw [e4]
      rw [if_pos h4] at q
      refine iteT ⟨_, rfl, rd_rule T ha1 6 ⟨_, _, rfl, rfl, _, rfl, ?_⟩⟩
      refine ite2 (fun h5 => ?_) (fun h5 => ?_)
      · have h5' : 1 ≤ r.weight := by
          have : (1 : Int) ≤ (r.weight : Nat) := by simpa using h5
          omega
        rw [decide_eq_true h5'] at q
        refine ⟨_, rfl, a, dx1, _, rfl, ha2, noR dx1, _, rfl, rd_rule T ha1 1 ⟨a, r.to_, r, rfl, ha1, h1', _, _, rfl, rfl, ?_⟩⟩
        have e : decide (((r.at_ r.to_ : Nat) : Int) ≤ ((65535 : Nat) : Int)) = decide (r.at_ r.to_ ≤ 65535) := decide_eq_decide.mpr (by omega)
        have z := q _ s1
        rw [Bool.true_and, ← e] at z
        exact z
      · have h5' : ¬ 1 ≤ r.weight := by
          have : ¬ (1 : Int) ≤ (r.weight : Nat) := by simpa using h5
          omega
        rw [decide_eq_false h5'] at q
        exact q _ s1
    have e4 : (decide (r.kind = 0) || decide (r.kind = 2)) = false := by
      rw [Bool.or_eq_false_iff, decide_eq_false_iff_not, decide_eq_false_iff_not]
      omega
    rw [e4]
    rw [if_neg h4] at q
    have eR : ∀ H', Same H H' → (if r.kind = 5 ∧ spellB rules spells r.weight = false then False else True) → Q (.bl (decide (V.int ((b2n r.rise : Nat) : Int) = V.int ((0 : Nat) : Int)))) H' := fun H' sH z => by
      have e : decide (V.int ((b2n r.rise : Nat) : Int) = V.int ((0 : Nat) : Int)) = !r.rise := by
        rw [dec_nn]
        unfold b2n
        cases r.rise <;> rfl
      rw [e]
      have := q H' sH
      by_cases z2 : r.kind = 5 ∧ spellB rules spells r.weight = false
      · rw [if_pos z2] at z
        exact z.elim
      · rw [if_neg z2] at this
        exact this
    refine iteF ⟨_, rfl, rd_rule T ha1 2 ⟨rfl, _, rfl, ?_⟩⟩
    rw [dec_nn]
    by_cases h6 : r.kind = 5
    · rw [decide_eq_true h6]
      refine iteT ⟨_, rfl, _, rfl, rd_rule T ha1 6 ⟨b, kd, r.weight, rules, spells, rfl, hb.kp (.of s1), fun H2 s2 => ⟨_, rfl, ?_⟩⟩⟩
      have s12 : Same H H2 := fun c o z => s2 _ _ (s1 _ _ z)
      cases e7 : spellB rules spells r.weight with
      | false =>
        rw [if_pos ⟨h6, e7⟩] at q
        exact iteT (q _ s12)
      | true =>
        refine iteF ⟨_, rfl, rd_rule T (RuleAt.kp (.of s12) a r ha) 3 ⟨rfl, ?_⟩⟩
        exact eR H2 s12 (by rw [if_neg (by rw [e7]; intro z; cases z.2)]; trivial)
    · rw [decide_eq_false h6]
      refine iteF ?_
      refine iteF ⟨_, rfl, rd_rule T ha1 3 ⟨rfl, ?_⟩⟩
      exact eR _ s1 (by rw [if_neg (fun z => h6 z.1)]; trivial)
/-! ### first_wrong_rule -/
def spWrong (A : Ad) : Sp := fun vs H Q _ => ∃ (b kd : Addr) (rules : List Ih.Rule) (spells : List Ih.Text), vs = [.ref b] ∧ BookS A H b kd rules spells ∧ ∀ H', Same H H' → Q (match Ih.wrongRule rules spells with
  | none => .non
  | some i => .int (i : Nat)) H'
theorem scWrong : FnScope ["book", "number", "rule"] ["book"] (C8.fnScope (top 17)) := ⟨rfl, rfl, rfl, by decide +kernel, rfl, by decide +kernel, by decide +kernel⟩
theorem cal_wrong {f : Addr} {fd : FuncData} (T : Tx K mg A) (D : C8.Def K mg "first_wrong_rule" (top 17) f fd) (b : Binds K fd ["book"] []) (cR : C8.Cal P w K mg base 3 "is_right" (spRight A) []) : C8.Cal P w K mg base 4 "first_wrong_rule" (spWrong A) [] := by
  refine C8.cal0 D b .nil scWrong (fun vs H Q E h => ?_) (fun cdv B outer s H vs Q E hr h => ?_)
  · obtain ⟨_, _, _, _, rfl, _⟩ := h
    rfl
  · obtain ⟨b, kd, rules, spells, rfl, hb, q⟩ := h
    have nd := scWrong.nd
    refine ⟨_, pss_cons (ps_for PassesOwn.never rfl (pi_enum (by rfl) T.enum (pa_cons (pe_fld (pv 0) rfl) pa_nil)) (pg_tup rfl (pgs_cons (pg_name (i := 1) nd rfl (.inl rfl)) (pgs_cons (pg_name (i := 2) nd rfl (.inl rfl)) pgs_nil)))
      (pss_one (ps_if (pt_not (pt_val (C8.pe_c cR hr (by decide) rfl (pa_cons (pv 0) (pa_cons (pv 2) pa_nil))))) (pss_one (ps_ret (pv 1))) pss_nil)))
      (pss_one (ps_ret pe_non)), ?_⟩
    obtain ⟨dx, rl, sl, st, ow, rs, starts, h1, h2, h3, h4, hh⟩ := id hb
    have h3l := h3.len
    refine ⟨_, rfl, rd_book T h1 0 ⟨rl, _, rfl, .of h2, for_enum (K := K) (a := rl) (xs := refs rs) (fun i σ H' => ∃ (v1 v2 : Option V), σ = [some (.ref b), v1, v2] ∧ Same H H' ∧ ∀ r ∈ rules.take i, r.right rules spells = true) ⟨none, none, rfl, fun _ _ z => z, fun r hr => by simp at hr⟩ ?_ ?_ ?_⟩⟩
    · rintro i σ H' ⟨v1, v2, rfl, hs, _⟩
      exact .of (hs _ _ h2)
    · rintro i x σ H' T0 hx ⟨v1, v2, rfl, hs, hall⟩ nT
      obtain ⟨ra, hra, rfl⟩ := refs_of hx
      obtain ⟨r, hri, hr1⟩ := h3.at1 hra
      have hs2 : Same H (upd H' T0 (.tup [.int (i : Nat), .ref ra])) := fun c o z => Same.new nT _ _ (hs _ _ z)
      refine ⟨T0, _, rfl, .of upd_same, rfl, _, _, rfl, _, _, rfl, rfl, ?_⟩
      refine ⟨_, rfl, _, rfl, b, ra, kd, r, rules, spells, rfl, hb.kp (.of hs2), hr1.kp (.of hs2), fun H2 s2 => ⟨_, rfl, ?_⟩⟩
      have hs3 : Same H H2 := fun c o z => s2 _ _ (hs2 _ _ z)
      cases e : r.right rules spells with
      | true =>
        refine iteF ⟨_, _, rfl, hs3, fun r2 hr2 => ?_⟩
        rw [List.take_add_one, hri] at hr2
        rcases List.mem_append.mp hr2 with hr2 | hr2
        · exact hall r2 hr2
        · have e2 : r2 = r := by simpa using hr2
          subst e2
          exact e
      | false =>
        refine iteT ⟨_, rfl, ?_⟩
        have e2 : Ih.wrongRule rules spells = some i := by
          unfold Ih.wrongRule
          rw [List.findIdx?_eq_some_iff_getElem]
          have hil : i < rules.length := (List.getElem?_eq_some_iff.mp hri).1
          have hrg : rules[i] = r := (List.getElem?_eq_some_iff.mp hri).2
          refine ⟨hil, by rw [hrg, e]; rfl, fun j hj => ?_⟩
          have hjl : j < rules.length := by omega
          have : rules[j] ∈ rules.take i := by
            rw [List.mem_take_iff_getElem]
            exact ⟨j, by omega, rfl⟩
          rw [hall _ this]
          simp
        have q2 := q H2 hs3
        rw [e2] at q2
        exact q2
    · rintro σ H' ⟨v1, v2, rfl, hs, hall⟩
      rw [refs_len, h3l, List.take_length] at hall
      have e2 : Ih.wrongRule rules spells = none := by
        unfold Ih.wrongRule
        rw [List.findIdx?_eq_none_iff]
        intro r hr
        rw [hall r hr]
        rfl
      have q2 := q H' hs
      rw [e2] at q2
      exact q2
/-! ### find_parts -/
def spFind (A : Ad) : Sp := fun vs H Q _ => ∃ (b kd : Addr) (c : Nat) (rules : List Ih.Rule) (spells : List Ih.Text), vs = [.ref b, .int (c : Int)] ∧ BookS A H b kd rules spells ∧ (∀ r ∈ rules, r.right rules spells = true) ∧ (∀ s ∈ spells, s.length ≤ 4) ∧
  ∀ H' p, Same H H' → PartsT A H' p (itemsB rules spells c) → Q (.ref p) H'
theorem scFind : FnScope ["self", "character", "rule", "spelling", "one"] ["self", "character"] (C8.fnScope (inClass (top 11) 4)) := ⟨rfl, rfl, rfl, by decide +kernel, rfl, by decide +kernel, by decide +kernel⟩
theorem met_find {f : Addr} {fd : FuncData} (T : Tx K mg A) (me : Meth K A.book "find_parts" f) (F : C8.Fun K "find_parts" "RuleBook.find_parts" (inClass (top 11) 4) f fd) (b : Binds K fd ["self", "character"] []) (cR : C8.Met P w K mg base 1 A.book "rule_of" (spRuleOf A) [])
    (cM : C8.Cal P w K mg base 3 "make_part" (spMkPart A) []) : C8.Met P w K mg base 4 A.book "find_parts" (spFind A) [] := by
  refine C8.met0 T.cBook me F b scFind (fun vs H Q E h => ?_) (fun cdv B outer s H vs Q E hr h => ?_)
  · obtain ⟨_, _, _, _, _, rfl, _⟩ := h
    rfl
  · obtain ⟨b, kd, c, rules, spells, rfl, hb, hR, hS4, q⟩ := h
    have nd := scFind.nd
    refine ⟨_, pss_cons (ps_set (i := 2) nd rfl (.inr rfl) (C8.pe_mt cR hr (by decide) (pv 0) (pa_cons (pv 1) pa_nil)))
      (pss_cons (ps_if (pt_cmpR op_isN (pv 2) pe_non (nomark _)) (pss_one (ps_ret (pe_tup pa_nil))) pss_nil)
      (pss_cons (ps_if (pt_cmpR op_eq (pe_fld (pv 2) rfl) (gl T.SPELLED) (nomark _))
        (pss_cons (ps_set (i := 3) nd rfl (.inl rfl) (pe_ix ix_list (pe_fld (pv 0) rfl) (pe_fld (pv 2) rfl) (fun _ _ => rfl)))
        (pss_one (ps_ret (pe_callTy call_tuple_of (by rfl) T.tuple (by decide +kernel) (pa_cons (pe_lc (own := [("one", 4)]) (g := gName 4) (tt := tYes) rfl nd (pi_list (pv 3))
          (blkOk_by (own := [("one", 4)]) (N := ["self", "character", "rule", "spelling", "one"]) (sc := C8.fnScope (inClass (top 11) 4)) (by decide +kernel)) (fun _ _ _ _ _ => pg_name (i := 4) nd rfl (Or.inl rfl)) (fun _ _ _ _ _ => pts_nil)
          (fun _ _ _ _ _ => C8.pe_c cM hr (by decide) (by rfl) (pa_cons (C8.pe_mt cR hr (by decide) (pv 0) (pa_cons (pv 4) pa_nil)) (pa_cons (pv 4) (pa_cons (pv 2) pa_nil))))) pa_nil))))) pss_nil)
      (pss_cons (ps_if (pt_cmpR op_in_seq (pe_fld (pv 2) rfl) (pe_tup (pa_cons (gl T.LETTER) (pa_cons (gl T.DIGIT) (pa_cons (gl T.SIGN) pa_nil)))) (by rfl))
        (pss_one (ps_ret (pe_tup (pa_cons (C8.pe_c cM hr (by decide) rfl (pa_cons (pv 2) (pa_cons (pv 1) (pa_cons (pv 2) pa_nil)))) pa_nil)))) pss_nil)
      (pss_one (ps_ret (pe_tup pa_nil)))))), ?_⟩
    obtain ⟨dx, rl, sl, st, ow, rs, starts, h1, h2, h3, ⟨ss, h4, h5⟩, hh⟩ := id hb
    have noB : List.lookup ("rule_of" : Str) (bookF rl sl st ow kd) = none := lk_not (ns := ["rules", "spellings", "starts", "owners", "known"]) rfl (by decide +kernel)
    rw [itemsB_eq] at q
    refine ⟨_, rfl, b, dx, _, rfl, h1, noB, _, rfl, b, kd, c, rules, spells, rfl, hb, fun v hv => ?_⟩
    unfold RuleV at hv
    cases er : Ih.ruleIn rules c with
    | none =>
      rw [er] at hv q
      subst hv
      exact ⟨_, rfl, rfl, _, rfl, iteT ⟨by decide, fun t nt => q _ t (Same.new nt) ⟨[], upd_same, trivial⟩⟩⟩
    | some r =>
      rw [er] at hv q
      simp only at q
      obtain ⟨ra, rfl, hra⟩ := hv
      have hcov := ruleIn_cov er
      have hright := hR r (ruleIn_mem er)
      refine ⟨_, rfl, rfl, _, rfl, iteF ?_⟩
      refine ⟨_, rfl, rd_rule T hra 2 ⟨rfl, _, rfl, ?_⟩⟩
      rw [dec_nn]
      by_cases k5 : r.kind = 5
      · rw [decide_eq_true k5]
        rw [if_pos k5] at q
        rw [right_eq] at hright
        have hsp : spellB rules spells r.weight = true := by
          cases e : spellB rules spells r.weight with
          | true => rfl
          | false =>
            rw [if_neg (by omega), if_neg (by omega), if_neg (by omega), if_pos ⟨k5, e⟩] at hright
            cases hright
        unfold spellB at hsp
        cases es : spells[r.weight]? with
        | none => rw [es] at hsp; cases hsp
        | some s1 =>
          rw [es] at hsp
          simp only at hsp
          have eg : spells.getD r.weight [] = s1 := by rw [List.getD_eq_getElem?_getD, es]; rfl
          rw [eg] at q
          obtain ⟨sa, hsa, hsl⟩ := h5.at2 es
          have hs4 : s1.length ≤ 4 := hS4 s1 (List.mem_of_getElem? es)
          refine iteT ⟨_, rfl, rd_book T h1 1 ⟨_, rfl, rd_rule T hra 6 ⟨sl, _, _, _, rfl, rfl, .of h4, atI_nat (refs_at' hsa), ?_⟩⟩⟩
          refine ⟨_, rfl, sa, rfl, ⟨_, .of hsl⟩, fun L nL => lc_list (K := K) (a := sa) (xs := vi s1) (fun i H' => Same H H' ∧ ∃ as, H' L = some (.lst (refs as)) ∧ All2 (PartAt A H') as (((s1.take i).flatMap (oneB rules)).map r.takes)) ⟨Same.new nL, [], upd_same, trivial⟩ (fun i H' _ z => .of (z.1 _ _ hsl)) ?_ ?_⟩
          · rintro i x H' hx ⟨hs, as, hL, hP⟩
            obtain ⟨d, hd, rfl⟩ := vi_of hx
            have hb2 : BookS A H' b kd rules spells := hb.kp (.of hs)
            have hk := List.all_eq_true.mp hsp d (List.mem_of_getElem? hd)
            refine ⟨rfl, _, rfl, b, dx, _, rfl, hs _ _ h1, noB, _, rfl, b, kd, d, rules, spells, rfl, hb2, fun v hv => ?_⟩
            unfold RuleV at hv
            cases er2 : Ih.ruleIn rules d with
            | none => rw [er2] at hk; cases hk
            | some r2 =>
              rw [er2] at hv hk
              have hk2 : r2.kind ≤ 2 := by simpa using hk
              obtain ⟨ra2, rfl, hra2⟩ := hv
              obtain ⟨it, hit, _, hit2⟩ := item_of r2 d hk2
              refine ⟨_, rfl, _, rfl, ra2, ra, d, r2, r, rfl, hra2, RuleAt.kp (.of hs) _ _ hra, (ruleIn_cov er2).1, fun H2 p px s2 np hp => ?_⟩
              have hL2 := s2 _ _ hL
              have hil : i < s1.length := (List.getElem?_eq_some_iff.mp hd).1
              have hpl : p ≠ L := (ne_of_none hL np).symm
              have e1 : oneB rules d = [it] := by unfold oneB; rw [er2]; exact hit
              have etk : ((s1.take (i + 1)).flatMap (oneB rules)).map r.takes = ((s1.take i).flatMap (oneB rules)).map r.takes ++ [r.takes it] := by
                rw [List.take_add_one, hd, List.flatMap_append, List.map_append]
                show _ ++ List.map r.takes (List.flatMap (oneB rules) [d]) = _
                rw [List.flatMap_cons, List.flatMap_nil, List.append_nil, e1]
                rfl
              have hlen : (refs as).length < sizeLine := by
                have hone : ∀ l : List Nat, (∀ x ∈ l, x ∈ s1) → (l.flatMap (oneB rules)).length ≤ l.length := fun l => by
                  induction l with
                  | nil => intro _; exact Nat.le_refl _
                  | cons y l ih =>
                    intro hm
                    have := ih fun x hx => hm x (List.mem_cons_of_mem _ hx)
                    have hky := List.all_eq_true.mp hsp y (hm y List.mem_cons_self)
                    have : (oneB rules y).length ≤ 1 := by
                      unfold oneB
                      cases er3 : Ih.ruleIn rules y with
                      | none => exact Nat.zero_le _
                      | some r3 =>
                        rw [er3] at hky
                        obtain ⟨it3, h3, _⟩ := item_of r3 y (by simpa using hky)
                        show (r3.item y).length ≤ 1
                        rw [h3]
                        exact Nat.le_refl _
                    rw [List.flatMap_cons, List.length_append, List.length_cons]
                    omega
                rw [refs_len, hP.len, List.length_map]
                have h0 := hone (s1.take i) fun x hx => List.mem_of_mem_take hx
                rw [List.length_take] at h0
                exact line_lt (by omega)
              refine ⟨refs as, hL2, hlen, fun a o ha => ?_, as ++ [p], by rw [refs_app]; exact upd_same, ?_⟩
              · rw [upd_ne (ne_of_none ha nL)]
                exact s2 _ _ (hs _ _ ha)
              · rw [etk]
                have it1 : It H' (upd H2 L (.lst (refs as ++ [.ref p]))) := (It.of s2).trans (It.updL hL2)
                refine (hP.mono (PartAt.it it1)).app ⟨⟨px, _, _, _, _, ?_, hit2 r⟩, trivial⟩
                rw [upd_ne hpl]
                exact hp
          · rintro H' ⟨hs, as, hL, hP⟩
            rw [vi_len, List.take_length] at hP
            refine ⟨L, _, rfl, .inl ⟨.of hL, fun t nt => q _ t (fun a o ha => Same.new nt _ _ (hs _ _ ha)) ⟨as, upd_same, hP.mono (PartAt.kp (.of (Same.new nt)))⟩⟩⟩
      · rw [decide_eq_false k5]
        rw [if_neg k5] at q
        refine iteF ⟨_, rfl, rd_rule T hra 2 ⟨(by show 3 ≤ sizeLine; decide), fun t nt => ⟨t, _, rfl, .inr (.of upd_same), rfl, rfl, _, rfl, ?_⟩⟩⟩
        have s1 : Same H (upd H t (.tup [.int ((0 : Nat) : Int), .int ((1 : Nat) : Int), .int ((2 : Nat) : Int)])) := Same.new nt
        have hra1 := RuleAt.kp (.of s1) ra r hra
        rw [if_neg Bool.false_ne_true, inV3]
        have ek : (decide (r.kind = 0) || (decide (r.kind = 1) || decide (r.kind = 2))) = decide (r.kind ≤ 2) := by
          rw [Bool.eq_iff_iff]
          simp
          omega
        rw [ek]
        by_cases k2 : r.kind ≤ 2
        · rw [decide_eq_true k2]
          obtain ⟨it, hit, hit1, _⟩ := item_of r c k2
          rw [hit] at q
          refine iteT ⟨_, rfl, _, rfl, _, rfl, ra, ra, c, r, r, rfl, hra1, hra1, hcov.1, fun H2 p px s2 np hp => ⟨(by show 1 ≤ sizeLine; decide), fun t2 nt2 => q _ t2 (fun a o ha => Same.new nt2 _ _ (s2 _ _ (s1 _ _ ha))) ⟨[p], upd_same, ⟨px, _, _, _, _, Same.new nt2 _ _ hp, hit1⟩, trivial⟩⟩⟩
        · rw [decide_eq_false k2]
          rw [item_no r c (by omega)] at q
          exact iteF ⟨by decide, fun t2 nt2 => q _ t2 (fun a o ha => Same.new nt2 _ _ (s1 _ _ ha)) ⟨[], upd_same, trivial⟩⟩
/-! ### parts -/
def spParts (A : Ad) : Sp := fun vs H Q _ => ∃ (b : Addr) (c : Nat) (U : List Nat) (rules : List Ih.Rule) (spells : List Ih.Text), vs = [.ref b, .int (c : Int)] ∧ BookAt A U H b rules spells ∧ c ∈ U ∧ U.length ≤ 100000 ∧ (∀ r ∈ rules, r.right rules spells = true) ∧ (∀ s ∈ spells, s.length ≤ 4) ∧
  ∀ H' p, Kp H H' → BookAt A U H' b rules spells → PartsT A H' p (itemsB rules spells c) → Q (.ref p) H'
theorem scParts : FnScope ["self", "character"] ["self", "character"] (C8.fnScope (inClass (top 11) 3)) := ⟨rfl, rfl, rfl, by decide +kernel, rfl, by decide +kernel, by decide +kernel⟩
theorem nodup_len : ∀ {l U : List Nat}, l.Nodup → (∀ x ∈ l, x ∈ U) → l.length ≤ U.length
  | [], _, _, _ => Nat.zero_le _
  | x :: l, U, h1, h2 => by
    rw [List.nodup_cons] at h1
    have hx := h2 x List.mem_cons_self
    have ih := nodup_len (U := U.erase x) h1.2 fun y hy => by
      rw [List.mem_erase_of_ne (fun e => h1.1 (by subst e; exact hy))]
      exact h2 y (List.mem_cons_of_mem _ hy)
    rw [List.length_erase_of_mem hx] at ih
    have := List.length_pos_of_mem hx
    rw [List.length_cons]
    omega
theorem Kp.updD {H : Hp} {D : Addr} {kvs : List (Key × V)} {o : HO} (h : H D = some (.dK kvs)) : Kp H (upd H D o) := fun b u e n => by
  rw [upd_ne (fun z => by subst z; rw [h] at e; cases e; exact n _ rfl)]
  exact e
theorem known_len {U : List Nat} {H : Hp} {rules : List Ih.Rule} {spells : List Ih.Text} {kvs : List (Key × V)} (h : KnownOk A U H rules spells kvs) : kvs.length ≤ U.length := by
  have h1 : ∀ l : List (Key × V), (∀ p ∈ l, ∃ c : Nat, p.1 = kInl c ∧ c ∈ U) → ∃ ks : List Nat, l.map (·.1) = ks.map kInl ∧ ∀ c ∈ ks, c ∈ U := fun l => by
    induction l with
    | nil => exact fun _ => ⟨[], rfl, fun c hc => by cases hc⟩
    | cons p l ih =>
      intro hp
      obtain ⟨ks, e, hk⟩ := ih fun q hq => hp q (List.mem_cons_of_mem _ hq)
      obtain ⟨c, e2, hc⟩ := hp p List.mem_cons_self
      refine ⟨c :: ks, by rw [List.map_cons, List.map_cons, e, e2], fun d hd => ?_⟩
      rcases List.mem_cons.mp hd with rfl | hd
      · exact hc
      · exact hk d hd
  obtain ⟨ks, e, hk⟩ := h1 kvs fun p hp => by
    obtain ⟨c, t, e, hc, _⟩ := h.1 p hp
    exact ⟨c, by rw [e], hc⟩
  have hn := h.2
  rw [e] at hn
  have hn2 : ks.Nodup := by
    rw [List.nodup_iff_pairwise_ne] at hn ⊢
    rw [List.pairwise_map] at hn
    exact hn.imp fun {x y} h e => h (by rw [e])
  have := nodup_len hn2 hk
  have e3 := congrArg List.length e
  rw [List.length_map, List.length_map] at e3
  omega
theorem known_at {U : List Nat} {H : Hp} {rules : List Ih.Rule} {spells : List Ih.Text} {kvs : List (Key × V)} (h : KnownOk A U H rules spells kvs) {c : Nat} {v : V} (e : valV kvs (kInl c) = some v) : ∃ t, v = .ref t ∧ PartsT A H t (itemsB rules spells c) := by
  unfold valV at e
  cases e2 : kvs.find? (fun kv => decide (kv.1 = kInl c)) with
  | none => rw [e2] at e; cases e
  | some p =>
    rw [e2] at e
    have e3 : p.2 = v := Option.some.inj e
    have e4 : p.1 = kInl c := by simpa using List.find?_some e2
    obtain ⟨d, t, e5, _, ht⟩ := h.1 p (List.mem_of_find?_eq_some e2)
    subst e5
    have e6 : (d : Int) = c := Sum.inl.inj e4
    have e7 : d = c := by omega
    subst e7
    exact ⟨t, e3.symm, ht⟩
theorem met_parts {f : Addr} {fd : FuncData} (T : Tx K mg A) (me : Meth K A.book "parts" f) (F : C8.Fun K "parts" "RuleBook.parts" (inClass (top 11) 3) f fd) (b : Binds K fd ["self", "character"] []) (cF : C8.Met P w K mg base 4 A.book "find_parts" (spFind A) []) : C8.Met P w K mg base 5 A.book "parts" (spParts A) [] := by
  refine C8.met0 T.cBook me F b scParts (fun vs H Q E h => ?_) (fun cdv B outer s H vs Q E hr h => ?_)
  · obtain ⟨_, _, _, _, _, rfl, _⟩ := h
    rfl
  · obtain ⟨b, c, U, rules, spells, rfl, ⟨kd, kvs, hb, hkd, hko⟩, hcU, hU, hR, hS4, q⟩ := h
    have nd := scParts.nd
    have hu := hu_of hr
    refine ⟨_, pss_cons (ps_if (pt_cmp (pc_dnotin hu (pv 1) (pe_fld (pv 0) rfl)) (by rfl)) (pss_one (ps_dput hu (pe_fld (pv 0) rfl) (pv 1) (C8.pe_mt cF hr (by decide) (pv 0) (pa_cons (pv 1) pa_nil)) rfl)) pss_nil)
      (pss_one (ps_ret (pe_dget hu (pe_fld (pv 0) rfl) (pv 1) (fun _ _ => rfl)))), ?_⟩
    obtain ⟨dx, rl, sl, st, ow, rs, starts, h1, _⟩ := id hb
    have noB : List.lookup ("find_parts" : Str) (bookF rl sl st ow kd) = none := lk_not (ns := ["rules", "spellings", "starts", "owners", "known"]) rfl (by decide +kernel)
    refine ⟨_, rfl, _, rfl, rd_book T h1 4 ⟨kd, _, rfl, DGet.k (k := kInl c) hkd, _, rfl, ?_⟩⟩
    cases e : valV kvs (kInl c) with
    | some v =>
      obtain ⟨t, rfl, ht⟩ := known_at hko e
      refine iteF ⟨_, rfl, rd_book T h1 4 ⟨_, rfl, kd, _, rfl, ?_, q H t (Kp.refl H) ⟨kd, kvs, hb, hkd, hko⟩ ht⟩⟩
      have z := DGet.k (k := kInl c) hkd
      rw [e] at z
      exact z
    | none =>
      refine iteT ⟨_, rfl, b, dx, _, rfl, h1, noB, _, rfl, b, kd, c, rules, spells, rfl, hb, hR, hS4, fun H1 p s1 hp => ?_⟩
      have hl := known_len hko
      have hkd1 := s1 _ _ hkd
      refine ⟨_, rfl, rd_book T (s1 _ _ h1) 4 ⟨_, rfl, kd, _, rfl, DPut.k (k := kInl c) hkd1 (line_lt (by omega)), ?_⟩⟩
      rw [putK_new _ e]
      have k2 : Kp H1 (upd H1 kd (.dK (kvs ++ [(kInl c, .ref p)]))) := Kp.updD hkd1
      have k3 := (Kp.of s1).trans k2
      have ht := hp.kp k2
      refine ⟨_, rfl, rd_book T (k3.ins h1) 4 ⟨_, rfl, kd, _, rfl, ?_, q _ p k3 ⟨kd, _, hb.kp k3, upd_same, fun x hx => ?_, ?_⟩ ht⟩⟩
      · have z := DGet.k (H := upd H1 kd (.dK (kvs ++ [(kInl c, .ref p)]))) (a := kd) (k := kInl c) upd_same
        rw [valV_snoc _ _ _ _ e, if_pos rfl] at z
        exact z
      · rcases List.mem_append.mp hx with hx | hx
        · obtain ⟨d, t, e1, e2, e3⟩ := hko.1 x hx
          exact ⟨d, t, e1, e2, e3.kp k3⟩
        · have e1 : x = (kInl c, .ref p) := by simpa using hx
          exact ⟨c, p, e1, hcU, ht⟩
      · rw [List.map_append, List.nodup_append]
        refine ⟨hko.2, by simp, fun x hx y hy e2 => ?_⟩
        have e3 : y = kInl c := by simpa using hy
        subst e2 e3
        obtain ⟨kv, hkv, e4⟩ := List.mem_map.mp hx
        have e5 := valV_any (kInl c) kvs
        rw [e] at e5
        have e6 := List.any_eq_false.mp e5 kv hkv
        rw [e4] at e6
        simp at e6
end
end Fp
end

section
namespace Fp
open PySem PySem.Spec PyProof.Rows L2
section
variable {X : Cx} {k j : Nat} {C : Addr} {x m : Str} {sp : Sp} {dvs : List V} {p pos apos : Pos}
theorem pe_mk0 (c : C8.Mak X.prog X.w X.K X.mg X.base k x C sp dvs) (hr : Room j X.A) (hk : k + 1 ≤ j) (hg : Gl X x) (hdb : (x == ("__debug__" : Str)) = false := by decide) : PE X (.Call (.Name x p) [] [] pos) (tMake C sp dvs C8.E0 tNil) := by
  obtain ⟨f, fd, ps, ds, M, F, hm, b, d⟩ := c.ex
  exact pe_make0 M F (hr.mono hk) hg hm b d C8.pass0 hdb
end
def rLen (K : PySem.W.Frag) : List V → Hp → VK → Prop := fun xs H Q => ∃ p ys, xs = [.ref p] ∧ (SqL K H p ys ∨ SqT K H p ys) ∧ Q (.int ys.length) H
theorem cr_len {X : Cx} : CallR X (.builtin "len") (rLen X.K) := call_len_seq
section
variable {P : Program} {w : World} {K : PySem.W.Frag} {mg : Str → Option Value} {base : Heap} {A : Ad}
/-! ### Turn, Filed, Code -/
def spTurnI (A : Ad) : Sp := fun vs H Q _ => ∃ (p dx f b : Addr) (wh : Nat), vs = [.ref p, .ref f, .ref b, .int (wh : Int)] ∧ H p = some (.ins A.turn dx []) ∧ wh ≤ 1 ∧ Q .non (upd H p (.ins A.turn dx (turnF f b (wh == 1))))
theorem scTurnI : FnScope ["self", "front", "brought", "whole"] ["self", "front", "brought", "whole"] (C8.fnScope (inClass (top 23) 0)) := ⟨rfl, rfl, rfl, by decide +kernel, rfl, by decide +kernel, by decide +kernel⟩
theorem mak_turn {f : Addr} {fd : FuncData} (T : Tx K mg A) (M : Mk K A.turn f) (hm : mg "Turn" = some (.ref A.turn)) (F : C8.Fun K "__init__" "Turn.__init__" (inClass (top 23) 0) f fd) (b : Binds K fd ["self", "front", "brought", "whole"] []) : C8.Mak P w K mg base 1 "Turn" A.turn (spTurnI A) [] := by
  refine C8.mak0 M hm F b .nil scTurnI (fun vs H Q E h => ?_) (fun cdv B outer s H vs Q E hr h => ?_)
  · obtain ⟨_, _, _, _, _, rfl, _⟩ := h
    rfl
  · obtain ⟨p, dx, f, b, wh, rfl, h1, h2, q⟩ := h
    refine ⟨_, pss_cons (ps_fld (pv 0) (pv 1) rfl) (pss_cons (ps_fld (pv 0) (pv 2) rfl) (pss_one (ps_fld (pv 0) (pv 3) rfl))), ?_⟩
    refine ⟨_, rfl, _, rfl, p, A.turn, dx, _, rfl, h1, T.cTurn, T.nTurn _ (by simp), (by show 0 < 1000; decide), ?_⟩
    rw [put_new (ns := []) rfl (by decide +kernel)]
    refine ⟨_, rfl, _, rfl, p, A.turn, dx, _, rfl, upd_same, T.cTurn, T.nTurn _ (by simp), (by show 1 < 1000; decide), ?_⟩
    rw [upd_upd, put_new (ns := ["front"]) rfl (by decide +kernel)]
    refine ⟨_, rfl, _, rfl, p, A.turn, dx, _, rfl, upd_same, T.cTurn, T.nTurn _ (by simp), (by show 2 < 1000; decide), ?_⟩
    rw [upd_upd, put_new (ns := ["front", "brought"]) rfl (by decide +kernel)]
    have e : b2n (wh == 1) = wh := by
      have : wh = 0 ∨ wh = 1 := by omega
      rcases this with z | z <;> subst z <;> rfl
    unfold turnF at q
    rw [e] at q
    exact q
def spFiledI (A : Ad) : Sp := fun vs H Q _ => ∃ (p dx : Addr), vs = [.ref p] ∧ H p = some (.ins A.filed dx []) ∧ ∀ H' x y z, Bt p H H' → H x = none → H y = none → H z = none → x ≠ y → x ≠ z → y ≠ z → H' p = some (.ins A.filed dx (filedF x y z)) → H' x = some (.lst []) → H' y = some (.lst []) → H' z = some (.lst []) → Q .non H'
theorem scFiledI : FnScope ["self"] ["self"] (C8.fnScope (inClass (top 29) 0)) := ⟨rfl, rfl, rfl, by decide +kernel, rfl, by decide +kernel, by decide +kernel⟩
theorem mak_filed {f : Addr} {fd : FuncData} (T : Tx K mg A) (M : Mk K A.filed f) (hm : mg "Filed" = some (.ref A.filed)) (F : C8.Fun K "__init__" "Filed.__init__" (inClass (top 29) 0) f fd) (b : Binds K fd ["self"] []) : C8.Mak P w K mg base 1 "Filed" A.filed (spFiledI A) [] := by
  refine C8.mak0 M hm F b .nil scFiledI (fun vs H Q E h => ?_) (fun cdv B outer s H vs Q E hr h => ?_)
  · obtain ⟨_, _, rfl, _⟩ := h
    rfl
  · obtain ⟨p, dx, rfl, h1, q⟩ := h
    refine ⟨_, pss_cons (ps_fld (pv 0) (pe_lst pa_nil) rfl) (pss_cons (ps_fld (pv 0) (pe_lst pa_nil) rfl) (pss_one (ps_fld (pv 0) (pe_lst pa_nil) rfl))), ?_⟩
    refine ⟨by decide, fun x nx => ⟨_, rfl, p, A.filed, dx, [], rfl, ?_, T.cFiled, T.nFiled _ (by simp), (by show 0 < 1000; decide), ?_⟩⟩
    · rw [upd_ne (ne_of_none h1 nx)]
      exact h1
    rw [put_new (ns := []) rfl (by decide +kernel)]
    have hpx := ne_of_none h1 nx
    refine ⟨by decide, fun y ny => ?_⟩
    have hpy : p ≠ y := ne_of_none upd_same ny
    have hxy : x ≠ y := ne_of_none (H := upd (upd H x (.lst [])) p (.ins A.filed dx ([] ++ ([("words", V.ref x)] : List (Str × V))))) (Eq.trans (upd_ne hpx.symm) upd_same) ny
    refine ⟨_, rfl, p, A.filed, dx, [("words", .ref x)], rfl, Eq.trans (upd_ne hpy) upd_same, T.cFiled, T.nFiled _ (by simp), (by show 1 < 1000; decide), ?_⟩
    rw [put_new (ns := ["words"]) rfl (by decide +kernel)]
    refine ⟨by decide, fun z nz => ?_⟩
    have hpz : p ≠ z := ne_of_none upd_same nz
    rw [upd_ne (Ne.symm hpz)] at nz
    have hyz : y ≠ z := ne_of_none upd_same nz
    rw [upd_ne (Ne.symm hyz), upd_ne (Ne.symm hpz)] at nz
    have hxz : x ≠ z := ne_of_none upd_same nz
    rw [upd_ne (Ne.symm hxz)] at nz
    rw [upd_ne (Ne.symm hpy), upd_ne (Ne.symm hxy)] at ny
    refine ⟨_, rfl, p, A.filed, dx, [("words", .ref x), ("accents", .ref y)], rfl, Eq.trans (upd_ne hpz) upd_same, T.cFiled, T.nFiled _ (by simp), (by show 2 < 1000; decide), ?_⟩
    rw [put_new (ns := ["words", "accents"]) rfl (by decide +kernel)]
    refine q _ x y z (fun c o hc hcp => ?_) nx ny nz hxy hxz hyz upd_same ?_ ?_ ?_
    · rw [upd_ne hcp, upd_ne (ne_of_none hc nz), upd_ne hcp, upd_ne (ne_of_none hc ny), upd_ne hcp, upd_ne (ne_of_none hc nx)]
      exact hc
    · rw [upd_ne (Ne.symm hpx), upd_ne hxz, upd_ne (Ne.symm hpx), upd_ne hxy, upd_ne (Ne.symm hpx)]
      exact upd_same
    · rw [upd_ne (Ne.symm hpy), upd_ne hyz, upd_ne (Ne.symm hpy)]
      exact upd_same
    · rw [upd_ne (Ne.symm hpz)]
      exact upd_same
end
end Fp
end

section
namespace Fp
open PySem PySem.Spec PyProof.Rows L2
section
variable {P : Program} {w : World} {K : PySem.W.Frag} {mg : Str → Option Value} {base : Heap} {A : Ad}
/-! ### Code -/
def spCodeI (A : Ad) : Sp := fun vs H Q _ => ∃ (p dx : Addr) (way : Nat), vs = [.ref p, .int (way : Int)] ∧ H p = some (.ins A.code dx []) ∧
  ∀ H' (g : Gh) dxb rl sl st ow kd starts, Bt p H H' → H g.sp = none → H g.tn = none → H g.ar = none → g.sp ≠ g.tn → g.sp ≠ g.ar → g.tn ≠ g.ar → (∀ x ∈ [rl, sl, st, ow], x ∉ [g.sp, g.tn, g.ar] ∧ H x = none) →
    H' p = some (.ins A.code dx (codeF way g.sp g.tn g.ar g.b)) → H' g.sp = some (.lst []) → H' g.tn = some (.lst []) → H' g.ar = some (.lst []) → H' g.b = some (.ins A.book dxb (bookF rl sl st ow kd)) →
    H' rl = some (.lst []) → H' sl = some (.lst []) → Fx.Starts [] starts → NL H' st starts → H' ow = some (.lst ((Fx.ownersOf [] starts).map (ownV []))) → H' kd = some (.dK []) → Q .non H'
theorem scCodeI : FnScope ["self", "way"] ["self", "way"] (C8.fnScope (inClass (top 24) 0)) := ⟨rfl, rfl, rfl, by decide +kernel, rfl, by decide +kernel, by decide +kernel⟩
theorem mak_code {f : Addr} {fd : FuncData} (T : Tx K mg A) (M : Mk K A.code f) (hm : mg "Code" = some (.ref A.code)) (F : C8.Fun K "__init__" "Code.__init__" (inClass (top 24) 0) f fd) (b : Binds K fd ["self", "way"] []) (cB : C8.Mak P w K mg base 3 "RuleBook" A.book (spBookI A) []) : C8.Mak P w K mg base 5 "Code" A.code (spCodeI A) [] := by
  refine C8.mak0 M hm F b .nil scCodeI (fun vs H Q E h => ?_) (fun cdv B outer s H vs Q E hr h => ?_)
  · obtain ⟨_, _, _, rfl, _⟩ := h
    rfl
  · obtain ⟨p, dx, way, rfl, h1, q⟩ := h
    refine ⟨_, pss_cons (ps_fld (pv 0) (pv 1) rfl) (pss_cons (ps_fld (pv 0) (pe_lst pa_nil) rfl) (pss_cons (ps_fld (pv 0) (pe_lst pa_nil) rfl) (pss_cons (ps_fld (pv 0) (pe_lst pa_nil) rfl)
      (pss_one (ps_fld (pv 0) (C8.pe_mk cB hr (by decide) rfl (pa_cons (pe_lst pa_nil) (pa_cons (pe_lst pa_nil) pa_nil))) rfl))))), ?_⟩
    refine ⟨_, rfl, _, rfl, p, A.code, dx, [], rfl, h1, T.cCode, T.nCode _ (by simp), (by show 0 < 1000; decide), ?_⟩
    rw [put_new (ns := []) rfl (by decide +kernel)]
    -- a store of a new list at the next field: what stands then
    refine ⟨by decide, fun x nx => ⟨_, rfl, p, A.code, dx, [("way", .int (way : Nat))], rfl, ?_, T.cCode, T.nCode _ (by simp), (by show 1 < 1000; decide), ?_⟩⟩
    · exact Eq.trans (upd_ne (ne_of_none upd_same nx)) upd_same
    rw [put_new (ns := ["way"]) rfl (by decide +kernel)]
    have hpx : p ≠ x := ne_of_none upd_same nx
    rw [upd_ne (Ne.symm hpx)] at nx
    refine ⟨by decide, fun y ny => ⟨_, rfl, p, A.code, dx, [("way", .int (way : Nat)), ("spellings", .ref x)], rfl, ?_, T.cCode, T.nCode _ (by simp), (by show 2 < 1000; decide), ?_⟩⟩
    · exact Eq.trans (upd_ne (ne_of_none upd_same ny)) upd_same
    rw [put_new (ns := ["way", "spellings"]) rfl (by decide +kernel)]
    have hpy : p ≠ y := ne_of_none upd_same ny
    rw [upd_ne (Ne.symm hpy)] at ny
    have hxy : x ≠ y := ne_of_none upd_same ny
    rw [upd_ne (Ne.symm hxy), upd_ne (Ne.symm hpy)] at ny
    refine ⟨by decide, fun z nz => ⟨_, rfl, p, A.code, dx, [("way", .int (way : Nat)), ("spellings", .ref x), ("turns", .ref y)], rfl, ?_, T.cCode, T.nCode _ (by simp), (by show 3 < 1000; decide), ?_⟩⟩
    · exact Eq.trans (upd_ne (ne_of_none upd_same nz)) upd_same
    rw [put_new (ns := ["way", "spellings", "turns"]) rfl (by decide +kernel)]
    have hpz : p ≠ z := ne_of_none upd_same nz
    rw [upd_ne (Ne.symm hpz)] at nz
    have hyz : y ≠ z := ne_of_none upd_same nz
    rw [upd_ne (Ne.symm hyz), upd_ne (Ne.symm hpz)] at nz
    have hxz : x ≠ z := ne_of_none upd_same nz
    rw [upd_ne (Ne.symm hxz), upd_ne (Ne.symm hpz)] at nz
    refine ⟨by decide, fun rl nrl => ⟨by decide, fun sl nsl => fun b dxb nb ndb ne => ?_⟩⟩
    generalize hG : upd (upd (upd (upd (upd (upd (upd H p (.ins A.code dx ([] ++ [(("way" : Str), V.int (way : Nat))]))) x (.lst [])) p (.ins A.code dx (([(("way" : Str), V.int (way : Nat))] : List (Str × V)) ++ [(("spellings" : Str), V.ref x)]))) y (.lst [])) p
      (.ins A.code dx (([(("way" : Str), V.int (way : Nat)), (("spellings" : Str), V.ref x)] : List (Str × V)) ++ [(("turns" : Str), V.ref y)]))) z (.lst [])) p (.ins A.code dx (([(("way" : Str), V.int (way : Nat)), (("spellings" : Str), V.ref x), (("turns" : Str), V.ref y)] : List (Str × V)) ++ [(("articles" : Str), V.ref z)])) = G at *
    have gp : G p = some (.ins A.code dx [("way", .int (way : Nat)), ("spellings", .ref x), ("turns", .ref y), ("articles", .ref z)]) := by rw [← hG]; exact upd_same
    have gx : G x = some (.lst []) := by rw [← hG, upd_ne (Ne.symm hpx), upd_ne hxz, upd_ne (Ne.symm hpx), upd_ne hxy, upd_ne (Ne.symm hpx)]; exact upd_same
    have gy : G y = some (.lst []) := by rw [← hG, upd_ne (Ne.symm hpy), upd_ne hyz, upd_ne (Ne.symm hpy)]; exact upd_same
    have gz : G z = some (.lst []) := by rw [← hG, upd_ne (Ne.symm hpz)]; exact upd_same
    have gB : Bt p H G := fun c o hc hcp => by
      rw [← hG, upd_ne hcp, upd_ne (ne_of_none hc nz), upd_ne hcp, upd_ne (ne_of_none hc ny), upd_ne hcp, upd_ne (ne_of_none hc nx), upd_ne hcp]
      exact hc
    clear hG
    have hrs : rl ≠ sl := ne_of_none upd_same nsl
    have nsl2 : G sl = none := by
      rw [upd_ne (Ne.symm hrs)] at nsl
      exact nsl
    have hrb : rl ≠ b := ne_of_none (H := upd (upd G rl (.lst [])) sl (.lst [])) (Eq.trans (upd_ne hrs) upd_same) nb
    have hsb : sl ≠ b := ne_of_none upd_same nb
    have hrd : rl ≠ dxb := ne_of_none (H := upd (upd G rl (.lst [])) sl (.lst [])) (Eq.trans (upd_ne hrs) upd_same) ndb
    have hsd : sl ≠ dxb := ne_of_none upd_same ndb
    have s0 : Same G (upd (upd (upd (upd G rl (.lst [])) sl (.lst [])) dxb (.own b)) b (.ins A.book dxb [])) := fun c o hc => by
      have c1 := ne_of_none hc nrl
      have c2 := ne_of_none hc nsl2
      have hc2 : (upd (upd G rl (.lst [])) sl (.lst [])) c = some o := by
        rw [upd_ne c2, upd_ne c1]
        exact hc
      rw [upd_ne (ne_of_none hc2 nb), upd_ne (ne_of_none hc2 ndb)]
      exact hc2
    refine ⟨b, dxb, rl, sl, [], [], rfl, upd_same, ?_, trivial, by decide, fun H2 st ow kd starts b2 nst now nkd hb hS hst how hkd => ⟨rfl, ?_⟩⟩
    · show upd _ _ _ _ = _
      rw [upd_ne hrb, upd_ne hrd, upd_ne hrs]
      exact upd_same
    have pb : p ≠ b := by
      intro e
      subst e
      rw [upd_ne (fun e => by subst e; rw [gp] at nsl2; cases nsl2), upd_ne (fun e => by subst e; rw [gp] at nrl; cases nrl), gp] at nb
      cases nb
    have hb2 : ∀ {c : Addr} {o : HO}, G c = some o → H2 c = some o := fun {c o} hc => b2 _ _ (s0 _ _ hc) (fun e => by
      subst e
      rw [upd_ne (ne_of_none hc nsl2), upd_ne (ne_of_none hc nrl), hc] at nb
      cases nb)
    have hrl2 : H2 rl = some (.lst []) := b2 _ _ (by
      rw [upd_ne hrb, upd_ne hrd, upd_ne hrs]
      exact upd_same) hrb
    have hsl2 : H2 sl = some (.lst []) := b2 _ _ (by
      rw [upd_ne hsb, upd_ne hsd]
      exact upd_same) hsb
    refine ⟨_, rfl, p, A.code, dx, [("way", .int (way : Nat)), ("spellings", .ref x), ("turns", .ref y), ("articles", .ref z)], rfl, hb2 gp, T.cCode, T.nCode _ (by simp), (by show 4 < 1000; decide), ?_⟩
    rw [put_new (ns := ["way", "spellings", "turns", "articles"]) rfl (by decide +kernel)]
    have np : ∀ {c : Addr} {o o' : HO}, H2 c = some o → (∀ C dx fs, o ≠ .ins C dx fs) → (upd H2 p o') c = some o := fun {c o o'} hc hn => by
      rw [upd_ne (fun e => by subst e; rw [hb2 gp] at hc; cases hc; exact hn _ _ _ rfl)]
      exact hc
    have ni : ∀ {xs : List V} (C dx fs), HO.lst xs ≠ .ins C dx fs := fun _ _ _ => nofun
    have nst2 : G st = none := s0.free nst
    have now2 : G ow = none := s0.free now
    refine q _ ⟨x, y, z, b⟩ dxb rl sl st ow kd starts (fun c o hc hcp => ?_) nx ny nz hxy hxz hyz (fun u hu => ?_) upd_same (np (hb2 gx) ni) (np (hb2 gy) ni) (np (hb2 gz) ni) ?_ (np hrl2 ni) (np hsl2 ni) hS (np hst ni) (np how ni) (np hkd nofun)
    · rw [upd_ne hcp]
      exact hb2 (gB _ _ hc hcp)
    · have hu2 : G u = none := by
        simp only [List.mem_cons, List.not_mem_nil, or_false] at hu
        rcases hu with e | e | e | e <;> subst e <;> assumption
      refine ⟨?_, ?_⟩
      case refine_2 =>
        cases e : H u with
        | none => rfl
        | some o =>
          have hup : u ≠ p := fun e2 => by
            subst e2
            rw [gp] at hu2
            cases hu2
          rw [gB _ _ e hup] at hu2
          cases hu2
      intro hm
      simp only [List.mem_cons, List.not_mem_nil, or_false] at hm
      rcases hm with e | e | e <;> subst e
      · rw [gx] at hu2; cases hu2
      · rw [gy] at hu2; cases hu2
      · rw [gz] at hu2; cases hu2
    · show upd H2 p _ b = _
      rw [upd_ne (Ne.symm pb)]
      exact hb
end
end Fp
end

section
namespace Fp
open PySem PySem.Spec PyProof.Rows L2
theorem parted_len (g : Nat → Bool) : ∀ t : Ih.Text, (Ih.parted g t).length ≤ t.length + 1
  | [] => by simp [Ih.parted]
  | c :: r => by
    have ih := parted_len g r
    unfold Ih.parted
    split
    · simp only [List.length_cons]; omega
    · split
      · simp
      · rename_i w l e
        rw [e] at ih
        simp only [List.length_cons] at ih ⊢
        omega
theorem parted_mem (g : Nat → Bool) : ∀ (t : Ih.Text), ∀ w ∈ Ih.parted g t, w.length ≤ t.length ∧ ∀ c ∈ w, c ∈ t
  | [], w, h => by
    simp [Ih.parted] at h
    subst h
    exact ⟨Nat.le_refl _, fun c hc => by cases hc⟩
  | c :: r, w, h => by
    have ih := parted_mem g r
    unfold Ih.parted at h
    split at h
    · rcases List.mem_cons.mp h with rfl | h
      · exact ⟨Nat.zero_le _, fun c hc => by cases hc⟩
      · have := ih w h
        exact ⟨by rw [List.length_cons]; omega, fun d hd => List.mem_cons_of_mem _ (this.2 d hd)⟩
    · split at h
      · have e : w = [c] := by simpa using h
        subst e
        exact ⟨by simp, fun d hd => by simp at hd; subst hd; exact List.mem_cons_self⟩
      · rename_i w0 l e
        rw [e] at ih
        rcases List.mem_cons.mp h with rfl | h
        · have := ih w0 List.mem_cons_self
          refine ⟨by simp only [List.length_cons]; omega, fun d hd => ?_⟩
          rcases List.mem_cons.mp hd with rfl | hd
          · exact List.mem_cons_self
          · exact List.mem_cons_of_mem _ (this.2 d hd)
        · have := ih w (List.mem_cons_of_mem _ h)
          exact ⟨by rw [List.length_cons]; omega, fun d hd => List.mem_cons_of_mem _ (this.2 d hd)⟩
theorem All2.mono2 {α β : Type} {P Q : α → β → Prop} : ∀ {l : List α} {m : List β}, All2 P l m → (∀ a ∈ l, ∀ b, P a b → Q a b) → All2 Q l m
  | [], [], _, _ => trivial
  | a :: l, b :: m, h, f => ⟨f a List.mem_cons_self b h.1, All2.mono2 h.2 fun a ha => f a (List.mem_cons_of_mem _ ha)⟩
  | [], _ :: _, h, _ => h.elim
  | _ :: _, [], h, _ => h.elim
theorem last_of {α : Type} : ∀ {l : List α}, l ≠ [] → ∃ m x, l = m ++ [x] := fun {l} h => ⟨l.dropLast, l.getLast h, (List.dropLast_concat_getLast h).symm⟩
theorem All2.last {α β : Type} {P : α → β → Prop} {l : List α} {m : List β} {a : α} {b : β} (h : All2 P (l ++ [a]) (m ++ [b])) : All2 P l m ∧ P a b := by
  have hl := h.len
  rw [List.length_append, List.length_append] at hl
  have h2 := h.take l.length
  rw [List.take_left] at h2
  have e : l.length = m.length := by simpa using hl
  rw [e, List.take_left] at h2
  obtain ⟨b', hb', hp⟩ := h.at1 (i := l.length) (a := a) (by simp)
  rw [e] at hb'
  have : b' = b := by simpa using hb'.symm
  subst this
  exact ⟨h2, hp⟩
def full (w : List Nat) : Bool := w != []
section
variable {P : Program} {w : World} {K : PySem.W.Frag} {mg : Str → Option Value} {base : Heap} {A : Ad}
def ttLen (K : PySem.W.Frag) (i : Nat) : TT := tTest (tOp (rI0 fun i j => V.bl (decide (i > j))) (tCB (rLen K) (tCons (tVar i) tNil)) (tC (.int 0)))
/-! ### words_of -/
def spWordsOf (A : Ad) : Sp := fun vs H Q _ => ∃ (b kd t : Addr) (rules : List Ih.Rule) (spells : List Ih.Text) (text : List Nat), vs = [.ref b, .ref t] ∧ BookS A H b kd rules spells ∧ NL H t text ∧ text.length ≤ 256 ∧
  ∀ H' p, Same H H' → H p = none → LL NL H' p ((Ih.parted (gapB rules) text).filter full) → Q (.ref p) H'
theorem scWordsOf : FnScope ["book", "text", "words", "character", "word"] ["book", "text"] (C8.fnScope (top 31)) := ⟨rfl, rfl, rfl, by decide +kernel, rfl, by decide +kernel, by decide +kernel⟩
theorem cal_wordsof {f : Addr} {fd : FuncData} (T : Tx K mg A) (D : C8.Def K mg "words_of" (top 31) f fd) (b : Binds K fd ["book", "text"] []) (cG : C8.Met P w K mg base 2 A.book "is_gap" (spIsGap A) []) : C8.Cal P w K mg base 3 "words_of" (spWordsOf A) [] := by
  refine C8.cal0 D b .nil scWordsOf (fun vs H Q E h => ?_) (fun cdv B outer s H vs Q E hr h => ?_)
  · obtain ⟨_, _, _, _, _, _, rfl, _⟩ := h
    rfl
  · obtain ⟨b, kd, t, rules, spells, text, rfl, hb, ht, htl, q⟩ := h
    have nd := scWordsOf.nd
    refine ⟨_, pss_cons (ps_set (i := 2) nd rfl (.inl rfl) (pe_lst (pa_cons (pe_lst pa_nil) pa_nil)))
      (pss_cons (ps_for PassesOwn.never rfl (pi_list (pv 1)) (pg_name (i := 3) nd rfl (.inl rfl))
        (pss_one (ps_if (pt_val (C8.pe_mt cG hr (by decide) (pv 0) (pa_cons (pv 3) pa_nil)))
          (pss_one (ps_expr (pe_bm PySem.F.plainAttrs_list PySem.F.slot_list_append PySem.F.type_list_append mt_append (pv 2) (pa_cons (pe_lst pa_nil) pa_nil))))
          (pss_one (ps_expr (pe_bm PySem.F.plainAttrs_list PySem.F.slot_list_append PySem.F.type_list_append mt_append (pe_ix ix_list (pv 2) (pe_un un_neg pe_int) (fun _ _ => rfl)) (pa_cons (pv 3) pa_nil)))))))
      (pss_one (ps_ret (pe_lc (own := [("word", 4)]) (g := gName 4) (tt := ttLen K 4) rfl nd (pi_list (pv 2))
        (blkOk_by (own := [("word", 4)]) (N := ["book", "text", "words", "character", "word"]) (sc := C8.fnScope (top 31)) (by decide +kernel)) (fun _ _ _ _ _ => pg_name (i := 4) nd rfl (Or.inl rfl))
        (fun _ _ _ _ _ => pts_one (pt_cmpR op_gt (pe_callB cr_len (by rfl) T.len PySem.boot_len (pa_cons (pv 4) pa_nil)) pe_int (nomark _))) (fun _ _ _ _ _ => pv 4))))), ?_⟩
    obtain ⟨dx, rl, sl, st, ow, rs, starts, h1, _⟩ := id hb
    have noB : List.lookup ("is_gap" : Str) (bookF rl sl st ow kd) = none := lk_not (ns := ["rules", "spellings", "starts", "owners", "known"]) rfl (by decide +kernel)
    refine ⟨by decide, fun e0 ne0 => ⟨(by show 1 ≤ sizeLine; decide), fun W nW => ?_⟩⟩
    have hW0 : e0 ≠ W := ne_of_none upd_same nW
    rw [upd_ne (Ne.symm hW0)] at nW
    refine ⟨_, rfl, t, rfl, ⟨_, .of (xs := vi text) ?_⟩, for_list (K := K) (a := t) (xs := vi text) (fun i σ H' => ∃ (v3 v4 : Option V) (ws : List Addr), σ = [some (.ref b), some (.ref t), some (.ref W), v3, v4] ∧ Same H H' ∧ H' W = some (.lst (refs ws)) ∧
      All2 (NL H') ws (Ih.parted (gapB rules) (text.take i)) ∧ ws.Nodup ∧ W ∉ ws ∧ (∀ a ∈ ws, H a = none)) ?_ ?_ ?_ ?_⟩
    · have hx : NL H t text := ht
      have e1 : e0 ≠ t := fun e => by subst e; have hx : H e0 = some _ := ht; rw [ne0] at hx; cases hx
      have e2 : W ≠ t := fun e => by subst e; have hx : H W = some _ := ht; rw [nW] at hx; cases hx
      show upd _ _ _ _ = _
      rw [upd_ne (Ne.symm e2), upd_ne (Ne.symm e1)]
      exact hx
    · refine ⟨none, none, [e0], rfl, fun a o ha => ?_, upd_same, ⟨?_, trivial⟩, by simp, by simp; exact Ne.symm hW0, fun a ha => ?_⟩
      · rw [upd_ne (ne_of_none ha nW), upd_ne (ne_of_none ha ne0)]
        exact ha
      · show upd _ _ _ _ = _
        rw [upd_ne hW0]
        exact upd_same
      · have : a = e0 := by simpa using ha
        subst this
        exact ne0
    · rintro i σ H' _ ⟨v3, v4, ws, rfl, hs, _⟩
      exact .of (hs _ _ ht)
    · rintro i x σ H' hx ⟨v3, v4, ws, rfl, hs, hW, hA, hn, hWn, hf⟩
      obtain ⟨c, hc, rfl⟩ := vi_of hx
      have hil : i < text.length := (List.getElem?_eq_some_iff.mp hc).1
      have etk : text.take (i + 1) = text.take i ++ [c] := by rw [List.take_add_one, hc]; rfl
      have hwl : ws.length ≤ 257 := by
        have := parted_len (gapB rules) (text.take i)
        rw [hA.len]
        rw [List.length_take] at this
        omega
      refine ⟨_, rfl, b, dx, _, rfl, hs _ _ h1, noB, _, rfl, b, kd, c, rules, spells, rfl, hb.kp (.of hs), ?_⟩
      refine ⟨_, rfl, ite2 (fun hg => ?_) (fun hg => ?_)⟩
      · refine ⟨_, rfl, .inl ⟨rfl, _, .of hW⟩, by decide, fun n nn => ⟨W, refs ws, _, rfl, rfl, ?_, ?_, ?_⟩⟩
        · exact Same.new nn _ _ hW
        · rw [refs_len]; exact line_lt (by omega)
        · have hnW : W ≠ n := ne_of_none hW nn
          have hnn : ∀ a ∈ ws, a ≠ n := fun a ha => by
            obtain ⟨j, hj⟩ := List.getElem?_of_mem ha
            obtain ⟨u, _, hu⟩ := hA.at1 hj
            exact ne_of_none hu nn
          refine ⟨_, _, ws ++ [n], rfl, fun a o ha => ?_, ?_, ?_, ?_, ?_, ?_⟩
          · rw [upd_ne (ne_of_none ha nW), upd_ne (ne_of_none (hs _ _ ha) nn)]
            exact hs _ _ ha
          · rw [refs_app]
            exact upd_same
          · rw [etk, Fx.parted_snoc, Fx.pushW, if_pos hg]
            refine (hA.mono2 fun a ha l hl => ?_).app ⟨?_, trivial⟩
            · show upd _ _ _ _ = _
              rw [upd_ne (fun e => hWn (by rw [← e]; exact ha)), upd_ne (hnn a ha)]
              exact hl
            · show upd _ _ _ _ = _
              rw [upd_ne (Ne.symm hnW)]
              exact upd_same
          · rw [List.nodup_append]
            exact ⟨hn, by simp, fun a ha b hb => by have : b = n := by simpa using hb
                                                    subst this
                                                    exact hnn a ha⟩
          · simp only [List.mem_append, List.mem_singleton, not_or]
            exact ⟨hWn, hnW⟩
          · intro a ha
            rcases List.mem_append.mp ha with ha | ha
            · exact hf a ha
            · have : a = n := by simpa using ha
              subst this
              exact hs.free nn
      · have hpne := Fx.parted_ne (gapB rules) (text.take i)
        have hwne : ws ≠ [] := fun e => by
          subst e
          have := hA.len
          exact hpne (List.length_eq_zero_iff.mp this.symm)
        obtain ⟨ws', wl, rfl⟩ := last_of hwne
        obtain ⟨ms, m, hm⟩ := last_of hpne
        rw [hm] at hA
        obtain ⟨hA1, hwl1⟩ := hA.last
        have hml : m.length ≤ 256 := by
          have := (parted_mem (gapB rules) (text.take i) m (by rw [hm]; simp)).1
          rw [List.length_take] at this
          omega
        have hix : atI (refs (ws' ++ [wl])) (-1) = some (.ref wl) := by rw [refs_app]; exact atI_last _ _
        have hWl : W ≠ wl := fun e => hWn (by rw [e]; simp)
        have hnd2 := List.nodup_append.mp hn
        refine ⟨_, rfl, _, rfl, W, _, _, _, rfl, rfl, .of hW, hix, .inl ⟨rfl, _, .of hwl1⟩, _, rfl, wl, vi m, _, rfl, rfl, hwl1, ?_, ?_⟩
        · rw [vi_len]; exact line_lt (by omega)
        · refine ⟨_, _, ws' ++ [wl], rfl, fun a o ha => ?_, ?_, ?_, hn, hWn, hf⟩
          · rw [upd_ne (ne_of_none ha (hf wl (by simp)))]
            exact hs _ _ ha
          · rw [upd_ne hWl]
            exact hW
          · rw [etk, Fx.parted_snoc, hm, Fx.pushW, if_neg hg, List.dropLast_concat, List.getLast?_concat]
            refine (hA1.mono2 fun a ha l hl => ?_).app ⟨?_, trivial⟩
            · show upd _ _ _ _ = _
              rw [upd_ne (hnd2.2.2 a ha wl (by simp))]
              exact hl
            · show upd _ _ _ _ = _
              rw [upd_same]
              show _ = some (HO.lst (vi (m ++ [c])))
              rw [vi_app]
              rfl
    · rintro σ H1 ⟨v3, v4, ws, rfl, hs, hW, hA, hn, hWn, hf⟩
      rw [vi_len, List.take_length] at hA
      have hwl : ws.length ≤ 257 := by
        have := parted_len (gapB rules) text
        rw [hA.len]
        omega
      generalize Ih.parted (gapB rules) text = ms at hA q
      refine ⟨_, rfl, W, rfl, ⟨_, .of hW⟩, fun L nL => lc_list (K := K) (a := W) (xs := refs ws) (fun i H' => Same H1 H' ∧ ∃ as, H' L = some (.lst (refs as)) ∧ All2 (NL H') as ((ms.take i).filter full) ∧ as.length ≤ i) ⟨Same.new nL, [], upd_same, trivial, Nat.le_refl _⟩ (fun i H' _ z => .of (z.1 _ _ hW)) ?_ ?_⟩
      · rintro i x H' hx ⟨hs2, as, hL, hB, hal⟩
        obtain ⟨a, ha, rfl⟩ := refs_of hx
        obtain ⟨m, hm, hma⟩ := hA.at1 ha
        have hil : i < ws.length := (List.getElem?_eq_some_iff.mp ha).1
        have etk : ms.take (i + 1) = ms.take i ++ [m] := by rw [List.take_add_one, hm]; rfl
        have hma2 : NL H' a m := hs2 _ _ hma
        refine ⟨rfl, _, rfl, a, _, rfl, .inl (.of hma2), _, _, rfl, rfl, _, rfl, ite2 (fun h0 => ?_) (fun h0 => ?_)⟩
        · have h0' : full m = true := by
            have : (0 : Int) < (vi m).length := by simpa using h0
            rw [vi_len] at this
            cases m with
            | nil => simp at this
            | cons y l => rfl
          refine ⟨_, rfl, refs as, hL, ?_, fun c o hc => ?_, as ++ [a], by rw [refs_app]; exact upd_same, ?_, ?_⟩
          · rw [refs_len]; exact line_lt (by omega)
          · rw [upd_ne (ne_of_none hc nL)]
            exact hs2 _ _ hc
          · rw [etk, List.filter_append, List.filter_cons, if_pos h0', List.filter_nil]
            have hka : ∀ (u : Addr) (l : List Nat), u ≠ L → NL H' u l → NL (upd H' L (.lst (refs as ++ [.ref a]))) u l := fun u l hu hl => by
              show upd _ _ _ _ = _
              rw [upd_ne hu]
              exact hl
            refine (hB.mono2 fun u hu l hl => ?_).app ⟨hka _ _ (ne_of_none hma nL) hma2, trivial⟩
            refine hka _ _ (fun e => ?_) hl
            subst e
            obtain ⟨j, hj⟩ := List.getElem?_of_mem hu
            have hl2 : H' u = some (.lst (vi l)) := hl
            rw [hL] at hl2
            have : refs as = vi l := by injection (Option.some.inj hl2)
            have hjr := refs_at' hj
            rw [this] at hjr
            obtain ⟨_, _, e3⟩ := vi_of hjr
            cases e3
          · rw [List.length_append]
            simp
            omega
        · have h0' : full m = false := by
            have : ¬ (0 : Int) < (vi m).length := by simpa using h0
            rw [vi_len] at this
            cases m with
            | nil => rfl
            | cons y l => simp at this
          refine ⟨hs2, as, hL, ?_, by omega⟩
          rw [etk, List.filter_append, List.filter_cons, if_neg (by rw [h0']; decide), List.filter_nil, List.append_nil]
          exact hB
      · rintro H' ⟨hs2, as, hL, hB, _⟩
        rw [refs_len, hA.len, List.take_length] at hB
        exact q _ L (fun a o ha => hs2 _ _ (hs _ _ ha)) (hs.free nL) ⟨as, hL, hB⟩
end
end Fp
end

section
namespace Fp
open PySem PySem.Spec PyProof.Rows L2
theorem cut_from {l : List V} {i : Nat} : cutV l (some (i : Int)) none = l.drop i := by
  unfold cutV
  rw [HT.sIx_nat]
  show (l.drop (min i l.length)).take (l.length - min i l.length) = _
  by_cases h : i ≤ l.length
  · rw [Nat.min_eq_left h, List.take_of_length_le (by rw [List.length_drop]; exact Nat.le_refl _)]
  · rw [Nat.min_eq_right (by omega), List.drop_eq_nil_of_le (Nat.le_refl _), List.drop_eq_nil_of_le (show l.length ≤ i by omega)]
    simp
theorem cut_to {l : List V} {i : Nat} : cutV l none (some (i : Int)) = l.take i := by
  unfold cutV
  rw [HT.sIx_nat]
  show (l.drop 0).take (min i l.length - 0) = _
  rw [List.drop_zero, Nat.sub_zero]
  by_cases h : i ≤ l.length
  · rw [Nat.min_eq_left h]
  · rw [Nat.min_eq_right (by omega), List.take_length, List.take_of_length_le (by omega)]
theorem vi_take (l : List Nat) (n : Nat) : (vi l).take n = vi (l.take n) := by
  unfold vi
  rw [List.map_take]
theorem vi_drop (l : List Nat) (n : Nat) : (vi l).drop n = vi (l.drop n) := by
  unfold vi
  rw [List.map_drop]
theorem refs_drop (l : List Addr) (n : Nat) : (refs l).drop n = refs (l.drop n) := by
  unfold refs
  rw [List.map_drop]
theorem refs_take (l : List Addr) (n : Nat) : (refs l).take n = refs (l.take n) := by
  unfold refs
  rw [List.map_take]
/-! ### the parts of a heap that stay -/
def Ct (M : List Addr) (H : Hp) : Hp := fun a => if a ∈ M then none else H a
theorem Ct.out {M : List Addr} {H : Hp} {a : Addr} (h : a ∉ M) : Ct M H a = H a := if_neg h
theorem Ct.get {M : List Addr} {H : Hp} {a : Addr} {o : HO} (h : Ct M H a = some o) : a ∉ M ∧ H a = some o := by
  unfold Ct at h
  split at h
  · cases h
  · exact ⟨by assumption, h⟩
theorem Ct.sub (M : List Addr) (H : Hp) : Same (Ct M H) H := fun a o h => (Ct.get h).2
theorem Ct.upd {M : List Addr} {H : Hp} {D : Addr} {o : HO} (h : D ∈ M) : Ct M (L2.upd H D o) = Ct M H := by
  funext a
  unfold Ct
  split
  · rfl
  · rw [upd_ne (fun e => by subst e; contradiction)]
theorem Ct.same {M : List Addr} {H H' : Hp} (h : Same (Ct M H) H') : Same (Ct M H) (Ct M H') := fun a o e => by
  rw [Ct.out (Ct.get e).1]
  exact h _ _ e
theorem Ct.kp {M : List Addr} {H H' : Hp} (h : Kp H H') : Kp (Ct M H) (Ct M H') := fun a o e n => by
  rw [Ct.out (Ct.get e).1]
  exact h _ _ (Ct.get e).2 n
theorem Ct.mono {M : List Addr} {H H' : Hp} (h : Same H H') : Same (Ct M H) (Ct M H') := fun a o e => by
  rw [Ct.out (Ct.get e).1]
  exact h _ _ (Ct.get e).2
def woArt (arts ms : List Ih.Text) : List Ih.Text := match ms with
  | w :: v :: r => if arts.contains w = true then v :: r else w :: v :: r
  | l => l
theorem words_eq (k : Ih.Code) (t : Ih.Text) : k.words t = woArt k.articles ((Ih.parted (gapB k.rules) t).filter full) := by
  have e : (Ih.parted (gapB k.rules) t).filter full = (Ih.parted k.gap t).filter fun (w : Ih.Text) => w != [] := rfl
  rw [e]
  unfold Ih.Code.words woArt
  generalize List.filter (fun (w : Ih.Text) => w != []) (Ih.parted k.gap t) = l
  match l with
  | [] => rfl
  | [_] => rfl
  | _ :: _ :: _ => rfl
theorem u65 {k : Nat} {A : Around} (hr : Room k A) : A.units + 65 < cLine := by
  have := hr.un
  omega
def turnedB (turns : List Ih.Turn) (w : Ih.Text) : Ih.Text := match turns.find? fun (x : Ih.Turn) => if x.whole = true then w == x.f else x.f.isPrefixOf w with
  | some x => x.t ++ w.drop x.f.length
  | none => w
theorem turned_eq (k : Ih.Code) (w : Ih.Text) : k.turned w = turnedB k.turns w := rfl
theorem take_eq_prefix : ∀ (f m : List Nat), (decide (m.take f.length = f)) = f.isPrefixOf m
  | [], m => by simp
  | a :: f, [] => by simp
  | a :: f, b :: m => by
    have ih := take_eq_prefix f m
    rw [List.length_cons, List.take_succ_cons, List.isPrefixOf_cons₂, ← ih]
    by_cases h : a = b
    · subst h
      simp
    · have h2 : ¬ b = a := fun z => h z.symm
      simp [h, h2]
section
variable {P : Program} {w : World} {K : PySem.W.Frag} {mg : Str → Option Value} {base : Heap} {A : Ad}
/-! ### without_article -/
def spArt : Sp := fun vs H Q _ => ∃ (ar ws : Addr) (arts ms : List Ih.Text), vs = [.ref ar, .ref ws] ∧ LL NL H ar arts ∧ LL NL H ws ms ∧ ∀ H' p, Same H H' → (p = ws ∨ H p = none) → LL NL H' p (woArt arts ms) → Q (.ref p) H'
theorem scArt : FnScope ["articles", "words"] ["articles", "words"] (C8.fnScope (top 32)) := ⟨rfl, rfl, rfl, by decide +kernel, rfl, by decide +kernel, by decide +kernel⟩
theorem cal_art {f : Addr} {fd : FuncData} (T : Tx K mg A) (D : C8.Def K mg "without_article" (top 32) f fd) (b : Binds K fd ["articles", "words"] []) : C8.Cal P w K mg base 1 "without_article" (spArt) [] := by
  refine C8.cal0 D b .nil scArt (fun vs H Q E h => ?_) (fun cdv B outer s H vs Q E hr h => ?_)
  · obtain ⟨_, _, _, _, rfl, _⟩ := h
    rfl
  · obtain ⟨ar, ws, arts, ms, rfl, h1, ⟨as, h2, h3⟩, q⟩ := h
    refine ⟨_, pss_cons (ps_if (PW.pt (pw_and (pt_cmpR op_gt (pe_callB cr_len (by rfl) T.len PySem.boot_len (pa_cons (pv 1) pa_nil)) pe_int (nomark _)) (pw_and1 (pt_cmpR (op_inD (u65 hr)) (pe_ix ix_list (pv 1) pe_int (fun _ _ => rfl)) (pv 0) (by rfl)))))
      (pss_one (ps_ret (pe_slice sl_list (pv 1) (po_some pe_int) po_none))) pss_nil) (pss_one (ps_ret (pv 1))), ?_⟩
    have hl := h3.len
    refine ⟨_, rfl, ws, _, rfl, .inl (.of h2), _, _, rfl, rfl, _, rfl, ite2 (fun h0 => ?_) (fun h0 => ?_)⟩
    · have h0' : 1 < ms.length := by
        have : (1 : Int) < (refs as).length := by simpa using h0
        rw [refs_len, hl] at this
        omega
      obtain ⟨w0, v0, r0, rfl⟩ : ∃ w0 v0 r0, ms = w0 :: v0 :: r0 := by
        match ms, h0' with
        | w0 :: v0 :: r0, _ => exact ⟨w0, v0, r0, rfl⟩
      obtain ⟨a0, ha0, hw0⟩ := h3.at2 (i := 0) (b := w0) rfl
      refine ⟨_, rfl, ws, _, 0, _, rfl, rfl, .of h2, atI_nat (refs_at' ha0), _, rfl, _, _, hw0.dp, h1.dp (fun a b h => NL.dp h), Fx.shaped_nats w0, Fx.shaped_texts arts, _, rfl, ?_⟩
      have e : ((arts.map Fx.natsD).any fun z => PyData.eqv z (Fx.natsD w0)) = arts.contains w0 := by
        rw [List.any_map]
        rw [Bool.eq_iff_iff, List.any_eq_true, List.contains_iff_mem]
        constructor
        · rintro ⟨x, hx, e⟩
          have e2 : decide (x = w0) = true := by rw [← Fx.eqv_nats]; exact e
          have : x = w0 := by simpa using e2
          subst this
          exact hx
        · intro hx
          refine ⟨w0, hx, ?_⟩
          show PyData.eqv (Fx.natsD w0) (Fx.natsD w0) = true
          rw [Fx.eqv_nats]
          simp
      refine ite2 (fun hc => ?_) (fun hc => ?_)
      · rw [e] at hc
        refine ⟨_, rfl, _, rfl, ws, _, rfl, .of h2, fun p np => q _ p (Same.new np) (.inr np) ⟨as.drop 1, ?_, ?_⟩⟩
        · rw [upd_same]
          show some (HO.lst (cutV (refs as) (some ((1 : Nat) : Int)) none)) = _
          rw [cut_from, refs_drop]
        · show All2 _ _ (woArt arts (w0 :: v0 :: r0))
          unfold woArt
          simp only [hc, if_true]
          exact (h3.drop 1).mono (nl_kp (.of (Same.new np)))
      · rw [e] at hc
        refine ⟨_, rfl, q _ ws (fun _ _ z => z) (.inl rfl) ⟨as, h2, ?_⟩⟩
        unfold woArt
        simp only [hc]
        exact h3
    · have h0' : ms.length ≤ 1 := by
        have : ¬ (1 : Int) < (refs as).length := by simpa using h0
        rw [refs_len, hl] at this
        omega
      refine ⟨_, rfl, q _ ws (fun _ _ z => z) (.inl rfl) ⟨as, h2, ?_⟩⟩
      unfold woArt
      match ms, h0', h3 with
      | [], _, h3 => exact h3
      | [x], _, h3 => exact h3
/-! ### fits -/
def fitB (t : Ih.Turn) (m : Ih.Text) : Bool := if t.whole = true then m == t.f else t.f.isPrefixOf m
def spFits (A : Ad) : Sp := fun vs H Q _ => ∃ (a wd : Addr) (t : Ih.Turn) (m : Ih.Text), vs = [.ref a, .ref wd] ∧ TurnAt A H a t ∧ NL H wd m ∧ ∀ H', Same H H' → Q (.bl (fitB t m)) H'
theorem scFits : FnScope ["turn", "word"] ["turn", "word"] (C8.fnScope (top 34)) := ⟨rfl, rfl, rfl, by decide +kernel, rfl, by decide +kernel, by decide +kernel⟩
theorem cal_fits {f : Addr} {fd : FuncData} (T : Tx K mg A) (D : C8.Def K mg "fits" (top 34) f fd) (b : Binds K fd ["turn", "word"] []) : C8.Cal P w K mg base 1 "fits" (spFits A) [] := by
  refine C8.cal0 D b .nil scFits (fun vs H Q E h => ?_) (fun cdv B outer s H vs Q E hr h => ?_)
  · obtain ⟨_, _, _, _, rfl, _⟩ := h
    rfl
  · obtain ⟨a, wd, t, m, rfl, ⟨dx, fa, ba, h1, h2, h3⟩, h4, q⟩ := h
    refine ⟨_, pss_cons (ps_if (pt_cmpR op_eq (pe_fld (pv 0) rfl) pe_int (nomark _)) (pss_one (ps_ret (pe_cmpR (op_eqD hr.units) (pv 1) (pe_fld (pv 0) rfl) (nomark _)))) pss_nil)
      (pss_one (ps_ret (pe_cmpR (op_eqD hr.units) (pe_slice sl_list (pv 1) po_none (po_some (pe_callB cr_len (by rfl) T.len PySem.boot_len (pa_cons (pe_fld (pv 0) rfl) pa_nil)))) (pe_fld (pv 0) rfl) (nomark _)))), ?_⟩
    refine ⟨_, rfl, rd_turn T h1 2 ⟨rfl, _, rfl, ?_⟩⟩
    have ew : decide (V.int ((b2n t.whole : Nat) : Int) = V.int ((1 : Nat) : Int)) = t.whole := by
      rw [dec_nn]
      unfold b2n
      cases t.whole <;> rfl
    have ew2 : decide (V.int ((b2n t.whole : Nat) : Int) = V.int 1) = t.whole := ew
    rw [ew2]
    unfold fitB at q
    cases e : t.whole with
    | true =>
      rw [e] at q
      refine iteT ⟨_, rfl, _, rfl, rd_turn T h1 0 ⟨_, _, h4.dp, h2.dp, Fx.shaped_nats _, Fx.shaped_nats _, ?_⟩⟩
      have e2 : PyData.eqv (Fx.natsD m) (Fx.natsD t.f) = (m == t.f) := by
        rw [Fx.eqv_nats]
        by_cases z : m = t.f
        · simp [z]
        · simp [z]
      rw [e2]
      exact q _ (fun _ _ z => z)
    | false =>
      rw [e] at q
      refine iteF ⟨_, rfl, _, rfl, rd_turn T h1 0 ⟨fa, _, rfl, .inl (.of h2), ?_⟩⟩
      refine ⟨_, rfl, wd, _, rfl, .of h4, fun p np => ?_⟩
      have s1 : ∀ o, Same H (upd H p o) := fun o => Same.new np
      refine ⟨_, rfl, rd_turn T (s1 _ _ _ h1) 0 ⟨Fx.natsD (m.take t.f.length), _, ?_, (NL.kp (.of (s1 _)) h2).dp, Fx.shaped_nats _, Fx.shaped_nats _, ?_⟩⟩
      · have hp : (upd H p (.lst (cutV (vi m) none (some ((vi t.f).length : Int))))) p = some (.lst (vi (m.take t.f.length))) := by
          rw [upd_same, vi_len, cut_to, vi_take]
        exact NL.dp hp
      · rw [Fx.eqv_nats, take_eq_prefix]
        exact q _ (s1 _)
/-! ### turned -/
def spTurned (A : Ad) : Sp := fun vs H Q _ => ∃ (ts wd : Addr) (turns : List Ih.Turn) (m : Ih.Text), vs = [.ref ts, .ref wd] ∧ LL (TurnAt A) H ts turns ∧ NL H wd m ∧ m.length ≤ 100000 ∧ (∀ t ∈ turns, t.t.length ≤ 12) ∧ ∀ H' p, Same H H' → NL H' p (turnedB turns m) → Q (.ref p) H'
theorem scTurned : FnScope ["turns", "word", "turn"] ["turns", "word"] (C8.fnScope (top 33)) := ⟨rfl, rfl, rfl, by decide +kernel, rfl, by decide +kernel, by decide +kernel⟩
theorem cal_turned {f : Addr} {fd : FuncData} (T : Tx K mg A) (D : C8.Def K mg "turned" (top 33) f fd) (b : Binds K fd ["turns", "word"] []) (cF : C8.Cal P w K mg base 1 "fits" (spFits A) []) : C8.Cal P w K mg base 2 "turned" (spTurned A) [] := by
  refine C8.cal0 D b .nil scTurned (fun vs H Q E h => ?_) (fun cdv B outer s H vs Q E hr h => ?_)
  · obtain ⟨_, _, _, _, rfl, _⟩ := h
    rfl
  · obtain ⟨ts, wd, turns, m, rfl, ⟨as, h1, h2⟩, h3, hm, h12, q⟩ := h
    have nd := scTurned.nd
    refine ⟨_, pss_cons (ps_for PassesOwn.never rfl (pi_list (pv 0)) (pg_name (i := 2) nd rfl (.inl rfl))
      (pss_one (ps_if (pt_val (C8.pe_c cF hr (by decide) rfl (pa_cons (pv 2) (pa_cons (pv 1) pa_nil)))) (pss_one (ps_ret (pe_op op_cat (pe_fld (pv 2) rfl) (pe_slice sl_list (pv 1) (po_some (pe_callB cr_len (by rfl) T.len PySem.boot_len (pa_cons (pe_fld (pv 2) rfl) pa_nil))) po_none)))) pss_nil)))
      (pss_one (ps_ret (pv 1))), ?_⟩
    refine ⟨_, rfl, ts, rfl, ⟨_, .of h1⟩, for_list (K := K) (a := ts) (xs := refs as) (fun i σ H' => ∃ (v : Option V), σ = [some (.ref ts), some (.ref wd), v] ∧ Same H H' ∧ ∀ x ∈ turns.take i, fitB x m = false) ⟨none, rfl, fun _ _ z => z, fun x hx => by simp at hx⟩ ?_ ?_ ?_⟩
    · rintro i σ H' _ ⟨_, rfl, hs, _⟩
      exact .of (hs _ _ h1)
    · rintro i x σ H' hx ⟨v, rfl, hs, hall⟩
      obtain ⟨a, ha, rfl⟩ := refs_of hx
      obtain ⟨t, ht, hta⟩ := h2.at1 ha
      have hta2 := TurnAt.kp (.of hs) _ _ hta
      have etk : turns.take (i + 1) = turns.take i ++ [t] := by rw [List.take_add_one, ht]; rfl
      refine ⟨_, rfl, _, rfl, a, wd, t, m, rfl, hta2, h3.kp (.of hs), fun H1 s1 => ⟨_, rfl, ?_⟩⟩
      have hs1 : Same H H1 := fun a o z => s1 _ _ (hs _ _ z)
      cases e : fitB t m with
      | false =>
        refine iteF ⟨_, rfl, hs1, fun y hy => ?_⟩
        rw [etk] at hy
        rcases List.mem_append.mp hy with hy | hy
        · exact hall y hy
        · have : y = t := by simpa using hy
          subst this
          exact e
      | true =>
        obtain ⟨dx, fa, ba, g1, g2, g3⟩ := TurnAt.kp (.of hs1) _ _ hta
        refine iteT ⟨_, rfl, rd_turn T g1 1 ⟨_, rfl, _, rfl, rd_turn T g1 0 ⟨fa, _, rfl, .inl (.of g2), ?_⟩⟩⟩
        have h3' : NL H1 wd m := h3.kp (.of hs1)
        refine ⟨_, rfl, wd, _, rfl, .of h3', fun p np => ?_⟩
        have ecut : cutV (vi m) (some ((vi t.f).length : Int)) none = vi (m.drop t.f.length) := by rw [vi_len, cut_from, vi_drop]
        rw [ecut] at *
        have g3' : NL (upd H1 p (.lst (vi (m.drop t.f.length)))) ba t.t := Same.new np _ _ g3
        have htl := h12 t (List.mem_of_getElem? ht)
        refine ⟨ba, p, _, _, rfl, rfl, g3', upd_same, ?_, fun z nz => ?_⟩
        · rw [vi_len, vi_len, List.length_drop]
          exact line_of (by omega)
        · have ef : turnedB turns m = t.t ++ m.drop t.f.length := by
            unfold turnedB
            have e2 : (turns.find? fun (x : Ih.Turn) => if x.whole = true then m == x.f else x.f.isPrefixOf m) = some t := by
              rw [List.find?_eq_some_iff_getElem]
              have htl := List.getElem?_eq_some_iff.mp ht
              have hil := htl.1
              refine ⟨e, i, htl.1, htl.2, fun j hj => ?_⟩
              have : turns[j]'(by omega) ∈ turns.take i := by
                rw [List.mem_take_iff_getElem]
                exact ⟨j, by omega, rfl⟩
              have := hall _ this
              unfold fitB at this
              simp [this]
            rw [e2]
          rw [ef] at q
          refine q _ z (fun a o ha => ?_) ?_
          · rw [upd_ne (ne_of_none (Same.new np _ _ (hs1 _ _ ha)) nz)]
            exact Same.new np _ _ (hs1 _ _ ha)
          · show upd _ _ _ _ = _
            rw [upd_same, vi_app]
    · rintro σ H' ⟨v, rfl, hs, hall⟩
      have hl := h2.len
      rw [refs_len, hl, List.take_length] at hall
      have ef : turnedB turns m = m := by
        unfold turnedB
        have e2 : (turns.find? fun (x : Ih.Turn) => if x.whole = true then m == x.f else x.f.isPrefixOf m) = none := by
          rw [List.find?_eq_none]
          intro x hx
          have := hall x hx
          unfold fitB at this
          simp [this]
        rw [e2]
      rw [ef] at q
      exact ⟨_, rfl, q _ wd hs (h3.kp (.of hs))⟩
end
end Fp
end

section
namespace Fp
open PySem PySem.Spec PyProof.Rows L2
theorem book_kd {A : Ad} {H : Hp} {b kd kd' : Addr} {r r' : List Ih.Rule} {s s' : List Ih.Text} (h : BookS A H b kd r s) (h' : BookS A H b kd' r' s') : kd = kd' := by
  obtain ⟨dx, rl, sl, st, ow, rs, starts, h1, _⟩ := h
  obtain ⟨dx', rl', sl', st', ow', rs', starts', h1', _⟩ := h'
  rw [h1] at h1'
  injection h1' with e
  injection e with _ _ e3
  unfold bookF at e3
  injection e3 with _ e4
  injection e4 with _ e4
  injection e4 with _ e4
  injection e4 with _ e4
  injection e4 with e5 _
  injection e5 with _ e6
  injection e6
theorem BookAt.known {A : Ad} {U : List Nat} {H : Hp} {b kd : Addr} {r : List Ih.Rule} {s : List Ih.Text} (h : BookAt A U H b r s) (h' : BookS A H b kd r s) : ∃ kvs, H kd = some (.dK kvs) ∧ KnownOk A U H r s kvs := by
  obtain ⟨kd', kvs, h1, h2, h3⟩ := h
  have e := book_kd h' h1
  subst e
  exact ⟨kvs, h2, h3⟩
theorem KnownOk.it {A : Ad} {U : List Nat} {H H' : Hp} (k : It H H') {rules : List Ih.Rule} {spells : List Ih.Text} {kvs : List (Key × V)} (h : KnownOk A U H rules spells kvs) : KnownOk A U H' rules spells kvs :=
  ⟨fun p hp => by
    obtain ⟨c, t, e, hc, ht⟩ := h.1 p hp
    exact ⟨c, t, e, hc, ht.it k⟩, h.2⟩
theorem items_le {rules : List Ih.Rule} {spells : List Ih.Text} (h4 : ∀ s ∈ spells, s.length ≤ 4) (c : Nat) : (itemsB rules spells c).length ≤ 4 := by
  rw [itemsB_eq]
  have h1 : ∀ (s : Ih.Rule) (d : Nat), (s.item d).length ≤ 1 := fun s d => by
    by_cases k : s.kind ≤ 2
    · obtain ⟨it, e, _⟩ := item_of s d k
      rw [e]
      exact Nat.le_refl _
    · rw [item_no s d (by omega)]
      exact Nat.zero_le _
  split
  · exact Nat.zero_le _
  · rename_i r _
    split
    · rw [List.length_map]
      have : ∀ l : List Nat, (l.flatMap (oneB rules)).length ≤ l.length := fun l => by
        induction l with
        | nil => exact Nat.le_refl _
        | cons y l ih =>
          have : (oneB rules y).length ≤ 1 := by
            unfold oneB
            split
            · exact h1 _ _
            · exact Nat.zero_le _
          rw [List.flatMap_cons, List.length_append, List.length_cons]
          omega
      refine Nat.le_trans (this _) ?_
      rw [List.getD_eq_getElem?_getD]
      cases e : spells[r.weight]? with
      | none => exact Nat.zero_le _
      | some s => exact h4 s (List.mem_of_getElem? e)
    · exact Nat.le_trans (h1 _ _) (by decide)
theorem flat_le {f : Nat → List Ih.Item} {n : Nat} (h : ∀ c, (f c).length ≤ n) : ∀ l : List Nat, (l.flatMap f).length ≤ n * l.length
  | [] => Nat.zero_le _
  | c :: l => by
    have := flat_le h l
    have := h c
    rw [List.flatMap_cons, List.length_append, List.length_cons, Nat.mul_succ]
    omega
theorem ixN_last (n : Nat) : ixN (n + 1) (-1) = some n := by
  unfold ixN
  rw [if_neg (by decide), if_pos (by omega)]
  congr 1
  omega
def kdB : Ih.Item → Nat
  | .letter _ _ _ => 0
  | .digit _ => 1
  | .sign _ => 2
def rankB (n : Nat) : Nat := if n = 2 then 0 else if n = 1 then 1 else 2
section
variable {P : Program} {w : World} {K : PySem.W.Frag} {mg : Str → Option Value} {base : Heap} {A : Ad}
/-! ### parts_of -/
def spPartsOf (A : Ad) : Sp := fun vs H Q _ => ∃ (b wd : Addr) (U : List Nat) (rules : List Ih.Rule) (spells : List Ih.Text) (m : List Nat), vs = [.ref b, .ref wd] ∧ BookAt A U H b rules spells ∧ NL H wd m ∧ m.length ≤ 1000 ∧ (∀ c ∈ m, c ∈ U) ∧ U.length ≤ 100000 ∧
  (∀ r ∈ rules, r.right rules spells = true) ∧ (∀ s ∈ spells, s.length ≤ 4) ∧
  ∀ H' p as, Kp H H' → BookAt A U H' b rules spells → H p = none → H' p = some (.lst (refs as)) → All2 (PartAt A H') as (m.flatMap (itemsB rules spells)) → Q (.ref p) H'
theorem scPartsOf : FnScope ["book", "word", "parts", "character"] ["book", "word"] (C8.fnScope (top 35)) := ⟨rfl, rfl, rfl, by decide +kernel, rfl, by decide +kernel, by decide +kernel⟩
theorem cal_partsof {f : Addr} {fd : FuncData} (T : Tx K mg A) (D : C8.Def K mg "parts_of" (top 35) f fd) (b : Binds K fd ["book", "word"] []) (cP : C8.Met P w K mg base 5 A.book "parts" (spParts A) []) : C8.Cal P w K mg base 6 "parts_of" (spPartsOf A) [] := by
  refine C8.cal0 D b .nil scPartsOf (fun vs H Q E h => ?_) (fun cdv B outer s H vs Q E hr h => ?_)
  · obtain ⟨_, _, _, _, _, _, rfl, _⟩ := h
    rfl
  · obtain ⟨b, wd, U, rules, spells, m, rfl, hb, hw, hm, hmU, hU, hR, hS4, q⟩ := h
    have nd := scPartsOf.nd
    refine ⟨_, pss_cons (ps_set (i := 2) nd rfl (.inl rfl) (pe_lst pa_nil))
      (pss_cons (ps_for PassesOwn.never rfl (pi_list (pv 1)) (pg_name (i := 3) nd rfl (.inl rfl))
        (pss_one (ps_expr (pe_bm PySem.F.plainAttrs_list PySem.F.slot_list_extend PySem.F.type_list_extend Fr.mt_extT (pv 2) (pa_cons (C8.pe_mt cP hr (by decide) (pv 0) (pa_cons (pv 3) pa_nil)) pa_nil)))))
      (pss_one (ps_ret (pv 2)))), ?_⟩
    obtain ⟨kd, kvs0, hbS, hkd0, hko0⟩ := id hb
    obtain ⟨dx, rl, sl, st, ow, rs, starts, h1, _⟩ := id hbS
    have noB : List.lookup ("parts" : Str) (bookF rl sl st ow kd) = none := lk_not (ns := ["rules", "spellings", "starts", "owners", "known"]) rfl (by decide +kernel)
    refine ⟨by decide, fun L nL => ?_⟩
    have hkL : kd ≠ L := ne_of_none hkd0 nL
    refine ⟨_, rfl, wd, rfl, ⟨_, .of (Same.new nL _ _ hw)⟩, for_list (K := K) (a := wd) (xs := vi m) (fun i σ H' => ∃ (v : Option V) (as : List Addr) (kvs : List (Key × V)), σ = [some (.ref b), some (.ref wd), some (.ref L), v] ∧ Kp H H' ∧ H' kd = some (.dK kvs) ∧ KnownOk A U H' rules spells kvs ∧
      H' L = some (.lst (refs as)) ∧ All2 (PartAt A H') as ((m.take i).flatMap (itemsB rules spells))) ?_ ?_ ?_ ?_⟩
    · exact ⟨none, [], kvs0, rfl, .of (Same.new nL), Same.new nL _ _ hkd0, hko0.kp (.of (Same.new nL)), upd_same, trivial⟩
    · rintro i σ H' _ ⟨v, as, kvs, rfl, hk, _⟩
      exact .of (hk.lst hw)
    · rintro i x σ H' hx ⟨v, as, kvs, rfl, hk, hkd, hko, hL, hP⟩
      obtain ⟨c, hc, rfl⟩ := vi_of hx
      have hil : i < m.length := (List.getElem?_eq_some_iff.mp hc).1
      have etk : m.take (i + 1) = m.take i ++ [c] := by rw [List.take_add_one, hc]; rfl
      refine ⟨_, rfl, .inl ⟨rfl, _, .of hL⟩, _, rfl, b, dx, _, rfl, hk.ins h1, noB, _, rfl, b, c, U, rules, spells, rfl, ⟨kd, kvs, hbS.kp hk, hkd, hko⟩, hmU c (List.mem_of_getElem? hc), hU, hR, hS4, fun H1 p k1 hb1 hp => ?_⟩
      have hk1 := hk.trans k1
      obtain ⟨kvs1, hkd1, hko1⟩ := hb1.known (hbS.kp hk1)
      obtain ⟨bs, hp1, hp2⟩ := hp
      have hL1 := k1.lst hL
      have hlen : as.length + bs.length ≤ 100000 := by
        rw [hP.len, hp2.len]
        have a1 := flat_le (items_le (rules := rules) hS4) (m.take i)
        have a2 := items_le (rules := rules) hS4 c
        rw [List.length_take] at a1
        omega
      refine ⟨L, p, refs as, refs bs, rfl, rfl, hL1, .of hp1, ?_, ?_⟩
      · rw [refs_len, refs_len]
        exact line_of (by omega)
      · have it1 : It H1 (upd H1 L (.lst (refs as ++ refs bs))) := It.updL hL1
        refine ⟨_, as ++ bs, kvs1, rfl, fun a o ha n => ?_, ?_, hko1.it it1, ?_, ?_⟩
        · rw [upd_ne (ne_of_none ha nL)]
          exact hk1 _ _ ha n
        · rw [upd_ne hkL]
          exact hkd1
        · rw [refs_app]
          exact upd_same
        · rw [etk, List.flatMap_append]
          refine ((hP.mono (PartAt.kp k1)).mono (PartAt.it it1)).app ?_
          rw [List.flatMap_cons, List.flatMap_nil, List.append_nil]
          exact hp2.mono (PartAt.it it1)
    · rintro σ H' ⟨v, as, kvs, rfl, hk, hkd, hko, hL, hP⟩
      rw [vi_len, List.take_length] at hP
      exact ⟨_, rfl, q _ L as hk ⟨kd, kvs, hbS.kp hk, hkd, hko⟩ nL hL hP⟩
/-! ### rank_of -/
def spRank : Sp := fun vs H Q _ => ∃ (n : Nat), vs = [.int (n : Int)] ∧ Q (.int (rankB n : Nat)) H
theorem scRank : FnScope ["kind"] ["kind"] (C8.fnScope (top 38)) := ⟨rfl, rfl, rfl, by decide +kernel, rfl, by decide +kernel, by decide +kernel⟩
theorem cal_rank {f : Addr} {fd : FuncData} (T : Tx K mg A) (D : C8.Def K mg "rank_of" (top 38) f fd) (b : Binds K fd ["kind"] []) : C8.Cal P w K mg base 1 "rank_of" spRank [] := by
  refine C8.cal0 D b .nil scRank (fun vs H Q E h => ?_) (fun cdv B outer s H vs Q E hr h => ?_)
  · obtain ⟨_, rfl, _⟩ := h
    rfl
  · obtain ⟨n, rfl, q⟩ := h
    refine ⟨_, pss_cons (ps_if (pt_cmpR op_eq (pv 0) (gl T.SIGN) (nomark _)) (pss_one (ps_ret (gl T.RANK_OF_SIGN))) pss_nil)
      (pss_cons (ps_if (pt_cmpR op_eq (pv 0) (gl T.DIGIT) (nomark _)) (pss_one (ps_ret (gl T.RANK_OF_NUMBER))) pss_nil) (pss_one (ps_ret (gl T.RANK_OF_LETTER)))), ?_⟩
    unfold rankB at q
    refine ⟨_, rfl, rfl, _, rfl, ?_⟩
    rw [dec_nn]
    by_cases h2 : n = 2
    · rw [if_pos h2] at q
      rw [decide_eq_true h2]
      exact iteT q
    rw [if_neg h2] at q
    rw [decide_eq_false h2]
    refine iteF ⟨_, rfl, rfl, _, rfl, ?_⟩
    rw [dec_nn]
    by_cases h1 : n = 1
    · rw [if_pos h1] at q
      rw [decide_eq_true h1]
      exact iteT q
    · rw [if_neg h1] at q
      rw [decide_eq_false h1]
      exact iteF q
/-! ### units_of -/
def spUnits (A : Ad) : Sp := fun vs H Q _ => ∃ (p : Addr) (as : List Addr) (its : List Ih.Item), vs = [.ref p] ∧ H p = some (.lst (refs as)) ∧ All2 (PartAt A H) as its ∧ its.length ≤ 100000 ∧
  ∀ H' u, Same H H' → H u = none → WordAt H' u (Ih.elemsFrom none its) → Q (.ref u) H'
theorem scUnits : FnScope ["parts", "units", "in_number", "part"] ["parts"] (C8.fnScope (top 37)) := ⟨rfl, rfl, rfl, by decide +kernel, rfl, by decide +kernel, by decide +kernel⟩
theorem cal_units {f : Addr} {fd : FuncData} (T : Tx K mg A) (D : C8.Def K mg "units_of" (top 37) f fd) (b : Binds K fd ["parts"] []) (cR : C8.Cal P w K mg base 1 "rank_of" spRank []) : C8.Cal P w K mg base 2 "units_of" (spUnits A) [] := by
  refine C8.cal0 D b .nil scUnits (fun vs H Q E h => ?_) (fun cdv B outer s H vs Q E hr h => ?_)
  · obtain ⟨_, _, _, rfl, _⟩ := h
    rfl
  · obtain ⟨p, as, its, rfl, h1, h2, hl, q⟩ := h
    have nd := scUnits.nd
    refine ⟨_, pss_cons (ps_set (i := 1) nd rfl (.inl rfl) (pe_lst pa_nil))
      (pss_cons (ps_set (i := 2) nd rfl (.inl rfl) pe_bl)
      (pss_cons (ps_for PassesOwn.never rfl (pi_list (pv 0)) (pg_name (i := 3) nd rfl (.inl rfl))
        (pss_cons (ps_if (PW.pt (pw_and (pt_cmpR op_eq (pe_fld (pv 3) rfl) (gl T.DIGIT) (nomark _)) (pw_and1 (pt_val (pv 2)))))
          (pss_one (ps_asg (pe_tup (pa_cons (gl T.RANK_OF_NUMBER) (pa_cons (pe_op op_add (pe_op op_mul (pe_ix ix_tup (pe_ix ix_list (pv 1) (pe_un un_neg pe_int) (fun _ _ => rfl)) pe_int (fun _ _ => rfl)) pe_int) (pe_fld (pv 3) rfl)) pa_nil))) (pg_sub (pv 1) (pe_un un_neg pe_int) set_list)))
          (pss_one (ps_expr (pe_bm PySem.F.plainAttrs_list PySem.F.slot_list_append PySem.F.type_list_append mt_append (pv 1) (pa_cons (pe_tup (pa_cons (C8.pe_c cR hr (by decide) rfl (pa_cons (pe_fld (pv 3) rfl) pa_nil)) (pa_cons (pe_fld (pv 3) rfl) pa_nil))) pa_nil)))))
        (pss_one (ps_set (i := 2) nd rfl (.inl rfl) (pe_cmpR op_eq (pe_fld (pv 3) rfl) (gl T.DIGIT) (nomark _))))))
      (pss_one (ps_ret (pv 1))))), ?_⟩
    have h2l := h2.len
    refine ⟨by decide, fun L nL => ?_⟩
    refine ⟨_, rfl, p, rfl, ⟨_, .of (Same.new nL _ _ h1)⟩, for_list (K := K) (a := p) (xs := refs as) (fun i σ H' => ∃ (v : Option V) (us : List Addr), σ = [some (.ref p), some (.ref L), some (.bl (Fx.unitsSt (its.take i)).p.isSome), v] ∧ Same H H' ∧
      H' L = some (.lst (refs us)) ∧ All2 (UnitAt H') us (Fx.unitsSt (its.take i)).all) ⟨none, [], rfl, Same.new nL, upd_same, trivial⟩ ?_ ?_ ?_⟩
    · rintro i σ H' _ ⟨v, us, rfl, hs, _⟩
      exact .of (hs _ _ h1)
    · rintro i x σ H' hx ⟨v, us, rfl, hs, hL, hU⟩
      obtain ⟨a, ha, rfl⟩ := refs_of hx
      obtain ⟨it, hit, hpa⟩ := h2.at1 ha
      have hil : i < its.length := (List.getElem?_eq_some_iff.mp hit).1
      have etk : its.take (i + 1) = its.take i ++ [it] := by rw [List.take_add_one, hit]; rfl
      rw [etk, Fx.units_snoc]
      have hul : us.length ≤ 100000 := by
        have := Fx.units_len (its.take i)
        rw [List.length_take] at this
        rw [hU.len]
        omega
      generalize Fx.unitsSt (its.take i) = S at hU ⊢
      obtain ⟨dx, kd, wt, ac, mk, hi, his⟩ := PartAt.kp (.of hs) _ _ hpa
      refine ⟨_, rfl, rd_part T hi 0 ⟨rfl, _, rfl, ?_⟩⟩
      rw [dec_nn]
      -- the end of a turn
      have fin : ∀ (H2 : Hp) (us2 : List Addr), Same H H2 → H2 L = some (.lst (refs us2)) → All2 (UnitAt H2) us2 (S.step it).all →
          ∃ (v : Option V) (us : List Addr), [some (V.ref p), some (.ref L), some (.bl (decide (V.int (kd : Int) = V.int ((1 : Nat) : Int)))), some (.ref a)] = [some (.ref p), some (.ref L), some (.bl (S.step it).p.isSome), v] ∧ Same H H2 ∧ H2 L = some (.lst (refs us)) ∧ All2 (UnitAt H2) us (S.step it).all := fun H2 us2 a1 a2 a3 => by
        refine ⟨some (.ref a), us2, ?_, a1, a2, a3⟩
        rw [Fx.step_in, dec_nn]
        have : decide (kd = 1) = Fx.isDigit it := by
          cases it with
          | letter w' a' m' => rw [his.1]; rfl
          | digit v' => rw [his.1]; rfl
          | sign w' => rw [his.1]; rfl
        rw [this]
      have app : (Fx.isDigit it = false ∨ S.p = none) → (S.step it).all = S.all ++ [(rankB kd, wt)] := fun hh => by
        cases it with
        | letter w' a' m' =>
          obtain ⟨e1, e2, _⟩ := his
          subst e1 e2
          simp [Fx.US.step, Fx.US.all, Ih.flush, rankB]
        | sign w' =>
          obtain ⟨e1, e2⟩ := his
          subst e1 e2
          simp [Fx.US.step, Fx.US.all, Ih.flush, rankB]
        | digit v' =>
          obtain ⟨e1, e2⟩ := his
          subst e1 e2
          rcases hh with hh | hh
          · cases hh
          · simp [Fx.US.step, Fx.US.all, Ih.flush, rankB, hh]
      by_cases hk : kd = 1
      · rw [decide_eq_true hk]
        cases hp : S.p with
        | none =>
          refine iteT ⟨_, rfl, _, rfl, ?_⟩
          refine iteF ?_
          refine ⟨_, rfl, .inl ⟨rfl, _, .of hL⟩, _, rfl, rd_part T hi 0 ⟨kd, rfl, _, rfl, rd_part T hi 1 ⟨(by show 2 ≤ sizeLine; decide), fun t nt => ?_⟩⟩⟩
          have hL1 := Same.new (o := .tup [.int (rankB kd : Nat), .int (wt : Nat)]) nt _ _ hL
          refine ⟨L, refs us, _, rfl, rfl, hL1, ?_, ?_⟩
          · rw [refs_len]; exact line_lt (by omega)
          have it1 : It H' (upd (upd H' t (.tup [.int (rankB kd : Nat), .int (wt : Nat)])) L (.lst (refs us ++ [.ref t]))) := (It.of (Same.new nt)).trans (It.updL hL1)
          have htL : t ≠ L := (ne_of_none hL nt).symm
          refine ⟨_, rfl, rd_part T (it1 _ _ hi trivial) 0 ⟨rfl, fin _ (us ++ [t]) (fun c o hc => ?_) (by rw [refs_app]; exact upd_same) ?_⟩⟩
          · rw [upd_ne (ne_of_none hc nL)]
            exact Same.new nt _ _ (hs _ _ hc)
          · rw [app (.inr hp)]
            refine (hU.mono (unit_it it1)).app ⟨?_, trivial⟩
            show upd _ _ _ _ = _
            rw [upd_ne htL]
            exact upd_same
        | some n =>
          have hall : S.all = S.u ++ [(1, n)] := by unfold Fx.US.all; rw [hp]; rfl
          rw [hall] at hU
          have hune : us ≠ [] := fun e => by
            subst e
            have := hU.len
            simp at this
          obtain ⟨us', ul, rfl⟩ := last_of hune
          obtain ⟨hU1, hU2⟩ := hU.last
          have hix : atI (refs (us' ++ [ul])) (-1) = some (.ref ul) := by rw [refs_app]; exact atI_last _ _
          refine iteT ⟨_, rfl, _, rfl, ?_⟩
          refine iteT ?_
          refine ⟨_, rfl, _, rfl, L, _, _, _, rfl, rfl, .of hL, hix, ul, _, 1, _, rfl, rfl, .of hU2, rfl, _, _, rfl, rfl, .inr ⟨by decide, by decide⟩, _, rfl, rd_part T hi 1 ⟨_, _, rfl, rfl, (by show 2 ≤ sizeLine; decide), fun t nt => ?_⟩⟩
          have htL : t ≠ L := (ne_of_none hL nt).symm
          have ej : ixN (refs (us' ++ [ul])).length (-1) = some us'.length := by
            rw [refs_len, List.length_append]
            exact ixN_last us'.length
          have hL1 := Same.new (o := .tup [.int ((1 : Nat) : Int), .int ((n : Int) * 10 + (wt : Nat))]) nt _ _ hL
          refine ⟨_, rfl, _, rfl, L, _, _, us'.length, rfl, rfl, hL1, ej, ?_⟩
          have eset : (refs (us' ++ [ul])).set us'.length (.ref t) = refs (us' ++ [t]) := by
            rw [refs_app, refs_app, List.set_append_right _ _ (by rw [refs_len]; exact Nat.le_refl _), refs_len, Nat.sub_self]
            rfl
          rw [eset]
          have it1 : It H' (upd (upd H' t (.tup [.int ((1 : Nat) : Int), .int ((n : Int) * 10 + (wt : Nat))])) L (.lst (refs (us' ++ [t])))) := (It.of (Same.new nt)).trans (It.updL hL1)
          refine ⟨_, rfl, rd_part T (it1 _ _ hi trivial) 0 ⟨rfl, ?_⟩⟩
          have fin' := fin (upd (upd H' t (.tup [.int ((1 : Nat) : Int), .int ((n : Int) * 10 + (wt : Nat))])) L (.lst (refs (us' ++ [t])))) (us' ++ [t]) (fun c o hc => ?_) upd_same ?_
          · exact fin'
          · rw [upd_ne (ne_of_none hc nL)]
            exact Same.new nt _ _ (hs _ _ hc)
          · have hst : (S.step it).all = S.u ++ [(1, 10 * n + wt)] := by
              cases it with
              | letter w' a' m' =>
                have := his.1
                omega
              | sign w' =>
                have := his.1
                omega
              | digit v' =>
                obtain ⟨e1, e2⟩ := his
                subst e2
                simp [Fx.US.step, Fx.US.all, Ih.flush, hp]
            rw [hst]
            refine (hU1.mono (unit_it it1)).app ⟨?_, trivial⟩
            show upd _ _ _ _ = _
            rw [upd_ne htL, upd_same]
            have : (n : Int) * 10 + (wt : Nat) = ((10 * n + wt : Nat) : Int) := by omega
            rw [this]
      · rw [decide_eq_false hk]
        refine iteF (iteF ?_)
        refine ⟨_, rfl, .inl ⟨rfl, _, .of hL⟩, _, rfl, rd_part T hi 0 ⟨kd, rfl, _, rfl, rd_part T hi 1 ⟨(by show 2 ≤ sizeLine; decide), fun t nt => ?_⟩⟩⟩
        have hL1 := Same.new (o := .tup [.int (rankB kd : Nat), .int (wt : Nat)]) nt _ _ hL
        refine ⟨L, refs us, _, rfl, rfl, hL1, ?_, ?_⟩
        · rw [refs_len]; exact line_lt (by omega)
        have it1 : It H' (upd (upd H' t (.tup [.int (rankB kd : Nat), .int (wt : Nat)])) L (.lst (refs us ++ [.ref t]))) := (It.of (Same.new nt)).trans (It.updL hL1)
        have htL : t ≠ L := (ne_of_none hL nt).symm
        refine ⟨_, rfl, rd_part T (it1 _ _ hi trivial) 0 ⟨rfl, fin _ (us ++ [t]) (fun c o hc => ?_) (by rw [refs_app]; exact upd_same) ?_⟩⟩
        · rw [upd_ne (ne_of_none hc nL)]
          exact Same.new nt _ _ (hs _ _ hc)
        · rw [app (.inl (by cases it with
            | letter w' a' m' => rfl
            | digit v' => exact absurd his.1 hk
            | sign w' => rfl))]
          refine (hU.mono (unit_it it1)).app ⟨?_, trivial⟩
          show upd _ _ _ _ = _
          rw [upd_ne htL]
          exact upd_same
    · rintro σ H' ⟨v, us, rfl, hs, hL, hU⟩
      rw [refs_len, h2l, List.take_length, ← Fx.units_eq] at hU
      exact ⟨_, rfl, q _ L hs nL ⟨us, hL, hU⟩⟩
end
end Fp
end

section
namespace Fp
open PySem PySem.Spec PyProof.Rows L2
def accOf (its : List Ih.Item) : List Nat := its.filterMap fun (x : Ih.Item) => match x with
  | .letter _ a _ => some a
  | _ => none
def mrkOf (its : List Ih.Item) : List Nat := its.filterMap fun (x : Ih.Item) => match x with
  | .letter _ _ m => some m
  | _ => none
def fullE (w : List Ih.Elem) : Bool := w != []
theorem elems_full (its : List Ih.Item) : fullE (Ih.elemsFrom none its) = !its.isEmpty := by
  unfold fullE
  cases its with
  | nil => rfl
  | cons a l =>
    have : Ih.elemsFrom none (a :: l) ≠ [] := fun e => by
      have := (Fx.units_nil_iff _).mp e
      cases this
    simp [this]
def Lists (M : List Addr) (H : Hp) : Prop := ∀ x ∈ M, ∃ xs, H x = some (.lst xs)
theorem Lists.kp {M : List Addr} {H H' : Hp} (k : Kp H H') (h : Lists M H) : Lists M H' := fun x hx => by
  obtain ⟨xs, e⟩ := h x hx
  exact ⟨xs, k.lst e⟩
theorem Lists.not {M : List Addr} {H : Hp} (h : Lists M H) {x : Addr} {o : HO} (e : H x = some o) (n : ∀ xs, o ≠ .lst xs) : x ∉ M := fun hx => by
  obtain ⟨xs, e2⟩ := h x hx
  rw [e] at e2
  exact n xs (Option.some.inj e2)
theorem Lists.new {M : List Addr} {H : Hp} (h : Lists M H) {x : Addr} (e : H x = none) : x ∉ M := fun hx => by
  obtain ⟨xs, e2⟩ := h x hx
  rw [e] at e2
  cases e2
theorem Ct.drop {M N : List Addr} {H : Hp} : Same (Ct (N ++ M) H) (Ct M H) := fun x o e => by
  obtain ⟨h1, h2⟩ := Ct.get e
  rw [Ct.out (fun h => h1 (List.mem_append_right _ h))]
  exact h2
/-- what is filed so far, in lists of its own, none of them in M -/
def FiledX (A : Ad) (M : List Addr) (H : Hp) (f w a m : Addr) (ws : List (List Ih.Elem)) (ac mk : List Nat) : Prop := (∃ dx, H f = some (.ins A.filed dx (filedF w a m))) ∧ (∃ us, H w = some (.lst (refs us)) ∧ All2 (WordAt (Ct ([w, a, m] ++ M) H)) us ws) ∧ NL H a ac ∧ NL H m mk ∧ w ≠ a ∧ w ≠ m ∧ a ≠ m ∧
  Lists M H ∧ w ∉ M ∧ a ∉ M ∧ m ∉ M
theorem FiledX.at {A : Ad} {M : List Addr} {H : Hp} {f w a m : Addr} {ws : List (List Ih.Elem)} {ac mk : List Nat} (h : FiledX A M H f w a m ws ac mk) : FiledAt A (Ct M H) f w a m ws ac mk := by
  obtain ⟨⟨dx, h1⟩, ⟨us, h2, h3⟩, h4, h5, _, _, _, h6, h7, h8, h9⟩ := h
  refine ⟨⟨dx, ?_⟩, ⟨us, ?_, h3.mono (word_kp (.of Ct.drop))⟩, ?_, ?_⟩
  · rw [Ct.out (h6.not h1 nofun)]
    exact h1
  · rw [Ct.out h7]
    exact h2
  · show Ct _ _ _ = _
    rw [Ct.out h8]
    exact h4
  · show Ct _ _ _ = _
    rw [Ct.out h9]
    exact h5
theorem FiledX.kp {A : Ad} {M : List Addr} {H H' : Hp} (k : Kp H H') {f w a m : Addr} {ws : List (List Ih.Elem)} {ac mk : List Nat} (h : FiledX A M H f w a m ws ac mk) : FiledX A M H' f w a m ws ac mk := by
  obtain ⟨⟨dx, h1⟩, ⟨us, h2, h3⟩, h4, h5, n1, n2, n3, h6, h7⟩ := h
  exact ⟨⟨dx, k.ins h1⟩, ⟨us, k.lst h2, h3.mono (word_kp (Ct.kp k))⟩, h4.kp k, h5.kp k, n1, n2, n3, h6.kp k, h7⟩
section
variable {P : Program} {w : World} {K : PySem.W.Frag} {mg : Str → Option Value} {base : Heap} {A : Ad}
/-! ### add_word -/
def spAdd (A : Ad) : Sp := fun vs H Q _ => ∃ (f w a m p : Addr) (M as : List Addr) (ws : List (List Ih.Elem)) (ac mk : List Nat) (its : List Ih.Item), vs = [.ref f, .ref p] ∧ FiledX A M H f w a m ws ac mk ∧ p ∉ [w, a, m] ∧ H p = some (.lst (refs as)) ∧ All2 (PartAt A H) as its ∧
  its.length ≤ 100000 ∧ ws.length ≤ 100000 ∧ ac.length ≤ 500000 ∧ mk.length ≤ 500000 ∧
  ∀ H', Same (Ct [w, a, m] H) H' → FiledX A M H' f w a m (ws ++ [Ih.elemsFrom none its].filter fullE) (ac ++ accOf its) (mk ++ mrkOf its) → Q .non H'
theorem scAdd : FnScope ["filed", "parts", "part"] ["filed", "parts"] (C8.fnScope (top 36)) := ⟨rfl, rfl, rfl, by decide +kernel, rfl, by decide +kernel, by decide +kernel⟩
theorem cal_add {f : Addr} {fd : FuncData} (T : Tx K mg A) (D : C8.Def K mg "add_word" (top 36) f fd) (b : Binds K fd ["filed", "parts"] []) (cU : C8.Cal P w K mg base 2 "units_of" (spUnits A) []) : C8.Cal P w K mg base 3 "add_word" (spAdd A) [] := by
  refine C8.cal0 D b .nil scAdd (fun vs H Q E h => ?_) (fun cdv B outer s H vs Q E hr h => ?_)
  · obtain ⟨_, _, _, _, _, _, _, _, _, _, _, rfl, _⟩ := h
    rfl
  · obtain ⟨f, w, a, m, p, M, as, ws, ac, mk, its, rfl, hF, hp, h1, h2, l1, l2, l3, l4, q⟩ := h
    have nd := scAdd.nd
    refine ⟨_, pss_cons (ps_if (pt_cmpR op_gt (pe_callB cr_len (by rfl) T.len PySem.boot_len (pa_cons (pv 1) pa_nil)) pe_int (nomark _))
        (pss_one (ps_expr (pe_bm PySem.F.plainAttrs_list PySem.F.slot_list_append PySem.F.type_list_append mt_append (pe_fld (pv 0) rfl) (pa_cons (C8.pe_c cU hr (by decide) rfl (pa_cons (pv 1) pa_nil)) pa_nil)))) pss_nil)
      (pss_one (ps_for PassesOwn.never rfl (pi_list (pv 1)) (pg_name (i := 2) nd rfl (.inl rfl))
        (pss_one (ps_if (pt_cmpR op_eq (pe_fld (pv 2) rfl) (gl T.LETTER) (nomark _))
          (pss_cons (ps_expr (pe_bm PySem.F.plainAttrs_list PySem.F.slot_list_append PySem.F.type_list_append mt_append (pe_fld (pv 0) rfl) (pa_cons (pe_fld (pv 2) rfl) pa_nil)))
          (pss_one (ps_expr (pe_bm PySem.F.plainAttrs_list PySem.F.slot_list_append PySem.F.type_list_append mt_append (pe_fld (pv 0) rfl) (pa_cons (pe_fld (pv 2) rfl) pa_nil))))) pss_nil)))), ?_⟩
    have h2l := h2.len
    obtain ⟨⟨dx, g1⟩, ⟨us, g2, g3⟩, g4, g5, n1, n2, n3, mL, m1, m2, m3⟩ := id hF
    have mlk : ∀ {H' : Hp}, Same (Ct [w, a, m] H) H' → Lists M H' := fun hs x hx => by
      obtain ⟨xs, e⟩ := mL x hx
      refine ⟨xs, hs _ _ ?_⟩
      rw [Ct.out (fun e => by
        simp only [List.mem_cons, List.not_mem_nil, or_false] at e
        rcases e with e | e | e <;> subst e <;> contradiction)]
      exact e
    have fM : f ∉ [w, a, m] := fun e => by
      simp only [List.mem_cons, List.not_mem_nil, or_false] at e
      have g4' : H a = some (.lst (vi ac)) := g4
      have g5' : H m = some (.lst (vi mk)) := g5
      rcases e with e | e | e <;> subst e
      · rw [g1] at g2; cases g2
      · rw [g1] at g4'; cases g4'
      · rw [g1] at g5'; cases g5'
    have pM : ∀ x it, PartAt A H x it → x ∉ [w, a, m] := fun x it hx e => by
      obtain ⟨dxp, kd, wt, ac', mk', hx, _⟩ := hx
      simp only [List.mem_cons, List.not_mem_nil, or_false] at e
      have g4' : H a = some (.lst (vi ac)) := g4
      have g5' : H m = some (.lst (vi mk)) := g5
      rcases e with e | e | e <;> subst e
      · rw [hx] at g2; cases g2
      · rw [hx] at g4'; cases g4'
      · rw [hx] at g5'; cases g5'
    refine ⟨_, rfl, p, _, rfl, .inl (.of h1), _, _, rfl, rfl, _, rfl, ite2 (fun h0 => ?_) (fun h0 => ?_)⟩
    · have h0' : 0 < its.length := by
        have : (0 : Int) < (refs as).length := by simpa using h0
        rw [refs_len, h2l] at this
        omega
      have hfull : [Ih.elemsFrom none its].filter fullE = [Ih.elemsFrom none its] := by
        rw [List.filter_cons, elems_full]
        cases its with
        | nil => exact absurd h0' (by decide)
        | cons _ _ => rfl
      rw [hfull] at q
      refine ⟨_, rfl, rd_filed (v := .ref w) T g1 0 ⟨.inl ⟨rfl, _, .of g2⟩, _, rfl, p, as, its, rfl, h1, h2, l1, fun H1 u s1 nu hu => ?_⟩⟩
      have g2' := s1 _ _ g2
      have usl := g3.len
      refine ⟨w, refs us, _, rfl, rfl, g2', by rw [refs_len]; exact line_lt (by omega), ?_⟩
      generalize hG : upd H1 w (.lst (refs us ++ [.ref u])) = G
      have hGM : Same (Ct [w, a, m] H) G := fun c o hc => by
        rw [← hG, upd_ne (fun e => (Ct.get hc).1 (by rw [e]; simp))]
        exact s1 _ _ (Ct.get hc).2
      have hFG : FiledX A M G f w a m (ws ++ [Ih.elemsFrom none its]) ac mk := by
        subst hG
        refine ⟨⟨dx, hGM _ _ (by rw [Ct.out fM]; exact g1)⟩, ⟨us ++ [u], by rw [refs_app]; exact upd_same, ?_⟩, ?_, ?_, n1, n2, n3, mlk hGM, m1, m2, m3⟩
        · rw [Ct.upd (by simp)]
          refine (g3.mono (word_kp (.of (Ct.mono s1)))).app ⟨?_, trivial⟩
          obtain ⟨es, e1, e2⟩ := hu
          have uM : u ∉ [w, a, m] ++ M := fun e => by
            rcases List.mem_append.mp e with e | e
            case inr => exact mL.new nu e
            simp only [List.mem_cons, List.not_mem_nil, or_false] at e
            have g4' : H a = some (.lst (vi ac)) := g4
            have g5' : H m = some (.lst (vi mk)) := g5
            rcases e with e | e | e <;> subst e
            · rw [nu] at g2; cases g2
            · rw [nu] at g4'; cases g4'
            · rw [nu] at g5'; cases g5'
          refine ⟨es, by rw [Ct.out uM]; exact e1, e2.mono fun x y hx => ?_⟩
          have g4' : H1 a = some (.lst (vi ac)) := s1 _ _ g4
          have g5' : H1 m = some (.lst (vi mk)) := s1 _ _ g5
          have xM : x ∉ [w, a, m] ++ M := fun e => by
            have hx' : H1 x = some (.tup _) := hx
            rcases List.mem_append.mp e with e | e
            case inr => exact (mL.kp (.of s1)).not hx' nofun e
            simp only [List.mem_cons, List.not_mem_nil, or_false] at e
            rcases e with e | e | e <;> subst e
            · rw [hx'] at g2'; cases g2'
            · rw [hx'] at g4'; cases g4'
            · rw [hx'] at g5'; cases g5'
          show Ct _ _ _ = _
          rw [Ct.out xM]
          exact hx
        · show upd _ _ _ _ = _
          rw [upd_ne (Ne.symm n1)]
          exact s1 _ _ g4
        · show upd _ _ _ _ = _
          rw [upd_ne (Ne.symm n2)]
          exact s1 _ _ g5
      clear hG
      have hpG : G p = some (.lst (refs as)) := hGM _ _ (by rw [Ct.out hp]; exact h1)
      have al : ∀ l : List Ih.Item, (accOf l).length ≤ l.length ∧ (mrkOf l).length ≤ l.length := fun l => ⟨List.length_filterMap_le _ _, List.length_filterMap_le _ _⟩
      refine ⟨_, rfl, p, rfl, ⟨_, .of hpG⟩, for_list (K := K) (a := p) (xs := refs as) (fun i σ H' => ∃ (v : Option V), σ = [some (.ref f), some (.ref p), v] ∧ Same (Ct [w, a, m] H) H' ∧ FiledX A M H' f w a m (ws ++ [Ih.elemsFrom none its]) (ac ++ accOf (its.take i)) (mk ++ mrkOf (its.take i)))
        ⟨none, rfl, hGM, by
          have e1 : ac ++ accOf (its.take 0) = ac := by simp [accOf]
          have e2 : mk ++ mrkOf (its.take 0) = mk := by simp [mrkOf]
          rw [e1, e2]
          exact hFG⟩ ?_ ?_ ?_⟩
      · rintro i σ H' _ ⟨v, rfl, hs, _⟩
        exact .of (hs _ _ (by rw [Ct.out hp]; exact h1))
      · rintro i x σ H' hx ⟨v, rfl, hs, hF'⟩
        obtain ⟨b, hb, rfl⟩ := refs_of hx
        obtain ⟨it, hit, hpa⟩ := h2.at1 hb
        have bM := pM _ _ hpa
        have etk : its.take (i + 1) = its.take i ++ [it] := by rw [List.take_add_one, hit]; rfl
        have hil : i < its.length := (List.getElem?_eq_some_iff.mp hit).1
        obtain ⟨dxp, kd, wt, ac', mk', hi, his⟩ := hpa
        have hi' := hs _ _ (by rw [Ct.out bM]; exact hi)
        refine ⟨_, rfl, rd_part T hi' 0 ⟨rfl, _, rfl, ?_⟩⟩
        rw [dec_nn, etk]
        cases it with
        | digit v' =>
          rw [his.1]
          refine iteF ⟨_, rfl, hs, ?_⟩
          have e1 : accOf (its.take i ++ [.digit v']) = accOf (its.take i) := by simp [accOf]
          have e2 : mrkOf (its.take i ++ [.digit v']) = mrkOf (its.take i) := by simp [mrkOf]
          rw [e1, e2]
          exact hF'
        | sign w' =>
          rw [his.1]
          refine iteF ⟨_, rfl, hs, ?_⟩
          have e1 : accOf (its.take i ++ [.sign w']) = accOf (its.take i) := by simp [accOf]
          have e2 : mrkOf (its.take i ++ [.sign w']) = mrkOf (its.take i) := by simp [mrkOf]
          rw [e1, e2]
          exact hF'
        | letter w' a' m' =>
          obtain ⟨k0, k1, k2, k3⟩ := his
          subst k2 k3
          rw [k0]
          obtain ⟨⟨dx', r1⟩, ⟨us', r2, r3⟩, r4, r5, _⟩ := id hF'
          have al1 := al (its.take i)
          rw [List.length_take] at al1
          refine iteT ⟨_, rfl, rd_filed (v := .ref a) T r1 1 ⟨.inl ⟨rfl, _, .of r4⟩, _, rfl, rd_part (v := .int (ac' : Nat)) T hi' 2 ⟨a, _, _, rfl, rfl, r4, ?_, ?_⟩⟩⟩
          · rw [vi_len, List.length_append]
            exact line_lt (by omega)
          have r1a : (upd H' a (.lst (vi (ac ++ accOf (its.take i)) ++ [.int (ac' : Nat)]))) f = some (.ins A.filed dx' (filedF w a m)) := by
            rw [upd_ne (fun e => fM (by rw [e]; simp))]
            exact r1
          have r5a : (upd H' a (.lst (vi (ac ++ accOf (its.take i)) ++ [.int (ac' : Nat)]))) m = some (.lst (vi (mk ++ mrkOf (its.take i)))) := by
            rw [upd_ne (Ne.symm n3)]
            exact r5
          have hia : (upd H' a (.lst (vi (ac ++ accOf (its.take i)) ++ [.int (ac' : Nat)]))) b = some (.ins A.part dxp (partF kd wt ac' mk')) := by
            rw [upd_ne (fun e => bM (by rw [e]; simp))]
            exact hi'
          refine ⟨_, rfl, rd_filed (v := .ref m) T r1a 2 ⟨.inl ⟨rfl, _, .of r5a⟩, _, rfl, rd_part (v := .int (mk' : Nat)) T hia 3 ⟨m, _, _, rfl, rfl, r5a, ?_, ?_⟩⟩⟩
          · rw [vi_len, List.length_append]
            exact line_lt (by omega)
          have e1 : accOf (its.take i ++ [.letter w' ac' mk']) = accOf (its.take i) ++ [ac'] := by simp [accOf]
          have e2 : mrkOf (its.take i ++ [.letter w' ac' mk']) = mrkOf (its.take i) ++ [mk'] := by simp [mrkOf]
          rw [e1, e2, ← List.append_assoc, ← List.append_assoc]
          have hsN : Same (Ct [w, a, m] H) (upd (upd H' a (.lst (vi (ac ++ accOf (its.take i)) ++ [.int (ac' : Nat)]))) m (.lst (vi (mk ++ mrkOf (its.take i)) ++ [.int (mk' : Nat)]))) := fun c o hc => by
            have hcM := (Ct.get hc).1
            rw [upd_ne (fun e => hcM (by rw [e]; simp)), upd_ne (fun e => hcM (by rw [e]; simp))]
            exact hs _ _ hc
          refine ⟨_, rfl, hsN, ⟨dx', ?_⟩, ⟨us', ?_, ?_⟩, ?_, ?_, n1, n2, n3, mlk hsN, m1, m2, m3⟩
          · rw [upd_ne (fun e => fM (by rw [e]; simp))]
            exact r1a
          · rw [upd_ne n2, upd_ne n1]
            exact r2
          · rw [Ct.upd (by simp), Ct.upd (by simp)]
            exact r3
          · show upd _ _ _ _ = _
            rw [upd_ne n3, upd_same]
            show _ = some (HO.lst (vi (ac ++ accOf (its.take i) ++ [ac'])))
            rw [vi_app _ [ac']]
            rfl
          · show upd _ _ _ _ = _
            rw [upd_same, vi_app _ [mk']]
            rfl
      · rintro σ H' ⟨v, rfl, hs, hF'⟩
        rw [refs_len, h2l, List.take_length] at hF'
        exact q _ hs hF'
    · have h0' : its.length = 0 := by
        have : ¬ (0 : Int) < (refs as).length := by simpa using h0
        rw [refs_len, h2l] at this
        omega
      obtain rfl : its = [] := List.length_eq_zero_iff.mp h0'
      obtain rfl : as = [] := List.length_eq_zero_iff.mp h2l
      refine ⟨_, rfl, p, rfl, ⟨_, .of h1⟩, for_list (K := K) (a := p) (xs := refs []) (fun i σ H' => σ = [some (.ref f), some (.ref p), none] ∧ H' = H) ⟨rfl, rfl⟩ ?_ ?_ ?_⟩
      · rintro i σ H' _ ⟨rfl, rfl⟩
        exact .of h1
      · rintro i x σ H' hx _
        simp [refs] at hx
      · rintro σ H' ⟨rfl, rfl⟩
        refine q _ (Ct.sub _ _) ?_
        have e0 : ws ++ [Ih.elemsFrom none []].filter fullE = ws := by simp [Ih.elemsFrom, Ih.flush, fullE]
        have e1 : ac ++ accOf [] = ac := by simp [accOf]
        have e2 : mk ++ mrkOf [] = mk := by simp [mrkOf]
        rw [e0, e1, e2]
        exact hF
end
end Fp
end

section
namespace Fp
open PySem PySem.Spec PyProof.Rows L2
theorem items_bk {k : Ih.Code} {bs : List Ih.Text} (hp : bs <+: k.spells) (hR : ∀ r ∈ k.rules, r.right k.rules bs = true) (c : Nat) : k.items c = itemsB k.rules bs c := by
  rw [itemsB_eq]
  have e0 : k.items c = (match Ih.ruleIn k.rules c with
    | none => []
    | some r => if r.kind = 5 then ((k.spells.getD r.weight []).flatMap (oneB k.rules)).map r.takes else r.item c) := rfl
  rw [e0]
  cases er : Ih.ruleIn k.rules c with
  | none => rfl
  | some r =>
    show (if r.kind = 5 then _ else _) = (if r.kind = 5 then _ else _)
    by_cases k5 : r.kind = 5
    · rw [if_pos k5, if_pos k5]
      have hr := hR r (ruleIn_mem er)
      have hcov := ruleIn_cov er
      rw [right_eq] at hr
      have hsp : spellB k.rules bs r.weight = true := by
        cases e : spellB k.rules bs r.weight with
        | true => rfl
        | false =>
          rw [if_neg (by omega), if_neg (by omega), if_neg (by omega), if_pos ⟨k5, e⟩] at hr
          cases hr
      unfold spellB at hsp
      cases es : bs[r.weight]? with
      | none => rw [es] at hsp; cases hsp
      | some s =>
        obtain ⟨t, ht⟩ := hp
        have es2 : k.spells[r.weight]? = some s := by
          rw [← ht, List.getElem?_append_left (List.getElem?_eq_some_iff.mp es).1]
          exact es
        rw [List.getD_eq_getElem?_getD, List.getD_eq_getElem?_getD, es, es2]
    · rw [if_neg k5, if_neg k5]
section
variable {P : Program} {w : World} {K : PySem.W.Frag} {mg : Str → Option Value} {base : Heap} {A : Ad}
/-! ### file_text -/
def wiB (k : Ih.Code) (x : Ih.Text) : List Ih.Item := (k.turned x).flatMap k.items
def spFile (A : Ad) : Sp := fun vs H Q _ => ∃ (c t : Addr) (M : List Addr) (U : List Nat) (g : Gh) (k : Ih.Code) (text : Ih.Text), vs = [.ref c, .ref t] ∧ Lists M H ∧ CodeAt A U H c g k ∧ Good U k ∧ NL H t text ∧ text.length ≤ 256 ∧ U.length ≤ 100000 ∧ (∀ x ∈ text, x ∈ U) ∧
  ∀ H' f w a m, Kp H H' → BookK A U H' g.b k → FiledAt A (Ct M H') f w a m (k.filed text) (k.accents text) (k.marks text) → Q (.ref f) H'
theorem scFile : FnScope ["code", "text", "filed", "word"] ["code", "text"] (C8.fnScope (top 30)) := ⟨rfl, rfl, rfl, by decide +kernel, rfl, by decide +kernel, by decide +kernel⟩
theorem cal_file {f : Addr} {fd : FuncData} (T : Tx K mg A) (D : C8.Def K mg "file_text" (top 30) f fd) (b : Binds K fd ["code", "text"] []) (cFi : C8.Mak P w K mg base 1 "Filed" A.filed (spFiledI A) []) (cWo : C8.Cal P w K mg base 3 "words_of" (spWordsOf A) []) (cArt : C8.Cal P w K mg base 1 "without_article" spArt [])
    (cTu : C8.Cal P w K mg base 2 "turned" (spTurned A) []) (cPO : C8.Cal P w K mg base 6 "parts_of" (spPartsOf A) []) (cAdd : C8.Cal P w K mg base 3 "add_word" (spAdd A) []) : C8.Cal P w K mg base 7 "file_text" (spFile A) [] := by
  refine C8.cal0 D b .nil scFile (fun vs H Q E h => ?_) (fun cdv B outer s H vs Q E hr h => ?_)
  · obtain ⟨_, _, _, _, _, _, _, rfl, _⟩ := h
    rfl
  · obtain ⟨c, t, M, U, g, k, text, rfl, mL, hC, hG, ht, htl, hUl, htU, q⟩ := h
    have nd := scFile.nd
    refine ⟨_, pss_cons (ps_set (i := 2) nd rfl (.inl rfl) (pe_mk0 cFi hr (by decide) rfl))
      (pss_cons (ps_for PassesOwn.never rfl (pi_list (C8.pe_c cArt hr (by decide) rfl (pa_cons (pe_fld (pv 0) rfl) (pa_cons (C8.pe_c cWo hr (by decide) rfl (pa_cons (pe_fld (pv 0) rfl) (pa_cons (pv 1) pa_nil))) pa_nil)))) (pg_name (i := 3) nd rfl (.inl rfl))
        (pss_one (ps_expr (C8.pe_c cAdd hr (by decide) rfl (pa_cons (pv 2) (pa_cons (C8.pe_c cPO hr (by decide) rfl (pa_cons (pe_fld (pv 0) rfl) (pa_cons (C8.pe_c cTu hr (by decide) rfl (pa_cons (pe_fld (pv 0) rfl) (pa_cons (pv 3) pa_nil))) pa_nil))) pa_nil))))))
      (pss_one (ps_ret (pv 2)))), ?_⟩
    obtain ⟨⟨dc, hc, hsp, htn, har⟩, ⟨bs, hB, hpre, hR⟩⟩ := hC
    obtain ⟨kd, kvs0, hbS, hkd0, hko0⟩ := id hB
    have hS4 : ∀ s ∈ bs, s.length ≤ 4 := fun s hs => hG.sp4 s (hpre.subset hs)
    have hit : ∀ c, k.items c = itemsB k.rules bs c := items_bk hpre hR
    intro f dx nf ndx ne
    have s0 := same_new (o := .own f) (o' := .ins A.filed dx []) nf ndx
    refine ⟨f, dx, rfl, upd_same, fun H1 w a m bt nw na nm d1 d2 d3 hf hw ha hm => ⟨rfl, ?_⟩⟩
    have s1 : Same H H1 := fun x o hx => bt _ _ (s0 _ _ hx) (ne_of_none hx nf)
    have nwH := s0.free nw
    have naH := s0.free na
    have nmH := s0.free nm
    have hMH : ∀ {x : Addr} {o : HO}, H x = some o → x ∉ [w, a, m] := fun {x o} hx e => by
      simp only [List.mem_cons, List.not_mem_nil, or_false] at e
      rcases e with e | e | e <;> subst e
      · rw [nwH] at hx; cases hx
      · rw [naH] at hx; cases hx
      · rw [nmH] at hx; cases hx
    refine ⟨_, rfl, rd_code T (s1 _ _ hc) 3 ⟨_, rfl, rd_code T (s1 _ _ hc) 4 ⟨_, rfl, g.b, kd, t, k.rules, bs, text, rfl, hbS.kp (.of s1), ht.kp (.of s1), htl, fun H2 p2 s2 np2 hp2 => ?_⟩⟩⟩
    refine ⟨g.ar, p2, k.articles, _, rfl, (har.kp nl_kp (.of s1)).kp nl_kp (.of s2), hp2, fun H3 p3 s3 hp3n hp3 => ?_⟩
    rw [← words_eq] at hp3
    have sH3 : Same H H3 := fun x o hx => s3 _ _ (s2 _ _ (s1 _ _ hx))
    have s13 : Same H1 H3 := fun x o hx => s3 _ _ (s2 _ _ hx)
    obtain ⟨xs, hp3a, hp3b⟩ := hp3
    have np3 : H1 p3 = none := by
      rcases hp3n with e | e
      · rw [e]; exact np2
      · exact s2.free e
    have hMp : p3 ∉ [w, a, m] := fun e => by
      simp only [List.mem_cons, List.not_mem_nil, or_false] at e
      rcases e with e | e | e <;> subst e
      · rw [hw] at np3; cases np3
      · rw [ha] at np3; cases np3
      · rw [hm] at np3; cases np3
    have hmw : ∀ l ∈ k.words text, l ≠ [] ∧ l.length ≤ 256 ∧ ∀ y ∈ l, y ∈ U := fun l hl => by
      rw [words_eq] at hl
      have h1 : l ∈ (Ih.parted (gapB k.rules) text).filter full := by
        revert hl
        unfold woArt
        split
        · rename_i e
          rw [e]
          split
          · exact fun h => List.mem_cons_of_mem _ h
          · exact fun h => h
        · exact fun h => h
      obtain ⟨h2, h3⟩ := List.mem_filter.mp h1
      obtain ⟨h4, h5⟩ := parted_mem _ _ _ h2
      refine ⟨?_, by omega, fun y hy => htU y (h5 y hy)⟩
      intro e
      subst e
      cases h3
    have hmn : (k.words text).length ≤ 257 := by
      rw [words_eq]
      have h1 := List.length_filter_le full (Ih.parted (gapB k.rules) text)
      have h2 := parted_len (gapB k.rules) text
      have h3 : (woArt k.articles ((Ih.parted (gapB k.rules) text).filter full)).length ≤ ((Ih.parted (gapB k.rules) text).filter full).length := by
        unfold woArt
        split
        · rename_i e
          rw [e]
          split
          · simp
          · exact Nat.le_refl _
        · exact Nat.le_refl _
      omega
    have hwl : ∀ l ∈ k.words text, (k.turned l).length ≤ 268 ∧ (∀ y ∈ k.turned l, y ∈ U) := fun l hl => by
      obtain ⟨_, h2, h3⟩ := hmw l hl
      rw [turned_eq]
      unfold turnedB
      split
      · rename_i x hx
        have hxm := List.mem_of_find?_eq_some hx
        have := hG.tn12 x hxm
        refine ⟨by rw [List.length_append, List.length_drop]; omega, fun y hy => ?_⟩
        rcases List.mem_append.mp hy with hy | hy
        · exact hG.tnU x hxm y hy
        · exact h3 y (List.mem_of_mem_drop hy)
      · exact ⟨by omega, h3⟩
    have hfl : ∀ l ∈ k.words text, (wiB k l).length ≤ 1072 := fun l hl => by
      have e : wiB k l = (k.turned l).flatMap (itemsB k.rules bs) := by
        unfold wiB
        congr 1
        funext c
        exact hit c
      rw [e]
      have h1 := flat_le (items_le (rules := k.rules) hS4) (k.turned l)
      have := (hwl l hl).1
      omega
    have e1 : k.filed text = ((k.words text).map fun x => Ih.elemsFrom none (wiB k x)).filter fullE := by
      unfold Ih.Code.filed Ih.Code.wordItems
      rw [List.map_map]
      rfl
    have e2 : k.accents text = accOf ((k.words text).map (wiB k)).flatten := rfl
    have e3 : k.marks text = mrkOf ((k.words text).map (wiB k)).flatten := rfl
    rw [e1, e2, e3] at q
    generalize k.words text = ms at hp3b hmw hmn hwl hfl q
    have hxM : ∀ x l, x ∈ xs → l ∈ ms → NL H3 x l → x ∉ [w, a, m] := fun x l _ hl hx e => by
      have hne := (hmw l hl).1
      have hx' : H3 x = some (.lst (vi l)) := hx
      simp only [List.mem_cons, List.not_mem_nil, or_false] at e
      have : vi l = [] := by
        rcases e with e | e | e <;> subst e
        · rw [s13 _ _ hw] at hx'; injection (Option.some.inj hx').symm
        · rw [s13 _ _ ha] at hx'; injection (Option.some.inj hx').symm
        · rw [s13 _ _ hm] at hx'; injection (Option.some.inj hx').symm
      cases l with
      | nil => exact hne rfl
      | cons y l => cases this
    have htot : ∀ i, ((ms.take i).map (wiB k)).flatten.length ≤ 1072 * 257 := fun i => by
      have : ∀ l : List Ih.Text, (∀ x ∈ l, x ∈ ms) → (l.map (wiB k)).flatten.length ≤ 1072 * l.length := fun l => by
        induction l with
        | nil => intro _; exact Nat.zero_le _
        | cons y l ih =>
          intro hy
          have h1 := ih fun x hx => hy x (List.mem_cons_of_mem _ hx)
          have h2 := hfl y (hy y List.mem_cons_self)
          rw [List.map_cons, List.flatten_cons, List.length_append, List.length_cons]
          omega
      have h1 := this (ms.take i) fun x hx => List.mem_of_mem_take hx
      rw [List.length_take] at h1
      have : min i ms.length ≤ 257 := by omega
      exact Nat.le_trans h1 (Nat.mul_le_mul_left _ this)
    have hkdM := hMH hkd0
    have hl3 := hp3b.len
    refine ⟨p3, rfl, ⟨_, .of hp3a⟩, for_list (K := K) (a := p3) (xs := refs xs) (fun i σ H' => ∃ (v : Option V) (kvs : List (Key × V)), σ = [some (.ref c), some (.ref t), some (.ref f), v] ∧ Kp (Ct [w, a, m] H3) H' ∧ H' kd = some (.dK kvs) ∧ KnownOk A U H' k.rules bs kvs ∧
      FiledX A M H' f w a m (((ms.take i).map fun x => Ih.elemsFrom none (wiB k x)).filter fullE) (accOf ((ms.take i).map (wiB k)).flatten) (mrkOf ((ms.take i).map (wiB k)).flatten)) ?_ ?_ ?_ ?_⟩
    · exact ⟨none, kvs0, rfl, .of (Ct.sub _ _), sH3 _ _ hkd0, hko0.kp (.of sH3), ⟨dx, s13 _ _ hf⟩, ⟨[], s13 _ _ hw, trivial⟩, s13 _ _ ha, s13 _ _ hm, d1, d2, d3, mL.kp (.of sH3), mL.new nwH, mL.new naH, mL.new nmH⟩
    · rintro i σ H' _ ⟨v, kvs, rfl, hk, _⟩
      exact .of (hk.lst (by rw [Ct.out hMp]; exact hp3a))
    · rintro i x σ H' hx ⟨v, kvs, rfl, hk, hkd, hko, hF⟩
      obtain ⟨y, hy, rfl⟩ := refs_of hx
      obtain ⟨l, hl, hyl⟩ := hp3b.at1 hy
      have hlm := List.mem_of_getElem? hl
      have hil : i < ms.length := (List.getElem?_eq_some_iff.mp hl).1
      have etk : ms.take (i + 1) = ms.take i ++ [l] := by rw [List.take_add_one, hl]; rfl
      have hyM := hxM y l (List.mem_of_getElem? hy) hlm hyl
      have kH : Kp H H' := fun x o hx n => hk _ _ (by rw [Ct.out (hMH hx)]; exact sH3 _ _ hx) n
      have hyl' : NL H' y l := hk.lst (by rw [Ct.out hyM]; exact hyl)
      obtain ⟨t1, t2⟩ := hwl l hlm
      refine ⟨_, rfl, _, rfl, rd_code T (kH.ins hc) 4 ⟨_, rfl, rd_code T (kH.ins hc) 2 ⟨_, rfl, g.tn, y, k.turns, l, rfl, htn.kp TurnAt.kp kH, hyl', by have := (hmw l hlm).2.1; omega, hG.tn12, fun H4 p4 s4 hp4 => ?_⟩⟩⟩
      have hp4' : NL H4 p4 (k.turned l) := hp4
      refine ⟨g.b, p4, U, k.rules, bs, k.turned l, rfl, ⟨kd, kvs, hbS.kp (kH.trans (.of s4)), s4 _ _ hkd, hko.kp (.of s4)⟩, hp4', by omega, t2, hUl, hR, hS4, fun H5 p5 as k5 hb5 np5 hp5 hP => ?_⟩
      have k05 : Kp H' H5 := (Kp.of s4).trans k5
      obtain ⟨kvs5, hkd5, hko5⟩ := hb5.known (hbS.kp (kH.trans k05))
      have hF5 := hF.kp k05
      obtain ⟨⟨dx', r1⟩, ⟨us', r2, r3⟩, r4, r5, _⟩ := id hF
      have hp5M : p5 ∉ [w, a, m] := fun e => by
        simp only [List.mem_cons, List.not_mem_nil, or_false] at e
        rcases e with e | e | e <;> subst e
        · rw [s4 _ _ r2] at np5; cases np5
        · rw [s4 _ _ r4] at np5; cases np5
        · rw [s4 _ _ r5] at np5; cases np5
      have eW : (k.turned l).flatMap (itemsB k.rules bs) = wiB k l := by
        unfold wiB
        congr 1
        funext c
        exact (hit c).symm
      rw [eW] at hP
      have ht := htot i
      have hfa := List.length_filterMap_le (fun (x : Ih.Item) => match x with
        | .letter _ a _ => some a
        | _ => none) ((ms.take i).map (wiB k)).flatten
      have hfm := List.length_filterMap_le (fun (x : Ih.Item) => match x with
        | .letter _ _ m => some m
        | _ => none) ((ms.take i).map (wiB k)).flatten
      refine ⟨f, w, a, m, p5, M, as, _, _, _, wiB k l, rfl, hF5, hp5M, hp5, hP, by have := hfl l hlm; omega, ?_, ?_, ?_, fun H6 s6 hF6 => ?_⟩
      · have := List.length_filter_le fullE ((ms.take i).map fun x => Ih.elemsFrom none (wiB k x))
        rw [List.length_map, List.length_take] at this
        omega
      · exact Nat.le_trans hfa (by omega)
      · exact Nat.le_trans hfm (by omega)
      obtain ⟨⟨dx5, q1⟩, ⟨us5, q2, q3⟩, q4, q5, _⟩ := id hF5
      have it56 : It H5 H6 := fun x o hx hi => s6 _ _ (by
        rw [Ct.out (fun e => by
          simp only [List.mem_cons, List.not_mem_nil, or_false] at e
          have q4' : H5 a = some (.lst _) := q4
          have q5' : H5 m = some (.lst _) := q5
          rcases e with e | e | e <;> subst e
          · rw [q2] at hx; cases hx; exact hi
          · rw [q4'] at hx; cases hx; exact hi
          · rw [q5'] at hx; cases hx; exact hi)]
        exact hx)
      refine ⟨_, kvs5, rfl, fun x o hx n => ?_, s6 _ _ (by rw [Ct.out hkdM]; exact hkd5), hko5.it it56, ?_⟩
      · exact s6 _ _ (by
          rw [Ct.out (Ct.get hx).1]
          exact k05 _ _ (hk _ _ hx n) n)
      · have a1 : ((ms.take i ++ [l]).map fun x => Ih.elemsFrom none (wiB k x)).filter fullE = (((ms.take i).map fun x => Ih.elemsFrom none (wiB k x)).filter fullE) ++ [Ih.elemsFrom none (wiB k l)].filter fullE := by
          rw [List.map_append, List.filter_append]
          rfl
        have a2 : accOf ((ms.take i ++ [l]).map (wiB k)).flatten = accOf ((ms.take i).map (wiB k)).flatten ++ accOf (wiB k l) := by
          unfold accOf
          rw [List.map_append, List.flatten_append, List.filterMap_append]
          simp
        have a3 : mrkOf ((ms.take i ++ [l]).map (wiB k)).flatten = mrkOf ((ms.take i).map (wiB k)).flatten ++ mrkOf (wiB k l) := by
          unfold mrkOf
          rw [List.map_append, List.flatten_append, List.filterMap_append]
          simp
        rw [etk, a1, a2, a3]
        exact hF6
    · rintro σ H' ⟨v, kvs, rfl, hk, hkd, hko, hF⟩
      have kH : Kp H H' := fun x o hx n => hk _ _ (by rw [Ct.out (hMH hx)]; exact sH3 _ _ hx) n
      rw [refs_len, hl3, List.take_length] at hF
      exact ⟨_, rfl, q _ f w a m kH ⟨bs, ⟨kd, kvs, hbS.kp kH, hkd, hko⟩, hpre, hR⟩ hF.at⟩
end
end Fp
end

section
namespace Fp
open PySem PySem.Spec PyProof.Rows L2
theorem BookK.known {A : Ad} {U : List Nat} {H : Hp} {b kd : Addr} {k : Ih.Code} {bs : List Ih.Text} (h : BookK A U H b k) (hS : BookS A H b kd k.rules bs) (hp : bs <+: k.spells) (hR : ∀ r ∈ k.rules, r.right k.rules bs = true) : ∃ kvs, H kd = some (.dK kvs) ∧ KnownOk A U H k.rules bs kvs := by
  obtain ⟨bs', ⟨kd', kvs, h1, h2, h3⟩, hp', hR'⟩ := h
  have e := book_kd hS h1
  subst e
  refine ⟨kvs, h2, fun p hpm => ?_, h3.2⟩
  obtain ⟨c, t, e, hc, ht⟩ := h3.1 p hpm
  refine ⟨c, t, e, hc, ?_⟩
  rw [← items_bk hp hR, items_bk hp' hR']
  exact ht
theorem elems_le (its : List Ih.Item) : (Ih.elemsFrom none its).length ≤ its.length := by
  rw [Fx.units_eq]
  exact Fx.units_len its
theorem woArt_le (arts ms : List Ih.Text) : (woArt arts ms).length ≤ ms.length ∧ ∀ l ∈ woArt arts ms, l ∈ ms := by
  unfold woArt
  split
  · split
    · exact ⟨by simp, fun l h => List.mem_cons_of_mem _ h⟩
    · exact ⟨Nat.le_refl _, fun l h => h⟩
  · exact ⟨Nat.le_refl _, fun l h => h⟩
theorem filed_len {U : List Nat} {k : Ih.Code} (hG : Good U k) {t : Ih.Text} (ht : t.length ≤ 256) : (k.filed t).flatten.length ≤ 300000 := by
  have hW : ∀ l ∈ k.words t, l.length ≤ 256 := fun l hl => by
    rw [words_eq] at hl
    have h1 := (woArt_le _ _).2 l hl
    have h2 := (parted_mem _ _ _ (List.mem_filter.mp h1).1).1
    omega
  have hn : (k.words t).length ≤ 257 := by
    rw [words_eq]
    have h1 := (woArt_le k.articles ((Ih.parted (gapB k.rules) t).filter full)).1
    have h2 := List.length_filter_le full (Ih.parted (gapB k.rules) t)
    have h3 := parted_len (gapB k.rules) t
    omega
  have hT : ∀ l ∈ k.words t, (wiB k l).length ≤ 1072 := fun l hl => by
    have h1 := hW l hl
    have h2 : (k.turned l).length ≤ 268 := by
      rw [turned_eq]
      unfold turnedB
      split
      · rename_i x hx
        have := hG.tn12 x (List.mem_of_find?_eq_some hx)
        rw [List.length_append, List.length_drop]
        omega
      · omega
    have e : wiB k l = (k.turned l).flatMap (itemsB k.rules k.spells) := rfl
    rw [e]
    have h3 := flat_le (items_le (rules := k.rules) hG.sp4) (k.turned l)
    omega
  have e1 : k.filed t = ((k.words t).map fun x => Ih.elemsFrom none (wiB k x)).filter fullE := by
    unfold Ih.Code.filed Ih.Code.wordItems
    rw [List.map_map]
    rfl
  rw [e1]
  generalize k.words t = ms at hn hT
  have : ∀ l : List Ih.Text, (∀ x ∈ l, x ∈ ms) → ((l.map fun x => Ih.elemsFrom none (wiB k x)).filter fullE).flatten.length ≤ 1072 * l.length := fun l => by
    induction l with
    | nil => intro _; exact Nat.zero_le _
    | cons y l ih =>
      intro hy
      have h1 := ih fun x hx => hy x (List.mem_cons_of_mem _ hx)
      have h2 := hT y (hy y List.mem_cons_self)
      have h3 := elems_le (wiB k y)
      rw [List.map_cons, List.filter_cons, List.length_cons]
      split
      · rw [List.flatten_cons, List.length_append]
        omega
      · omega
  have h1 := this ms fun x h => h
  omega
theorem accents_len {U : List Nat} {k : Ih.Code} (t : Ih.Text) : True := trivial
section
variable {P : Program} {w : World} {K : PySem.W.Frag} {mg : Str → Option Value} {base : Heap} {A : Ad}
/-! ### joined, first_level -/
def spJoined : Sp := fun vs H Q _ => ∃ (p : Addr) (M : List Addr) (ws : List (List Ih.Elem)), vs = [.ref p] ∧ Lists M H ∧ WordsAt (Ct M H) p ws ∧ ws.flatten.length ≤ 500000 ∧ ∀ H' u, Same H H' → WordAt (Ct M H') u ws.flatten → Q (.ref u) H'
theorem scJoined : FnScope ["words", "units", "word"] ["words"] (C8.fnScope (top 44)) := ⟨rfl, rfl, rfl, by decide +kernel, rfl, by decide +kernel, by decide +kernel⟩
theorem cal_joined {f : Addr} {fd : FuncData} (T : Tx K mg A) (D : C8.Def K mg "joined" (top 44) f fd) (b : Binds K fd ["words"] []) : C8.Cal P w K mg base 1 "joined" spJoined [] := by
  refine C8.cal0 D b .nil scJoined (fun vs H Q E h => ?_) (fun cdv B outer s H vs Q E hr h => ?_)
  · obtain ⟨_, _, _, rfl, _⟩ := h
    rfl
  · obtain ⟨p, M, ws, rfl, mL, ⟨us, h1, h2⟩, hl, q⟩ := h
    have nd := scJoined.nd
    refine ⟨_, pss_cons (ps_set (i := 1) nd rfl (.inl rfl) (pe_lst pa_nil))
      (pss_cons (ps_for PassesOwn.never rfl (pi_list (pv 0)) (pg_name (i := 2) nd rfl (.inl rfl))
        (pss_one (ps_expr (pe_bm PySem.F.plainAttrs_list PySem.F.slot_list_extend PySem.F.type_list_extend mt_extend (pv 1) (pa_cons (pv 2) pa_nil)))))
      (pss_one (ps_ret (pv 1)))), ?_⟩
    have h1' := (Ct.get h1).2
    have h2l := h2.len
    refine ⟨by decide, fun L nL => ⟨_, rfl, p, rfl, ⟨_, .of (Same.new nL _ _ h1')⟩, for_list (K := K) (a := p) (xs := refs us) (fun i σ H' => ∃ (v : Option V) (ds : List Addr), σ = [some (.ref p), some (.ref L), v] ∧ Same H H' ∧ H' L = some (.lst (refs ds)) ∧ All2 (UnitAt (Ct M H)) ds (ws.take i).flatten)
      ⟨none, [], rfl, Same.new nL, upd_same, trivial⟩ ?_ ?_ ?_⟩⟩
    · rintro i σ H' _ ⟨v, ds, rfl, hs, _⟩
      exact .of (hs _ _ h1')
    · rintro i x σ H' hx ⟨v, ds, rfl, hs, hL, hU⟩
      obtain ⟨y, hy, rfl⟩ := refs_of hx
      obtain ⟨m, hm, ⟨es, e1, e2⟩⟩ := h2.at1 hy
      have e1' := hs _ _ (Ct.get e1).2
      have etk : ws.take (i + 1) = ws.take i ++ [m] := by rw [List.take_add_one, hm]; rfl
      have hlen : ds.length + es.length ≤ 500000 := by
        rw [hU.len, e2.len]
        have a1 : (ws.take (i + 1)).flatten.length ≤ ws.flatten.length := by
          have := List.take_append_drop (i + 1) ws
          have e3 : ws.flatten = (ws.take (i + 1)).flatten ++ (ws.drop (i + 1)).flatten := by rw [← List.flatten_append, this]
          rw [e3, List.length_append]
          omega
        have e4 : ([m] : List (List Ih.Elem)).flatten = m := by simp
        rw [etk, List.flatten_append, List.length_append, e4] at a1
        omega
      refine ⟨_, rfl, .inl ⟨rfl, _, .of hL⟩, _, rfl, L, y, refs ds, refs es, rfl, rfl, hL, e1', by rw [refs_len, refs_len]; exact line_of (by omega), ?_⟩
      refine ⟨_, ds ++ es, rfl, fun a o ha => ?_, by rw [refs_app]; exact upd_same, ?_⟩
      · rw [upd_ne (ne_of_none ha nL)]
        exact hs _ _ ha
      · rw [etk, List.flatten_append]
        refine hU.app ?_
        simp
        exact e2
    · rintro σ H' ⟨v, ds, rfl, hs, hL, hU⟩
      rw [refs_len, h2l, List.take_length] at hU
      exact ⟨_, rfl, q _ L hs ⟨ds, by rw [Ct.out (mL.new nL)]; exact hL, hU.mono (unit_kp (.of (Ct.mono hs)))⟩⟩
def spFirst : Sp := fun vs H Q _ => ∃ (way : Nat) (p : Addr) (M : List Addr) (ws : List (List Ih.Elem)), vs = [.int (way : Int), .ref p] ∧ Lists M H ∧ WordsAt (Ct M H) p ws ∧ ws.flatten.length ≤ 500000 ∧ ∀ H' u, Same H H' → FirstAt (Ct M H') u way ws → Q (.ref u) H'
theorem scFirst : FnScope ["way", "words"] ["way", "words"] (C8.fnScope (top 43)) := ⟨rfl, rfl, rfl, by decide +kernel, rfl, by decide +kernel, by decide +kernel⟩
theorem cal_first {f : Addr} {fd : FuncData} (T : Tx K mg A) (D : C8.Def K mg "first_level" (top 43) f fd) (b : Binds K fd ["way", "words"] []) (cJ : C8.Cal P w K mg base 1 "joined" spJoined []) : C8.Cal P w K mg base 2 "first_level" spFirst [] := by
  refine C8.cal0 D b .nil scFirst (fun vs H Q E h => ?_) (fun cdv B outer s H vs Q E hr h => ?_)
  · obtain ⟨_, _, _, _, rfl, _⟩ := h
    rfl
  · obtain ⟨way, p, M, ws, rfl, mL, hW, hl, q⟩ := h
    refine ⟨_, pss_cons (ps_if (pt_cmpR op_eq (pv 0) (gl T.RIGHT_THROUGH) (nomark _)) (pss_one (ps_ret (C8.pe_c cJ hr (by decide) rfl (pa_cons (pv 1) pa_nil)))) pss_nil) (pss_one (ps_ret (pv 1))), ?_⟩
    refine ⟨_, rfl, rfl, _, rfl, ?_⟩
    rw [dec_nn]
    unfold FirstAt at q
    by_cases h : way = 1
    · rw [decide_eq_true h]
      refine iteT ⟨_, rfl, p, M, ws, rfl, mL, hW, hl, fun H' u s1 hu => q _ u s1 ?_⟩
      rw [if_pos h]
      exact hu
    · rw [decide_eq_false h]
      refine iteF ⟨_, rfl, q _ p (fun _ _ z => z) ?_⟩
      rw [if_neg h]
      exact hW
/-! ### levels_of -/
def spLevels (A : Ad) : Sp := fun vs H Q _ => ∃ (c t : Addr) (M : List Addr) (U : List Nat) (g : Gh) (k : Ih.Code) (text : Ih.Text), vs = [.ref c, .ref t] ∧ Lists M H ∧ t ∉ M ∧ CodeAt A U H c g k ∧ Good U k ∧ NL H t text ∧ text.length ≤ 256 ∧ U.length ≤ 100000 ∧ (∀ x ∈ text, x ∈ U) ∧
  ∀ H' p, Kp H H' → BookK A U H' g.b k → LevAt (Ct M H') p k text → Q (.ref p) H'
theorem scLevels : FnScope ["code", "text", "filed"] ["code", "text"] (C8.fnScope (top 41)) := ⟨rfl, rfl, rfl, by decide +kernel, rfl, by decide +kernel, by decide +kernel⟩
theorem cal_levels {f : Addr} {fd : FuncData} (T : Tx K mg A) (D : C8.Def K mg "levels_of" (top 41) f fd) (b : Binds K fd ["code", "text"] []) (cF : C8.Cal P w K mg base 7 "file_text" (spFile A) []) (cL : C8.Cal P w K mg base 2 "first_level" spFirst []) : C8.Cal P w K mg base 8 "levels_of" (spLevels A) [] := by
  refine C8.cal0 D b .nil scLevels (fun vs H Q E h => ?_) (fun cdv B outer s H vs Q E hr h => ?_)
  · obtain ⟨_, _, _, _, _, _, _, rfl, _⟩ := h
    rfl
  · obtain ⟨c, t, M, U, g, k, text, rfl, mL, htM, hC, hG, ht, htl, hUl, htU, q⟩ := h
    have nd := scLevels.nd
    refine ⟨_, pss_cons (ps_set (i := 2) nd rfl (.inl rfl) (C8.pe_c cF hr (by decide) rfl (pa_cons (pv 0) (pa_cons (pv 1) pa_nil))))
      (pss_one (ps_ret (pe_lst (pa_cons (C8.pe_c cL hr (by decide) rfl (pa_cons (pe_fld (pv 0) rfl) (pa_cons (pe_fld (pv 2) rfl) pa_nil))) (pa_cons (pe_fld (pv 2) rfl) (pa_cons (pe_fld (pv 2) rfl) (pa_cons (pv 1) pa_nil))))))), ?_⟩
    obtain ⟨dc, hc, _⟩ := id hC.1
    refine ⟨_, rfl, _, rfl, c, t, M, U, g, k, text, rfl, mL, hC, hG, ht, htl, hUl, htU, fun H1 f w a m k1 b1 hF => ?_⟩
    obtain ⟨⟨dx, f1⟩, f2, f3, f4⟩ := hF
    have f1' := (Ct.get f1).2
    have mL1 := mL.kp k1
    refine ⟨_, rfl, rd_code T (k1.ins hc) 0 ⟨_, rfl, rd_filed T f1' 0 ⟨k.way, w, M, k.filed text, rfl, mL1, f2, Nat.le_trans (filed_len hG htl) (by decide), fun H2 u s2 hu => ?_⟩⟩⟩
    have f1a := s2 _ _ f1'
    refine ⟨_, rfl, rd_filed T f1a 1 ⟨_, rfl, rd_filed T f1a 2 ⟨_, rfl, (by show 4 ≤ sizeLine; decide), fun p np => ?_⟩⟩⟩
    have s3 : Same H1 (upd H2 p (.lst [.ref u, .ref a, .ref m, .ref t])) := fun x o hx => Same.new np _ _ (s2 _ _ hx)
    have mL2 := mL1.kp (.of s2)
    have hk3 := k1.trans (Kp.of s3)
    refine q _ p hk3 (b1.same s3) ⟨u, a, m, t, ?_, first_kp (.of (Ct.mono (Same.new np))) hu, f3.kp (.of (Ct.mono s3)), f4.kp (.of (Ct.mono s3)), ?_⟩
    · rw [Ct.out (mL2.new np)]
      exact upd_same
    · show Ct _ _ _ = _
      rw [Ct.out htM]
      exact ht.kp hk3
/-! ### levels_of_all -/
def LevK (k : Ih.Code) : Hp → Addr → Ih.Text → Prop := fun H a t => LevAt H a k t
theorem levK_kp (k : Ih.Code) {H H' : Hp} (x : Kp H H') (a : Addr) (t : Ih.Text) (h : LevK k H a t) : LevK k H' a t := lev_kp x _ _ _ h
def spAll (A : Ad) : Sp := fun vs H Q _ => ∃ (c ts : Addr) (U : List Nat) (g : Gh) (k : Ih.Code) (texts : List Ih.Text), vs = [.ref c, .ref ts] ∧ CodeAt A U H c g k ∧ Good U k ∧ LL NL H ts texts ∧ texts.length ≤ 100000 ∧ (∀ t ∈ texts, t.length ≤ 256 ∧ ∀ x ∈ t, x ∈ U) ∧ U.length ≤ 100000 ∧
  ∀ H' p, Kp H H' → BookK A U H' g.b k → LL (LevK k) H' p texts → Q (.ref p) H'
theorem scAll : FnScope ["code", "texts", "text"] ["code", "texts"] (C8.fnScope (top 42)) := ⟨rfl, rfl, rfl, by decide +kernel, rfl, by decide +kernel, by decide +kernel⟩
theorem cal_all {f : Addr} {fd : FuncData} (T : Tx K mg A) (D : C8.Def K mg "levels_of_all" (top 42) f fd) (b : Binds K fd ["code", "texts"] []) (cL : C8.Cal P w K mg base 8 "levels_of" (spLevels A) []) : C8.Cal P w K mg base 9 "levels_of_all" (spAll A) [] := by
  refine C8.cal0 D b .nil scAll (fun vs H Q E h => ?_) (fun cdv B outer s H vs Q E hr h => ?_)
  · obtain ⟨_, _, _, _, _, _, rfl, _⟩ := h
    rfl
  · obtain ⟨c, ts, U, g, k, texts, rfl, hC, hG, ⟨as, h1, h2⟩, htl, htt, hUl, q⟩ := h
    have nd := scAll.nd
    refine ⟨_, pss_one (ps_ret (pe_lc (own := [("text", 2)]) (g := gName 2) (tt := tYes) rfl nd (pi_list (pv 1))
      (blkOk_by (own := [("text", 2)]) (N := ["code", "texts", "text"]) (sc := C8.fnScope (top 42)) (by decide +kernel)) (fun _ _ _ _ _ => pg_name (i := 2) nd rfl (Or.inl rfl)) (fun _ _ _ _ _ => pts_nil)
      (fun _ _ _ _ _ => C8.pe_c cL hr (by decide) (by rfl) (pa_cons (pv 0) (pa_cons (pv 2) pa_nil))))), ?_⟩
    obtain ⟨hCS, bs, ⟨kd, kvs0, hbS, hkd0, hko0⟩, hpre, hR⟩ := id hC
    have h2l := h2.len
    refine ⟨_, rfl, ts, rfl, ⟨_, .of h1⟩, fun L nL => ?_⟩
    have hkL : kd ≠ L := ne_of_none hkd0 nL
    refine lc_list (K := K) (a := ts) (xs := refs as) (fun i H' => ∃ (ls : List Addr) (kvs : List (Key × V)), Kp H H' ∧ H' kd = some (.dK kvs) ∧ KnownOk A U H' k.rules bs kvs ∧ H' L = some (.lst (refs ls)) ∧ All2 (LevK k (Ct [L] H')) ls (texts.take i))
      ⟨[], kvs0, .of (Same.new nL), Same.new nL _ _ hkd0, hko0.kp (.of (Same.new nL)), upd_same, trivial⟩ (fun i H' _ ⟨_, _, hk, _⟩ => .of (hk.lst h1)) ?_ ?_
    · rintro i x H' hx ⟨ls, kvs, hk, hkd, hko, hL, hA⟩
      obtain ⟨y, hy, rfl⟩ := refs_of hx
      obtain ⟨t, ht, hyt⟩ := h2.at1 hy
      have htm := List.mem_of_getElem? ht
      have hil : i < texts.length := (List.getElem?_eq_some_iff.mp ht).1
      have etk : texts.take (i + 1) = texts.take i ++ [t] := by rw [List.take_add_one, ht]; rfl
      have hyL : y ≠ L := ne_of_none (show H y = some _ from hyt) nL
      have hML : Lists [L] H' := fun z hz => by
        have : z = L := by simpa using hz
        subst this
        exact ⟨_, hL⟩
      refine ⟨rfl, _, rfl, _, rfl, c, y, [L], U, g, k, t, rfl, hML, by simp; exact hyL, ⟨hCS.kp hk, bs, ⟨kd, kvs, hbS.kp hk, hkd, hko⟩, hpre, hR⟩, hG, hyt.kp hk, (htt t htm).1, hUl, (htt t htm).2, fun H2 p k2 b2 hp => ?_⟩
      have hk2 := hk.trans k2
      obtain ⟨kvs2, hkd2, hko2⟩ := b2.known (hbS.kp hk2) hpre hR
      have hL2 := k2.lst hL
      have it2 : It H2 (upd H2 L (.lst (refs ls ++ [.ref p]))) := It.updL hL2
      refine ⟨refs ls, hL2, ?_, ls ++ [p], kvs2, fun a o ha n => ?_, ?_, hko2.it it2, by rw [refs_app]; exact upd_same, ?_⟩
      · rw [refs_len, hA.len, List.length_take]
        exact line_lt (by omega)
      · rw [upd_ne (ne_of_none ha nL)]
        exact hk2 _ _ ha n
      · rw [upd_ne hkL]
        exact hkd2
      · rw [Ct.upd (by simp), etk]
        exact (hA.mono (levK_kp k (Ct.kp k2))).app ⟨hp, trivial⟩
    · rintro H' ⟨ls, kvs, hk, hkd, hko, hL, hA⟩
      rw [refs_len, h2l, List.take_length] at hA
      exact q _ L hk ⟨bs, ⟨kd, kvs, hbS.kp hk, hkd, hko⟩, hpre, hR⟩ ⟨ls, hL, hA.mono (levK_kp k (.of (Ct.sub _ _)))⟩
end
end Fp
end

section
namespace Fp
open PySem PySem.Spec PyProof.Rows L2
theorem order_at {k : Ih.Code} {a b : Ih.Text} {i : Nat} {o : Ordering} (hi : (k.levels a b)[i]? = some o) (hb : ∀ j, j < i → (k.levels a b)[j]? = some .eq) (hne : o ≠ .eq) : k.order a b = (if o = .lt then -((i : Int) + 1) else (i : Int) + 1) := by
  unfold Ih.Code.order
  generalize k.levels a b = L at hi hb
  have hil := (List.getElem?_eq_some_iff.mp hi).1
  have hiv := (List.getElem?_eq_some_iff.mp hi).2
  have e : (L.zipIdx.find? fun (x : Ordering × Nat) => x.1 != .eq) = some (o, i) := by
    rw [List.find?_eq_some_iff_getElem]
    refine ⟨by simp [hne], i, by rw [List.length_zipIdx]; exact hil, by rw [List.getElem_zipIdx, hiv, Nat.zero_add], fun j hj => ?_⟩
    have hjv := (List.getElem?_eq_some_iff.mp (hb j hj)).2
    rw [List.getElem_zipIdx, hjv]
    rfl
  rw [e]
  cases o with
  | lt =>
    show (-((i + 1 : Nat) : Int)) = _
    rw [if_pos rfl]
    omega
  | eq => exact absurd rfl hne
  | gt =>
    show (((i + 1 : Nat) : Int)) = _
    rw [if_neg (by decide)]
    omega
theorem order_none {k : Ih.Code} {a b : Ih.Text} (hb : ∀ (j : Nat) (o : Ordering), (k.levels a b)[j]? = some o → o = .eq) : k.order a b = 0 := by
  unfold Ih.Code.order
  have e : ((k.levels a b).zipIdx.find? fun (x : Ordering × Nat) => x.1 != .eq) = none := by
    rw [List.find?_eq_none]
    rintro ⟨o, j⟩ hx
    have h1 := List.mem_zipIdx hx
    have h2 : (k.levels a b)[j]? = some o := by
      obtain ⟨h3, h4, h5⟩ := h1
      simp at h5 h4
      rw [h5, List.getElem?_eq_getElem]
    have := hb j o h2
    subst this
    simp
  rw [e]
theorem swap_gt (o : Ordering) : (o.swap == .lt) = (o == .gt) := by cases o <;> rfl
theorem lev_pair {K : PySem.W.Frag} {H : Hp} {k : Ih.Code} (hw : k.way ≤ 1) {a b : Ih.Text} {f ac m t f' ac' m' t' : Addr} (h1 : FirstAt H f k.way (k.filed a)) (h2 : NL H ac (k.accents a)) (h3 : NL H m (k.marks a)) (h4 : NL H t a)
    (g1 : FirstAt H f' k.way (k.filed b)) (g2 : NL H ac' (k.accents b)) (g3 : NL H m' (k.marks b)) (g4 : NL H t' b) (i : Nat) (x : V) (hx : ([V.ref f, .ref ac, .ref m, .ref t])[i]? = some x) :
    ∃ y d e o, ([V.ref f', .ref ac', .ref m', .ref t'])[i]? = some y ∧ Dp K H x d ∧ Dp K H y e ∧ PySem.W.alike d e = true ∧ d ≠ .none ∧ min d.depth e.depth < 64 ∧ PySem.W.dataLt d e = (o == .lt) ∧ PySem.W.dataLt e d = (o == .gt) ∧ (k.levels a b)[i]? = some o := by
  have gt : ∀ l l' : List Nat, PySem.W.dataLt (Fx.natsD l') (Fx.natsD l) = (Ih.rows Ih.nats l l' == .gt) := fun l l' => by
    rw [← swap_gt, ← Fx.ordT_rn.sw]
    exact Fx.ordD_nats.lt _ _
  have dp : ∀ l l' : List Nat, min (Fx.natsD l).depth (Fx.natsD l').depth < 64 := fun l l' => by
    have := Fx.depth_natsD l
    omega
  match i, hx with
  | 0, hx =>
    cases hx
    refine ⟨_, _, _, k.first (k.filed a) (k.filed b), rfl, first_dp h1, first_dp g1, Fx.firstD_al k _ _, (Fx.firstD_ne _ _).1, ?_, Fx.firstD_lt k hw _ _, ?_, rfl⟩
    · have := Fx.depth_first k.way (k.filed a)
      omega
    · rw [Fx.firstD_lt k hw, ← swap_gt]
      have := Fx.lev1_sw k a b
      unfold Fx.lev1 at this
      rw [this]
  | 1, hx =>
    cases hx
    exact ⟨_, _, _, _, rfl, h2.dp, g2.dp, Fx.ordD_nats.al _ _, nofun, dp _ _, Fx.ordD_nats.lt _ _, gt _ _, rfl⟩
  | 2, hx =>
    cases hx
    exact ⟨_, _, _, _, rfl, h3.dp, g3.dp, Fx.ordD_nats.al _ _, nofun, dp _ _, Fx.ordD_nats.lt _ _, gt _ _, rfl⟩
  | 3, hx =>
    cases hx
    exact ⟨_, _, _, _, rfl, h4.dp, g4.dp, Fx.ordD_nats.al _ _, nofun, dp _ _, Fx.ordD_nats.lt _ _, gt _ _, rfl⟩
  | n + 4, hx => simp at hx
section
variable {P : Program} {w : World} {K : PySem.W.Frag} {mg : Str → Option Value} {base : Heap} {A : Ad}
/-! ### order_of -/
def spOrder (A : Ad) : Sp := fun vs H Q _ => ∃ (c x y : Addr) (U : List Nat) (g : Gh) (k : Ih.Code) (a b : Ih.Text), vs = [.ref c, .ref x, .ref y] ∧ CodeAt A U H c g k ∧ Good U k ∧ NL H x a ∧ NL H y b ∧ a.length ≤ 256 ∧ b.length ≤ 256 ∧ U.length ≤ 100000 ∧ (∀ z ∈ a, z ∈ U) ∧ (∀ z ∈ b, z ∈ U) ∧
  ∀ H', Kp H H' → BookK A U H' g.b k → Q (.int (k.order a b)) H'
theorem scOrder : FnScope ["code", "one", "other", "rows_of_one", "rows_of_other", "at", "row"] ["code", "one", "other"] (C8.fnScope (top 40)) := ⟨rfl, rfl, rfl, by decide +kernel, rfl, by decide +kernel, by decide +kernel⟩
theorem cal_order {f : Addr} {fd : FuncData} (T : Tx K mg A) (D : C8.Def K mg "order_of" (top 40) f fd) (b : Binds K fd ["code", "one", "other"] []) (cL : C8.Cal P w K mg base 8 "levels_of" (spLevels A) []) : C8.Cal P w K mg base 9 "order_of" (spOrder A) [] := by
  refine C8.cal0 D b .nil scOrder (fun vs H Q E h => ?_) (fun cdv B outer s H vs Q E hr h => ?_)
  · obtain ⟨_, _, _, _, _, _, _, _, rfl, _⟩ := h
    rfl
  · obtain ⟨c, x, y, U, g, k, a, b, rfl, hC, hG, hx, hy, la, lb, hUl, haU, hbU, q⟩ := h
    have nd := scOrder.nd
    refine ⟨_, pss_cons (ps_set (i := 3) nd rfl (.inl rfl) (C8.pe_c cL hr (by decide) rfl (pa_cons (pv 0) (pa_cons (pv 1) pa_nil))))
      (pss_cons (ps_set (i := 4) nd rfl (.inl rfl) (C8.pe_c cL hr (by decide) rfl (pa_cons (pv 0) (pa_cons (pv 2) pa_nil))))
      (pss_cons (ps_for PassesOwn.never rfl (pi_enum (by rfl) T.enum (pa_cons (pv 3) pa_nil)) (pg_tup rfl (pgs_cons (pg_name (i := 5) nd rfl (.inl rfl)) (pgs_cons (pg_name (i := 6) nd rfl (.inl rfl)) pgs_nil)))
        (pss_cons (ps_if (pt_cmpR (Fr.op_ltD hr.units) (pv 6) (pe_ix ix_list (pv 4) (pv 5) (fun _ _ => rfl)) (nomark _)) (pss_one (ps_ret (pe_un un_neg (pe_op op_add (pv 5) pe_int)))) pss_nil)
        (pss_one (ps_if (pt_cmpR (Fr.op_gtD hr.units) (pv 6) (pe_ix ix_list (pv 4) (pv 5) (fun _ _ => rfl)) (nomark _)) (pss_one (ps_ret (pe_op op_add (pv 5) pe_int))) pss_nil))))
      (pss_one (ps_ret pe_int)))), ?_⟩
    refine ⟨_, rfl, _, rfl, c, x, [], U, g, k, a, rfl, nofun, by simp, hC, hG, hx, la, hUl, haU, fun H1 p k1 b1 hp => ?_⟩
    have hp1 : LevAt H1 p k a := lev_kp (.of (Ct.sub _ _)) _ _ _ hp
    refine ⟨_, rfl, _, rfl, c, y, [], U, g, k, b, rfl, nofun, by simp, ⟨hC.1.kp k1, b1⟩, hG, hy.kp k1, lb, hUl, hbU, fun H2 p' k2 b2 hp' => ?_⟩
    have hp2 : LevAt H2 p k a := lev_kp k2 _ _ _ hp1
    have hp2' : LevAt H2 p' k b := lev_kp (.of (Ct.sub _ _)) _ _ _ hp'
    have k12 := k1.trans k2
    obtain ⟨f1, a1, m1, t1, e1, e2, e3, e4, e5⟩ := hp2
    obtain ⟨f2, a2, m2, t2, g1, g2, g3, g4, g5⟩ := hp2'
    refine ⟨_, rfl, p, _, rfl, .of e1, for_enum (K := K) (a := p) (xs := [.ref f1, .ref a1, .ref m1, .ref t1]) (fun i σ H' => ∃ (v5 v6 : Option V), σ = [some (.ref c), some (.ref x), some (.ref y), some (.ref p), some (.ref p'), v5, v6] ∧ Same H2 H' ∧ ∀ j, j < i → (k.levels a b)[j]? = some .eq) ⟨none, none, rfl, fun _ _ z => z, fun j hj => by omega⟩ ?_ ?_ ?_⟩
    · rintro i σ H' ⟨v5, v6, rfl, hs, _⟩
      exact .of (hs _ _ e1)
    · rintro i z σ H' T0 hz ⟨v5, v6, rfl, hs, hall⟩ nT
      have hs3 : Same H2 (upd H' T0 (.tup [.int (i : Nat), z])) := fun a o h => Same.new nT _ _ (hs _ _ h)
      have kk := Kp.of hs3
      refine ⟨T0, _, rfl, .of upd_same, rfl, _, _, rfl, _, _, rfl, rfl, ?_⟩
      obtain ⟨z', d, e, o, z1, z2, z3, z4, z5, z6, z7, z8, z9⟩ := lev_pair (K := K) hG.way (first_kp kk e2) (e3.kp kk) (e4.kp kk) (e5.kp kk) (first_kp kk g2) (g3.kp kk) (g4.kp kk) (g5.kp kk) i z hz
      refine ⟨_, rfl, _, rfl, _, rfl, p', _, _, _, rfl, rfl, .of (hs3 _ _ g1), atI_nat z1, d, e, z2, z3, z4, z5, z6, _, rfl, ?_⟩
      rw [z7]
      have hb3 : BookK A U (upd H' T0 (.tup [.int (i : Nat), z])) g.b k := b2.same hs3
      have hk3 := k12.trans kk
      cases o with
      | lt =>
        have eo := order_at z9 hall nofun
        rw [if_pos rfl] at eo
        rw [eo] at q
        exact iteT ⟨_, rfl, _, _, rfl, rfl, _, rfl, q _ hk3 hb3⟩
      | eq =>
        refine iteF ⟨_, rfl, _, rfl, _, rfl, p', _, _, _, rfl, rfl, .of (hs3 _ _ g1), atI_nat z1, d, e, z2, z3, z4, z5, z6, _, rfl, ?_⟩
        rw [z8]
        refine iteF ⟨_, _, rfl, hs3, fun j hj => ?_⟩
        by_cases hji : j = i
        · subst hji
          exact z9
        · exact hall j (by omega)
      | gt =>
        refine iteF ⟨_, rfl, _, rfl, _, rfl, p', _, _, _, rfl, rfl, .of (hs3 _ _ g1), atI_nat z1, d, e, z2, z3, z4, z5, z6, _, rfl, ?_⟩
        rw [z8]
        have eo := order_at z9 hall nofun
        rw [if_neg nofun] at eo
        rw [eo] at q
        exact iteT ⟨_, rfl, _, _, rfl, rfl, q _ hk3 hb3⟩
    · rintro σ H' ⟨v5, v6, rfl, hs, hall⟩
      have eo : k.order a b = 0 := order_none fun j o ho => by
        have hj : j < 4 := (List.getElem?_eq_some_iff.mp ho).1
        have := hall j hj
        rw [ho] at this
        exact Option.some.inj this
      rw [eo] at q
      exact q _ (k12.trans (.of hs)) (b2.same hs)
/-! ### is_filed -/
def spIsFiled : Sp := fun vs H Q _ => ∃ (ls : Addr) (k : Ih.Code) (texts : List Ih.Text), vs = [.ref ls] ∧ LL (LevK k) H ls texts ∧ k.way ≤ 1 ∧ texts.length ≤ 100000 ∧ Q (.bl (IhFiling.isFiled k texts)) H
theorem scIsFiled : FnScope ["levels", "number"] ["levels"] (C8.fnScope (top 46)) := ⟨rfl, rfl, rfl, by decide +kernel, rfl, by decide +kernel, by decide +kernel⟩
theorem cal_isfiled {f : Addr} {fd : FuncData} (T : Tx K mg A) (D : C8.Def K mg "is_filed" (top 46) f fd) (b : Binds K fd ["levels"] []) : C8.Cal P w K mg base 1 "is_filed" spIsFiled [] := by
  refine C8.cal0 D b .nil scIsFiled (fun vs H Q E h => ?_) (fun cdv B outer s H vs Q E hr h => ?_)
  · obtain ⟨_, _, _, rfl, _⟩ := h
    rfl
  · obtain ⟨ls, k, texts, rfl, ⟨as, h1, h2⟩, hw, hl, q⟩ := h
    have nd := scIsFiled.nd
    refine ⟨_, pss_cons (ps_for PassesOwn.never rfl (pi_range2 (by rfl) T.range (pa_cons pe_int (pa_cons (pe_callB cr_len (by rfl) T.len PySem.boot_len (pa_cons (pv 0) pa_nil)) pa_nil))) (pg_name (i := 1) nd rfl (.inl rfl))
        (pss_one (ps_if (pt_cmpR (Fr.op_ltD hr.units) (pe_ix ix_list (pv 0) (pv 1) (fun _ _ => rfl)) (pe_ix ix_list (pv 0) (pe_op op_sub (pv 1) pe_int) (fun _ _ => rfl)) (nomark _)) (pss_one (ps_ret pe_bl)) pss_nil)))
      (pss_one (ps_ret pe_bl)), ?_⟩
    have h2l := h2.len
    have hrl : (refs as).length = texts.length := by rw [refs_len, h2l]
    refine ⟨_, rfl, ls, _, rfl, .inl (.of h1), 1, _, rfl, ⟨by decide, by decide, by rw [hrl]; omega, by rw [hrl]; omega⟩, for_range (lo := 1) (n := (((refs as).length : Int) - 1).toNat) (fun i σ H' => H' = H ∧ (∃ v, σ = [some (.ref ls), v]) ∧ ∀ j a b, j < i → texts[j]? = some a → texts[j + 1]? = some b → Fx.levO k a b ≠ .gt) ⟨rfl, ⟨none, rfl⟩, fun j a b hj => by omega⟩ ?_ ?_⟩
    · rintro i σ H' hi ⟨rfl, ⟨v, rfl⟩, hall⟩
      rw [hrl] at hi
      have hil : i + 1 < texts.length := by omega
      have t1 : texts[i]? = some (texts[i]'(by omega)) := List.getElem?_eq_getElem _
      have t2 : texts[i + 1]? = some (texts[i + 1]'hil) := List.getElem?_eq_getElem _
      obtain ⟨a1, e1, l1⟩ := h2.at2 t1
      obtain ⟨a2, e2, l2⟩ := h2.at2 t2
      have i1 : (1 : Int) + (i : Nat) = ((i + 1 : Nat) : Int) := by omega
      have i2 : (1 : Int) + (i : Nat) - 1 = ((i : Nat) : Int) := by omega
      refine ⟨_, rfl, _, rfl, ls, _, _, _, rfl, rfl, .of h1, (by rw [i1]; exact atI_nat (refs_at' e2)), _, rfl, _, rfl, _, _, rfl, rfl, ls, _, _, _, rfl, rfl, .of h1, (by show atI _ ((1 : Int) + (i : Nat) - 1) = _; rw [i2]; exact atI_nat (refs_at' e1)), _, _, lev_dp l2, lev_dp l1, Fx.levD_al k _ _, nofun, ?_, _, rfl, ?_⟩
      · have := Fx.depth_lev k (texts[i + 1]'hil)
        omega
      · rw [Fx.levD_lt k hw]
        have esw := Fx.levO_sw k (texts[i]'(by omega)) (texts[i + 1]'hil)
        cases e : Fx.levO k (texts[i]'(by omega)) (texts[i + 1]'hil) with
        | gt =>
          rw [e] at esw
          rw [esw]
          refine iteT ?_
          have : IhFiling.isFiled k texts = false := by
            cases e3 : IhFiling.isFiled k texts with
            | false => rfl
            | true => exact absurd e ((Fx.filed_iff k texts).mp e3 i _ _ t1 t2)
          rw [this] at q
          exact q
        | lt =>
          rw [e] at esw
          rw [esw]
          refine iteF ⟨rfl, ⟨_, rfl⟩, fun j a b hj ha hb => ?_⟩
          by_cases hji : j = i
          · subst hji
            rw [t1] at ha
            rw [t2] at hb
            cases ha
            cases hb
            rw [e]
            exact nofun
          · exact hall j a b (by omega) ha hb
        | eq =>
          rw [e] at esw
          rw [esw]
          refine iteF ⟨rfl, ⟨_, rfl⟩, fun j a b hj ha hb => ?_⟩
          by_cases hji : j = i
          · subst hji
            rw [t1] at ha
            rw [t2] at hb
            cases ha
            cases hb
            rw [e]
            exact nofun
          · exact hall j a b (by omega) ha hb
    · rintro σ H' ⟨rfl, ⟨v, rfl⟩, hall⟩
      rw [hrl] at hall
      have : IhFiling.isFiled k texts = true := (Fx.filed_iff k texts).mpr fun i a b ha hb => hall i a b (by
        have := (List.getElem?_eq_some_iff.mp hb).1
        omega) ha hb
      rw [this] at q
      exact q
end
end Fp
end

section
namespace Fp
open PySem PySem.Spec PyProof.Rows L2
open LamX (TabB TabS ExtN CodeO)
open NdefX (TabN)
theorem sort_congr {α : Type} {r s : α → α → Bool} {l : List α} (h : ∀ a ∈ l, ∀ b ∈ l, r a b = s a b) : l.mergeSort r = l.mergeSort s := by
  have := List.map_mergeSort (r := r) (s := s) (f := id) (l := l) (by simpa using h)
  simpa using this
theorem order_filing {k : Ih.Code} (hw : k.way ≤ 1) (texts : List Ih.Text) : Fl.orderOf (texts.map (Fx.levD k)) = IhFiling.filing k texts := by
  rw [Fx.filing_eq]
  unfold Fl.orderOf
  rw [List.length_map]
  apply sort_congr
  intro a ha b hb
  rw [List.mem_range] at ha hb
  have ga : ∀ i, i < texts.length → (texts.map (Fx.levD k)).getD i .none = Fx.levD k (texts.getD i []) := fun i hi => by
    rw [List.getD_eq_getElem?_getD, List.getD_eq_getElem?_getD, List.getElem?_map, List.getElem?_eq_getElem hi]
    rfl
  rw [PySem.W.dataLe_eq]
  show (!PySem.W.dataLt ((texts.map (Fx.levD k)).getD b .none) ((texts.map (Fx.levD k)).getD a .none)) = _
  rw [ga a ha, ga b hb, Fx.levD_lt k hw, Fx.levO_sw k (texts.getD a []) (texts.getD b [])]
  unfold Fx.leT
  cases Fx.levO k (texts.getD a []) (texts.getD b []) <;> rfl
section
variable {P : Program} {w : World} {K : PySem.W.Frag} {mg : Str → Option Value} {base : Heap} {A : Ad}
theorem cal_cd {x : Str} {st : Stmt} {f : Addr} {N ps : List Str} {k : Nat} {sp : Sp} {dV kV doc pm cdv ct oc : Value} {an od : Option Addr} {osl : Array (Option Value)}
    (lk : K.lookup f = some ⟨oc, od, .func (PySem.W.fnOf x x (C8.fnArgs st) (C8.fnBody st) (C8.fnScope st) dV kV doc pm an cdv ct), osl⟩) (hcd : PySem.W.codeIn K cdv x = true) (hm : mg x = some (.ref f)) (kp : PySem.W.keepIn K (.ref f) = true)
    (b : Binds K (PySem.W.fnOf x x (C8.fnArgs st) (C8.fnBody st) (C8.fnScope st) dV kV doc pm an cdv ct) ps []) (S : FnScope N ps (C8.fnScope st)) (len : ∀ vs H Q E, sp vs H Q E → vs.length = ps.length)
    (hbody : ∀ (A : Around) (outer : List Env) (s : Shared) (H : Hp) (vs : List V) (Q : VK) (E : XK), Room k (A.deeper (envOfC x (C8.fnScope st) s.heap.objs.size f cdv)) → sp vs H Q E →
      ∃ t, PSs (cxOf C8.CX0 P w K mg base N x (C8.fnScope st) f cdv A outer s H E).nox (C8.fnBody st) t ∧ t { nx := fun _ H' => Q .non H', rt := Q } (start N vs) H) : C8.Cal P w K mg base (k + 1) x sp [] :=
  ⟨f, _, ps, [], fn_of lk hcd S len fun A outer s H vs Q E hr hsp => by
    obtain ⟨t, h, q⟩ := hbody A outer s H vs Q E hr hsp
    exact ⟨t, h.nox, q⟩, hm, kp, b, .nil⟩
/-! ### numbers_in_order -/
def nmL : Nat → Nat → Str := fun _ _ => "numbers_in_order.<locals>.<lambda>"
def spSorted (Pt : Addr) : Sp := fun vs H Q _ => ∃ (ls : Addr) (k : Ih.Code) (texts : List Ih.Text), vs = [.ref ls] ∧ LL (LevK k) H ls texts ∧ k.way ≤ 1 ∧ texts.length ≤ 100000 ∧ TabN H Pt nmL ∧
  ∀ H' p, ExtN H H' → TabN H' Pt nmL → H p = none → H' p = some (.lst (vi (IhFiling.filing k texts))) → Q (.ref p) H'
theorem scSorted : FnScope ["levels"] ["levels"] (C8.fnScope (top 45)) := ⟨rfl, rfl, rfl, by decide +kernel, rfl, by decide +kernel, by decide +kernel⟩
theorem cal_sorted {f c Pt : Addr} {dV kV doc pm ct oc : Value} {an od : Option Addr} {osl : Array (Option Value)} (T : Tx K mg A) (TB : TabB base mg c Pt)
    (lk : K.lookup f = some ⟨oc, od, .func (PySem.W.fnOf "numbers_in_order" "numbers_in_order" (C8.fnArgs (top 45)) (C8.fnBody (top 45)) (C8.fnScope (top 45)) dV kV doc pm an (.ref c) ct), osl⟩) (hcd : PySem.W.codeIn K (.ref c) "numbers_in_order" = true) (hm : mg "numbers_in_order" = some (.ref f)) (kp : PySem.W.keepIn K (.ref f) = true)
    (b : Binds K (PySem.W.fnOf "numbers_in_order" "numbers_in_order" (C8.fnArgs (top 45)) (C8.fnBody (top 45)) (C8.fnScope (top 45)) dV kV doc pm an (.ref c) ct) ["levels"] []) : C8.Cal P w K mg base 4 "numbers_in_order" (spSorted Pt) [] := by
  refine cal_cd lk hcd hm kp b scSorted (fun vs H Q E h => ?_) (fun B outer s H vs Q E hr h => ?_)
  · obtain ⟨_, _, _, rfl, _⟩ := h
    rfl
  · obtain ⟨ls, k, texts, rfl, ⟨as, h1, h2⟩, hw, hl, hT, q⟩ := h
    refine ⟨_, pss_one (ps_ret (Fl.pe_sortLam (i := 0) (nm := nmL) rfl hr rfl T.sorted (pa_cons (pe_callTy Fl.cr_range1 (by rfl) T.range (by decide +kernel) (pa_cons (pe_callB cr_len (by rfl) T.len PySem.boot_len (pa_cons (pv 0) pa_nil)) pa_nil)) pa_nil) TB rfl (by show ("numbers_in_order.<locals>.<lambda>" : Str) = (("numbers_in_order" : Str) ++ ".<locals>.") ++ "<lambda>"; decide +kernel) rfl rfl)), ?_⟩
    have h2l := h2.len
    have hrl : (refs as).length = texts.length := by rw [refs_len, h2l]
    refine ⟨_, rfl, ls, _, rfl, .inl (.of h1), _, rfl, fun p np => ?_⟩
    have s1 : Same H (upd H p (.rng 0 ((refs as).length : Int))) := Same.new np
    have hall : All2 (LevK k (upd H p (.rng 0 ((refs as).length : Int)))) as texts := h2.mono (levK_kp k (.of s1))
    refine ⟨p, ls, refs as, texts.map (Fx.levD k), rfl, upd_same, rfl, s1 _ _ h1, dp_refs (fun a b h => lev_dp h) hall, ?_, ?_, ?_, hT.ext s1, fun H2 p2 e2 n2 t2 np2 => ?_⟩
    · intro d hd d' hd'
      obtain ⟨x, _, rfl⟩ := List.mem_map.mp hd
      obtain ⟨y, _, rfl⟩ := List.mem_map.mp hd'
      exact Fx.levD_al k x y
    · right
      intro d hd
      obtain ⟨x, _, rfl⟩ := List.mem_map.mp hd
      exact ⟨nofun, fun _ => nofun⟩
    · intro d hd
      obtain ⟨x, _, rfl⟩ := List.mem_map.mp hd
      have := Fx.depth_lev k x
      omega
    · rw [order_filing hw]
      have hp2 : H p2 = none := by
        have := n2 _ np2
        cases e : H p2 with
        | none => rfl
        | some o => rw [s1 _ _ e] at this; cases this
      have tu : Same H2 (upd H2 p2 (.lst (vi (IhFiling.filing k texts)))) := Same.new np2
      exact q _ p2 (fun b o hb n => tu _ _ (e2 _ _ (s1 _ _ hb) n)) (t2.ext tu) hp2 upd_same
end
end Fp
end

section
namespace Fp
open PySem PySem.Spec PyProof.Rows L2
theorem take_pre {α : Type} [DecidableEq α] [BEq α] [LawfulBEq α] : ∀ (f m : List α), (decide (m.take f.length = f)) = f.isPrefixOf m
  | [], m => by simp
  | a :: f, [] => by simp
  | a :: f, b :: m => by
    have ih := take_pre f m
    rw [List.length_cons, List.take_succ_cons, List.isPrefixOf_cons₂, ← ih]
    by_cases h : a = b
    · subst h
      simp
    · have h2 : ¬ b = a := fun z => h z.symm
      simp [h, h2]
theorem All2.takeL {α β : Type} {P : α → β → Prop} {l : List α} {m : List β} (h : All2 P l m) (i : Nat) : All2 P (l.take i) (m.take i) := h.take i
def begB (way : Nat) (q a : List (List Ih.Elem)) : Bool := if way = 1 then q.flatten.isPrefixOf a.flatten else Ih.begun q a
theorem begins_eq {k : Ih.Code} (hw : k.way ≤ 1) (q a : Ih.Text) : k.begins q a = begB k.way (k.filed q) (k.filed a) := by
  unfold Ih.Code.begins begB
  by_cases h : k.way = 1
  · rw [if_pos h, if_neg (by omega)]
  · rw [if_neg h, if_pos (by omega)]
section
variable {P : Program} {w : World} {K : PySem.W.Frag} {mg : Str → Option Value} {base : Heap} {A : Ad}
/-! ### begins_with -/
def spBegWith : Sp := fun vs H Q _ => ∃ (r f : Addr) (l m : List Ih.Elem), vs = [.ref r, .ref f] ∧ WordAt H r l ∧ WordAt H f m ∧ ∀ H', Same H H' → Q (.bl (m.isPrefixOf l)) H'
theorem scBegWith : FnScope ["row", "front"] ["row", "front"] (C8.fnScope (top 55)) := ⟨rfl, rfl, rfl, by decide +kernel, rfl, by decide +kernel, by decide +kernel⟩
theorem cal_begwith {f : Addr} {fd : FuncData} (T : Tx K mg A) (D : C8.Def K mg "begins_with" (top 55) f fd) (b : Binds K fd ["row", "front"] []) : C8.Cal P w K mg base 1 "begins_with" spBegWith [] := by
  refine C8.cal0 D b .nil scBegWith (fun vs H Q E h => ?_) (fun cdv B outer s H vs Q E hr h => ?_)
  · obtain ⟨_, _, _, _, rfl, _⟩ := h
    rfl
  · obtain ⟨r, f, l, m, rfl, ⟨as, h1, h2⟩, ⟨bs, g1, g2⟩, q⟩ := h
    refine ⟨_, pss_one (ps_ret (pe_cmpR (op_eqD hr.units) (pe_slice sl_list (pv 0) po_none (po_some (pe_callB cr_len (by rfl) T.len PySem.boot_len (pa_cons (pv 1) pa_nil)))) (pv 1) (nomark _))), ?_⟩
    refine ⟨_, rfl, _, rfl, f, _, rfl, .inl (.of g1), _, rfl, r, _, rfl, .of h1, fun p np => ?_⟩
    have hml := g2.len
    have s1 : Same H (upd H p (.lst (cutV (refs as) none (some ((refs bs).length : Int))))) := Same.new np
    have hp : (upd H p (.lst (cutV (refs as) none (some ((refs bs).length : Int))))) p = some (.lst (refs (as.take m.length))) := by
      rw [upd_same, refs_len, cut_to, refs_take, hml]
    refine ⟨_, rfl, Fx.wordD (l.take m.length), Fx.wordD m, word_dp _ _ ⟨_, hp, (h2.take m.length).mono (unit_kp (.of s1))⟩, word_dp _ _ ⟨_, s1 _ _ g1, g2.mono (unit_kp (.of s1))⟩, Fx.shaped_word _, Fx.shaped_word _, ?_⟩
    rw [Fx.eqv_word, take_pre]
    exact q _ s1
/-! ### begins_word_by_word -/
def wbwB (q a : List (List Ih.Elem)) : Bool := decide (q.length - 1 < a.length) && (decide (a.take (q.length - 1) = q.take (q.length - 1)) && (q.getD (q.length - 1) []).isPrefixOf (a.getD (q.length - 1) []))
def spWbw : Sp := fun vs H Q _ => ∃ (x y : Addr) (q a : List (List Ih.Elem)), vs = [.ref x, .ref y] ∧ WordsAt H x q ∧ WordsAt H y a ∧ q ≠ [] ∧ ∀ H', Same H H' → Q (.bl (wbwB q a)) H'
theorem scWbw : FnScope ["asked", "told", "last"] ["asked", "told"] (C8.fnScope (top 54)) := ⟨rfl, rfl, rfl, by decide +kernel, rfl, by decide +kernel, by decide +kernel⟩
theorem cal_wbw {f : Addr} {fd : FuncData} (T : Tx K mg A) (D : C8.Def K mg "begins_word_by_word" (top 54) f fd) (b : Binds K fd ["asked", "told"] []) (cB : C8.Cal P w K mg base 1 "begins_with" spBegWith []) : C8.Cal P w K mg base 2 "begins_word_by_word" spWbw [] := by
  refine C8.cal0 D b .nil scWbw (fun vs H Q E h => ?_) (fun cdv B outer s H vs Q E hr h => ?_)
  · obtain ⟨_, _, _, _, rfl, _⟩ := h
    rfl
  · obtain ⟨x, y, qs, as, rfl, ⟨xs, h1, h2⟩, ⟨ys, g1, g2⟩, hne, q⟩ := h
    have nd := scWbw.nd
    refine ⟨_, pss_cons (ps_set (i := 2) nd rfl (.inl rfl) (pe_op op_sub (pe_callB cr_len (by rfl) T.len PySem.boot_len (pa_cons (pv 0) pa_nil)) pe_int))
      (pss_one (ps_ret (pe_and (pe_cmpR op_gt (pe_callB cr_len (by rfl) T.len PySem.boot_len (pa_cons (pv 1) pa_nil)) (pv 2) (nomark _))
        (pe_and (pe_cmpR (op_eqD hr.units) (pe_slice sl_list (pv 1) po_none (po_some (pv 2))) (pe_slice sl_list (pv 0) po_none (po_some (pv 2))) (nomark _))
          (pe_one (C8.pe_c cB hr (by decide) rfl (pa_cons (pe_ix ix_list (pv 1) (pv 2) (fun _ _ => rfl)) (pa_cons (pe_ix ix_list (pv 0) (pv 2) (fun _ _ => rfl)) pa_nil))))))) ), ?_⟩
    have hl2 := h2.len
    have gl2 := g2.len
    have hq0 : 0 < qs.length := List.length_pos_iff.mpr hne
    refine ⟨_, rfl, x, _, rfl, .inl (.of h1), _, _, rfl, rfl, ?_⟩
    have el : ((refs xs).length : Int) - 1 = ((qs.length - 1 : Nat) : Int) := by rw [refs_len, hl2]; omega
    refine ⟨_, rfl, y, _, rfl, .inl (.of g1), _, rfl, _, _, rfl, rfl, _, rfl, ?_⟩
    unfold wbwB at q
    generalize hn : qs.length - 1 = n at el q
    refine ite2 (fun h0 => ?_) (fun h0 => ?_)
    · have h0' : n < as.length := by
        have z : ((refs xs).length : Int) - 1 < ((refs ys).length : Int) := by simpa using h0
        rw [refs_len, refs_len, hl2, gl2] at z
        omega
      rw [decide_eq_true h0'] at q
      refine ⟨_, rfl, _, rfl, _, rfl, y, _, rfl, .of g1, fun p np => ?_⟩
      have c1 : cutV (refs ys) none (some (((refs xs).length : Int) - 1)) = refs (ys.take n) := by rw [el, cut_to, refs_take]
      have c2 : cutV (refs xs) none (some (((refs xs).length : Int) - 1)) = refs (xs.take n) := by rw [el, cut_to, refs_take]
      have s1 : ∀ o, Same H (upd H p o) := fun o => Same.new np
      refine ⟨_, rfl, _, rfl, _, rfl, x, _, rfl, .of (s1 _ _ _ h1), fun p2 np2 => ?_⟩
      have s2 : ∀ o o', Same H (upd (upd H p o) p2 o') := fun o o' a u hu => by
        have hp2 : (upd H p o) a = some u := s1 _ _ _ hu
        rw [upd_ne (fun e => by
          subst e
          have := s1 (.lst (cutV (refs ys) none (some (((refs xs).length : Int) - 1)))) _ _ hu
          have z : (upd H p (.lst (cutV (refs ys) none (some (((refs xs).length : Int) - 1))))) a = none := np2
          rw [z] at this
          cases this)]
        exact hp2
      have hpp : p ≠ p2 := ne_of_none upd_same np2
      refine ⟨Fx.wordsD (as.take n), Fx.wordsD (qs.take n), words_dp _ _ ⟨ys.take n, ?_, (g2.take n).mono (word_kp (.of (s2 _ _)))⟩, words_dp _ _ ⟨xs.take n, ?_, (h2.take n).mono (word_kp (.of (s2 _ _)))⟩, Fx.shaped_words _, Fx.shaped_words _, ?_⟩
      · show upd _ _ _ _ = _
        rw [upd_ne hpp, upd_same, c1]
      · rw [upd_same, c2]
      · rw [Fx.eqv_words]
        refine ⟨_, rfl, ite2 (fun h1' => ?_) (fun h1' => ?_)⟩
        · have e1 : decide (as.take n = qs.take n) = true := h1'
          rw [e1] at q
          have ea : as[n]? = some (as.getD n []) := by rw [List.getD_eq_getElem?_getD, List.getElem?_eq_getElem h0']; rfl
          have eq : qs[n]? = some (qs.getD n []) := by rw [List.getD_eq_getElem?_getD, List.getElem?_eq_getElem (by omega)]; rfl
          obtain ⟨ya, hya, hyw⟩ := g2.at2 ea
          obtain ⟨xa, hxa, hxw⟩ := h2.at2 eq
          refine ⟨_, rfl, _, rfl, y, _, _, _, rfl, rfl, .of (s2 _ _ _ _ g1), (by rw [el]; exact atI_nat (refs_at' hya)), _, rfl, _, rfl, x, _, _, _, rfl, rfl, .of (s2 _ _ _ _ h1), (by rw [el]; exact atI_nat (refs_at' hxa)), ?_⟩
          exact ⟨ya, xa, _, _, rfl, word_kp (.of (s2 _ _)) _ _ hyw, word_kp (.of (s2 _ _)) _ _ hxw, fun H' s3 => q _ fun a o z => s3 _ _ (s2 _ _ _ _ z)⟩
        · have e1 : decide (as.take n = qs.take n) = false := by simpa using h1'
          rw [e1] at q
          exact q _ (s2 _ _)
    · have h0' : ¬ n < as.length := by
        have z : ¬ ((refs xs).length : Int) - 1 < ((refs ys).length : Int) := by simpa using h0
        rw [refs_len, refs_len, hl2, gl2] at z
        omega
      rw [decide_eq_false h0'] at q
      exact q _ (fun _ _ z => z)
/-! ### begins_at_first_level -/
def spBegF : Sp := fun vs H Q _ => ∃ (way : Nat) (x y : Addr) (q a : List (List Ih.Elem)), vs = [.int (way : Int), .ref x, .ref y] ∧ FirstAt H x way q ∧ FirstAt H y way a ∧ ∀ H', Same H H' → Q (.bl (begB way q a)) H'
theorem scBegF : FnScope ["way", "asked", "told"] ["way", "asked", "told"] (C8.fnScope (top 53)) := ⟨rfl, rfl, rfl, by decide +kernel, rfl, by decide +kernel, by decide +kernel⟩
theorem cal_begf {f : Addr} {fd : FuncData} (T : Tx K mg A) (D : C8.Def K mg "begins_at_first_level" (top 53) f fd) (b : Binds K fd ["way", "asked", "told"] []) (cB : C8.Cal P w K mg base 1 "begins_with" spBegWith []) (cW : C8.Cal P w K mg base 2 "begins_word_by_word" spWbw []) : C8.Cal P w K mg base 3 "begins_at_first_level" spBegF [] := by
  refine C8.cal0 D b .nil scBegF (fun vs H Q E h => ?_) (fun cdv B outer s H vs Q E hr h => ?_)
  · obtain ⟨_, _, _, _, _, rfl, _⟩ := h
    rfl
  · obtain ⟨way, x, y, qs, as, rfl, h1, h2, q⟩ := h
    refine ⟨_, pss_cons (ps_if (pt_cmpR op_eq (pv 0) (gl T.RIGHT_THROUGH) (nomark _)) (pss_one (ps_ret (C8.pe_c cB hr (by decide) rfl (pa_cons (pv 2) (pa_cons (pv 1) pa_nil))))) pss_nil)
      (pss_one (ps_ret (pe_or (pe_cmpR op_eq (pe_callB cr_len (by rfl) T.len PySem.boot_len (pa_cons (pv 1) pa_nil)) pe_int (nomark _)) (pe_one (C8.pe_c cW hr (by decide) rfl (pa_cons (pv 1) (pa_cons (pv 2) pa_nil))))))), ?_⟩
    unfold FirstAt at h1 h2
    unfold begB at q
    refine ⟨_, rfl, rfl, _, rfl, ?_⟩
    rw [dec_nn]
    by_cases h : way = 1
    · rw [if_pos h] at h1 h2 q
      rw [decide_eq_true h]
      exact iteT ⟨_, rfl, _, rfl, y, x, _, _, rfl, h2, h1, q⟩
    · rw [if_neg h] at h1 h2 q
      rw [decide_eq_false h]
      obtain ⟨xs, e1, e2⟩ := id h1
      have e2l := e2.len
      refine iteF ⟨_, rfl, x, _, rfl, .inl (.of e1), rfl, ?_⟩
      rw [Fx.begun_iff] at q
      refine ⟨_, rfl, ?_⟩
      have ee : decide (V.int ((refs xs).length : Int) = V.int 0) = qs.isEmpty := by
        have := dec_nn (refs xs).length 0
        refine this.trans ?_
        rw [refs_len, e2l]
        cases qs <;> simp
      rw [ee]
      cases hq : qs with
      | nil =>
        subst hq
        exact iteT (q _ (fun _ _ z => z))
      | cons w0 r0 =>
        rw [hq] at q h1
        exact iteF ⟨_, rfl, _, rfl, x, y, w0 :: r0, as, rfl, h1, h2, nofun, q⟩
/-! ### begins_as -/
def spBegAs (A : Ad) : Sp := fun vs H Q _ => ∃ (c x y : Addr) (U : List Nat) (g : Gh) (k : Ih.Code) (a b : Ih.Text), vs = [.ref c, .ref x, .ref y] ∧ CodeAt A U H c g k ∧ Good U k ∧ NL H x a ∧ NL H y b ∧ a.length ≤ 256 ∧ b.length ≤ 256 ∧ U.length ≤ 100000 ∧ (∀ z ∈ a, z ∈ U) ∧ (∀ z ∈ b, z ∈ U) ∧
  ∀ H', Kp H H' → BookK A U H' g.b k → Q (.bl (k.begins a b)) H'
theorem scBegAs : FnScope ["code", "question", "text"] ["code", "question", "text"] (C8.fnScope (top 52)) := ⟨rfl, rfl, rfl, by decide +kernel, rfl, by decide +kernel, by decide +kernel⟩
theorem cal_begas {f : Addr} {fd : FuncData} (T : Tx K mg A) (D : C8.Def K mg "begins_as" (top 52) f fd) (b : Binds K fd ["code", "question", "text"] []) (cL : C8.Cal P w K mg base 8 "levels_of" (spLevels A) []) (cF : C8.Cal P w K mg base 3 "begins_at_first_level" spBegF []) : C8.Cal P w K mg base 9 "begins_as" (spBegAs A) [] := by
  refine C8.cal0 D b .nil scBegAs (fun vs H Q E h => ?_) (fun cdv B outer s H vs Q E hr h => ?_)
  · obtain ⟨_, _, _, _, _, _, _, _, rfl, _⟩ := h
    rfl
  · obtain ⟨c, x, y, U, g, k, a, b, rfl, hC, hG, hx, hy, la, lb, hUl, haU, hbU, q⟩ := h
    refine ⟨_, pss_one (ps_ret (C8.pe_c cF hr (by decide) rfl (pa_cons (pe_fld (pv 0) rfl) (pa_cons (pe_ix ix_list (C8.pe_c cL hr (by decide) rfl (pa_cons (pv 0) (pa_cons (pv 1) pa_nil))) pe_int (fun _ _ => rfl)) (pa_cons (pe_ix ix_list (C8.pe_c cL hr (by decide) rfl (pa_cons (pv 0) (pa_cons (pv 2) pa_nil))) pe_int (fun _ _ => rfl)) pa_nil))))), ?_⟩
    obtain ⟨dc, hc, _⟩ := id hC.1
    refine ⟨_, rfl, rd_code T hc 0 ⟨_, rfl, _, rfl, c, x, [], U, g, k, a, rfl, nofun, by simp, hC, hG, hx, la, hUl, haU, fun H1 p k1 b1 hp => ?_⟩⟩
    obtain ⟨f1, a1, m1, t1, e1, e2, _⟩ := lev_kp (.of (Ct.sub _ _)) _ _ _ hp
    refine ⟨p, _, 0, _, rfl, rfl, .of e1, rfl, ?_⟩
    refine ⟨_, rfl, _, rfl, c, y, [], U, g, k, b, rfl, nofun, by simp, ⟨hC.1.kp k1, b1⟩, hG, hy.kp k1, lb, hUl, hbU, fun H2 p' k2 b2 hp' => ?_⟩
    obtain ⟨f2, a2, m2, t2, g1, g2, _⟩ := lev_kp (.of (Ct.sub _ _)) _ _ _ hp'
    rw [begins_eq hG.way] at q
    refine ⟨p', _, 0, _, rfl, rfl, .of g1, rfl, k.way, f1, f2, _, _, rfl, first_kp k2 e2, g2, fun H3 s3 => q _ ((k1.trans k2).trans (.of s3)) (b2.same s3)⟩
/-! ### group_of -/
def unitG (e : Ih.Elem) : Nat := if e.1 = 0 then 1 else if e.1 = 1 then 2 else 2 + e.2
def spGroupU : Sp := fun vs H Q _ => ∃ (u : Addr) (e : Ih.Elem), vs = [.ref u] ∧ UnitAt H u e ∧ Q (.int (unitG e : Nat)) H
theorem scGroupU : FnScope ["unit"] ["unit"] (C8.fnScope (top 58)) := ⟨rfl, rfl, rfl, by decide +kernel, rfl, by decide +kernel, by decide +kernel⟩
theorem cal_groupu {f : Addr} {fd : FuncData} (T : Tx K mg A) (D : C8.Def K mg "group_of_unit" (top 58) f fd) (b : Binds K fd ["unit"] []) : C8.Cal P w K mg base 1 "group_of_unit" spGroupU [] := by
  refine C8.cal0 D b .nil scGroupU (fun vs H Q E h => ?_) (fun cdv B outer s H vs Q E hr h => ?_)
  · obtain ⟨_, _, rfl, _⟩ := h
    rfl
  · obtain ⟨u, e, rfl, h1, q⟩ := h
    refine ⟨_, pss_cons (ps_if (pt_cmpR op_eq (pe_ix ix_tup (pv 0) pe_int (fun _ _ => rfl)) (gl T.RANK_OF_SIGN) (nomark _)) (pss_one (ps_ret (gl T.GROUP_OF_SIGNS))) pss_nil)
      (pss_cons (ps_if (pt_cmpR op_eq (pe_ix ix_tup (pv 0) pe_int (fun _ _ => rfl)) (gl T.RANK_OF_NUMBER) (nomark _)) (pss_one (ps_ret (gl T.GROUP_OF_NUMBERS))) pss_nil)
      (pss_one (ps_ret (pe_op op_add (gl T.GROUPS_BEFORE_LETTERS) (pe_ix ix_tup (pv 0) pe_int (fun _ _ => rfl)))))), ?_⟩
    unfold unitG at q
    refine ⟨_, rfl, u, _, 0, .int (e.1 : Nat), rfl, rfl, .of h1, rfl, rfl, _, rfl, ?_⟩
    rw [dec_nn]
    by_cases c0 : e.1 = 0
    · rw [decide_eq_true c0]
      rw [if_pos c0] at q
      exact iteT q
    rw [decide_eq_false c0]
    rw [if_neg c0] at q
    refine iteF ⟨_, rfl, u, _, 0, .int (e.1 : Nat), rfl, rfl, .of h1, rfl, rfl, _, rfl, ?_⟩
    rw [dec_nn]
    by_cases c1 : e.1 = 1
    · rw [decide_eq_true c1]
      rw [if_pos c1] at q
      exact iteT q
    · rw [decide_eq_false c1]
      rw [if_neg c1] at q
      refine iteF ⟨_, rfl, u, _, 1, .int (e.2 : Nat), rfl, rfl, .of h1, rfl, _, _, rfl, rfl, ?_⟩
      have : ((2 : Nat) : Int) + (e.2 : Nat) = ((2 + e.2 : Nat) : Int) := by omega
      show Q (.int (((2 : Nat) : Int) + (e.2 : Nat))) H
      rw [this]
      exact q
def spGroup (A : Ad) : Sp := fun vs H Q _ => ∃ (c t : Addr) (U : List Nat) (g : Gh) (k : Ih.Code) (text : Ih.Text), vs = [.ref c, .ref t] ∧ CodeAt A U H c g k ∧ Good U k ∧ NL H t text ∧ text.length ≤ 256 ∧ U.length ≤ 100000 ∧ (∀ x ∈ text, x ∈ U) ∧ ∀ H', Kp H H' → BookK A U H' g.b k → Q (.int (k.group text : Nat)) H'
theorem scGroup : FnScope ["code", "text", "words"] ["code", "text"] (C8.fnScope (top 57)) := ⟨rfl, rfl, rfl, by decide +kernel, rfl, by decide +kernel, by decide +kernel⟩
theorem group_eq {k : Ih.Code} {t : Ih.Text} : k.group t = (match k.filed t with
    | [] => 0
    | w :: _ => unitG (w.headD (0, 0))) := by
  have hne : ∀ w ∈ k.filed t, w ≠ [] := fun w hw => by
    have h := List.mem_filter.mp hw
    have := h.2
    intro e
    subst e
    cases this
  unfold Ih.Code.group
  cases e : k.filed t with
  | nil => rfl
  | cons w r =>
    rw [e] at hne
    cases w with
    | nil => exact absurd rfl (hne _ List.mem_cons_self)
    | cons x l =>
      obtain ⟨a, b⟩ := x
      show (match ((a, b) :: (l ++ r.flatten)) with
        | [] => 0
        | (0, _) :: _ => 1
        | (1, _) :: _ => 2
        | (_, w) :: _ => 2 + w) = unitG (a, b)
      unfold unitG
      match a with
      | 0 => rfl
      | 1 => rfl
      | n + 2 => simp
theorem cal_group {f : Addr} {fd : FuncData} (T : Tx K mg A) (D : C8.Def K mg "group_of" (top 57) f fd) (b : Binds K fd ["code", "text"] []) (cF : C8.Cal P w K mg base 7 "file_text" (spFile A) []) (cU : C8.Cal P w K mg base 1 "group_of_unit" spGroupU []) : C8.Cal P w K mg base 8 "group_of" (spGroup A) [] := by
  refine C8.cal0 D b .nil scGroup (fun vs H Q E h => ?_) (fun cdv B outer s H vs Q E hr h => ?_)
  · obtain ⟨_, _, _, _, _, _, rfl, _⟩ := h
    rfl
  · obtain ⟨c, t, U, g, k, text, rfl, hC, hG, ht, htl, hUl, htU, q⟩ := h
    have nd := scGroup.nd
    refine ⟨_, pss_cons (ps_set (i := 2) nd rfl (.inl rfl) (pe_fld (C8.pe_c cF hr (by decide) rfl (pa_cons (pv 0) (pa_cons (pv 1) pa_nil))) rfl))
      (pss_cons (ps_if (pt_cmpR op_eq (pe_callB cr_len (by rfl) T.len PySem.boot_len (pa_cons (pv 2) pa_nil)) pe_int (nomark _)) (pss_one (ps_ret (gl T.GROUP_OF_NOTHING))) pss_nil)
      (pss_one (ps_ret (C8.pe_c cU hr (by decide) rfl (pa_cons (pe_ix ix_list (pe_ix ix_list (pv 2) pe_int (fun _ _ => rfl)) pe_int (fun _ _ => rfl)) pa_nil))))), ?_⟩
    refine ⟨_, rfl, _, rfl, c, t, [], U, g, k, text, rfl, nofun, hC, hG, ht, htl, hUl, htU, fun H1 f w a m k1 b1 hF => ?_⟩
    obtain ⟨⟨dx, f1⟩, ⟨us, u1, u2⟩, _, _⟩ := hF
    have f1' := (Ct.get f1).2
    have u1' := (Ct.get u1).2
    have u2' := u2.mono (word_kp (.of (Ct.sub _ _)))
    have ul := u2'.len
    refine rd_filed T f1' 0 ⟨_, rfl, w, _, rfl, .inl (.of u1'), rfl, _, rfl, ?_⟩
    have ee : decide (V.int ((refs us).length : Int) = V.int 0) = (k.filed text).isEmpty := by
      have := dec_nn (refs us).length 0
      refine this.trans ?_
      rw [refs_len, ul]
      cases k.filed text <;> simp
    rw [ee]
    have q2 := q _ k1 b1
    rw [group_eq] at q2
    have hne : ∀ w ∈ k.filed text, w ≠ [] := fun w hw => by
      have h := List.mem_filter.mp hw
      have := h.2
      intro e
      subst e
      cases this
    generalize k.filed text = ws at u2' q2 hne
    cases ws with
    | nil => exact iteT q2
    | cons w0 r0 =>
      obtain ⟨x, l, rfl⟩ : ∃ x l, w0 = x :: l := by
        cases w0 with
        | nil => exact absurd rfl (hne _ List.mem_cons_self)
        | cons x l => exact ⟨x, l, rfl⟩
      obtain ⟨y, hy, ⟨zs, z1, z2⟩⟩ := u2'.at2 (i := 0) (b := x :: l) rfl
      obtain ⟨v, hv, hvu⟩ := z2.at2 (i := 0) (b := x) rfl
      refine iteF ⟨_, rfl, w, _, 0, _, rfl, rfl, .of u1', atI_nat (refs_at' hy), y, _, 0, _, rfl, rfl, .of z1, atI_nat (refs_at' hv), v, x, rfl, hvu, ?_⟩
      exact q2
end
end Fp
end

section
namespace Fp
open PySem PySem.Spec PyProof.Rows L2
section
variable {P : Program} {w : World} {K : PySem.W.Frag} {mg : Str → Option Value} {base : Heap} {A : Ad}
def ttLt (K : PySem.W.Frag) : TT := tTest (tOp (Fr.rLtD K) (tOp (rIxL K) (tVar 6) (tC (.int 0))) (tVar 3))
def ttBg (K : PySem.W.Frag) : TT := tB (tCall spBegF [] C8.E0 (tCons (tVar 0) (tCons (tVar 3) (tCons (tOp (rIxL K) (tVar 6) (tC (.int 0))) tNil))))
def spStretch : Sp := fun vs H Q _ => ∃ (qa ls : Addr) (k : Ih.Code) (qt : Ih.Text) (texts : List Ih.Text), vs = [.int (k.way : Nat), .ref qa, .ref ls] ∧ LevAt H qa k qt ∧ LL (LevK k) H ls texts ∧ k.way ≤ 1 ∧ texts.length ≤ 100000 ∧
  ∀ H' p, Same H H' → H p = none → H' p = some (.lst [.int (Fx.before k texts qt : Nat), .int ((Fx.before k texts qt : Nat) + (Fx.begunN k texts qt : Nat))]) → Q (.ref p) H'
theorem scStretch : FnScope ["way", "question", "levels", "asked", "before", "begun", "told"] ["way", "question", "levels"] (C8.fnScope (top 56)) := ⟨rfl, rfl, rfl, by decide +kernel, rfl, by decide +kernel, by decide +kernel⟩
theorem cal_stretch {f : Addr} {fd : FuncData} (T : Tx K mg A) (D : C8.Def K mg "stretch_of" (top 56) f fd) (b : Binds K fd ["way", "question", "levels"] []) (cF : C8.Cal P w K mg base 3 "begins_at_first_level" spBegF []) : C8.Cal P w K mg base 4 "stretch_of" spStretch [] := by
  refine C8.cal0 D b .nil scStretch (fun vs H Q E h => ?_) (fun cdv B outer s H vs Q E hr h => ?_)
  · obtain ⟨_, _, _, _, _, rfl, _⟩ := h
    rfl
  · obtain ⟨qa, ls, k, qt, texts, rfl, ⟨f1, a1, m1, t1, e1, e2, _⟩, ⟨as, h1, h2⟩, hw, hl, q⟩ := h
    have nd := scStretch.nd
    refine ⟨_, pss_cons (ps_set (i := 3) nd rfl (.inr rfl) (pe_ix ix_list (pv 1) pe_int (fun _ _ => rfl)))
      (pss_cons (ps_set (i := 4) nd rfl (.inl rfl) (pe_callB cr_len (by rfl) T.len PySem.boot_len (pa_cons (pe_lc (own := [("told", 6)]) (g := gName 6) (tt := ttLt K) rfl nd (pi_list (pv 2))
        (blkOk_by (own := [("told", 6)]) (N := ["way", "question", "levels", "asked", "before", "begun", "told"]) (sc := C8.fnScope (top 56)) (by decide +kernel)) (fun _ _ _ _ _ => pg_name (i := 6) nd rfl (Or.inl rfl))
        (fun _ _ _ _ _ => pts_one (pt_cmpR (Fr.op_ltD hr.units) (pe_ix ix_list (pv 6) pe_int (fun _ _ => rfl)) (pv 3) (nomark _))) (fun _ _ _ _ _ => pv 6)) pa_nil)))
      (pss_cons (ps_set (i := 5) nd rfl (.inl rfl) (pe_callB cr_len (by rfl) T.len PySem.boot_len (pa_cons (pe_lc (own := [("told", 6)]) (g := gName 6) (tt := ttBg K) rfl nd (pi_list (pv 2))
        (blkOk_by (own := [("told", 6)]) (N := ["way", "question", "levels", "asked", "before", "begun", "told"]) (sc := C8.fnScope (top 56)) (by decide +kernel)) (fun _ _ _ _ _ => pg_name (i := 6) nd rfl (Or.inl rfl))
        (fun _ _ _ _ _ => pts_one (pt_val (C8.pe_c cF hr (by decide) (by rfl) (pa_cons (pv 0) (pa_cons (pv 3) (pa_cons (pe_ix ix_list (pv 6) pe_int (fun _ _ => rfl)) pa_nil)))))) (fun _ _ _ _ _ => pv 6)) pa_nil)))
      (pss_one (ps_ret (pe_lst (pa_cons (pv 4) (pa_cons (pe_op op_add (pv 4) (pv 5)) pa_nil))))))), ?_⟩
    have h2l := h2.len
    refine ⟨_, rfl, qa, _, 0, _, rfl, rfl, .of e1, rfl, ?_⟩
    refine ⟨_, rfl, ls, rfl, ⟨_, .of h1⟩, fun L nL => lc_list (K := K) (a := ls) (xs := refs as) (fun i H' => Same H H' ∧ ∃ acc : List V, H' L = some (.lst acc) ∧ acc.length = ((texts.take i).filter fun t => Fx.lev1 k t qt == .lt).length) ⟨Same.new nL, [], upd_same, rfl⟩ (fun i H' _ z => .of (z.1 _ _ h1)) ?_ ?_⟩
    · rintro i x H' hx ⟨hs, acc, hL, hal⟩
      obtain ⟨y, hy, rfl⟩ := refs_of hx
      obtain ⟨t, ht, hyt⟩ := h2.at1 hy
      have hil : i < texts.length := (List.getElem?_eq_some_iff.mp ht).1
      have etk : texts.take (i + 1) = texts.take i ++ [t] := by rw [List.take_add_one, ht]; rfl
      obtain ⟨f2, a2, m2, t2, g1, g2, _⟩ := lev_kp (.of hs) _ _ _ hyt
      refine ⟨rfl, _, rfl, y, _, 0, _, rfl, rfl, .of g1, rfl, _, rfl, _, _, first_dp g2, first_dp (first_kp (.of hs) e2), Fx.firstD_al k _ _, (Fx.firstD_ne _ _).1, ?_, _, rfl, ?_⟩
      · have := Fx.depth_first k.way (k.filed t)
        omega
      · rw [Fx.firstD_lt k hw, etk, List.filter_append, List.length_append, List.filter_cons]
        have ec : (k.first (k.filed t) (k.filed qt) == .lt) = (Fx.lev1 k t qt == .lt) := rfl
        rw [ec]
        have hle := List.length_filter_le (fun t => Fx.lev1 k t qt == .lt) (texts.take i)
        rw [List.length_take] at hle
        cases e : (Fx.lev1 k t qt == .lt) with
        | true =>
          refine iteT ⟨_, rfl, acc, hL, line_lt (by omega), fun a o ha => ?_, _, upd_same, ?_⟩
          · rw [upd_ne (ne_of_none ha nL)]
            exact hs _ _ ha
          · rw [List.length_append, hal]
            rfl
        | false => exact iteF ⟨hs, acc, hL, hal⟩
    · rintro H1 ⟨hs, acc, hL, hal⟩
      rw [refs_len, h2l, List.take_length] at hal
      refine ⟨L, acc, rfl, .inl (.of hL), ?_⟩
      refine ⟨_, rfl, ls, rfl, ⟨_, .of (hs _ _ h1)⟩, fun L2 nL2 => lc_list (K := K) (a := ls) (xs := refs as) (fun i H' => Same H1 H' ∧ ∃ acc : List V, H' L2 = some (.lst acc) ∧ acc.length = ((texts.take i).filter (k.begins qt)).length) ⟨Same.new nL2, [], upd_same, rfl⟩ (fun i H' _ z => .of (z.1 _ _ (hs _ _ h1))) ?_ ?_⟩
      · rintro i x H' hx ⟨hs2, acc2, hL2, hal2⟩
        have hs3 : Same H H' := fun a o z => hs2 _ _ (hs _ _ z)
        obtain ⟨y, hy, rfl⟩ := refs_of hx
        obtain ⟨t, ht, hyt⟩ := h2.at1 hy
        have hil : i < texts.length := (List.getElem?_eq_some_iff.mp ht).1
        have etk : texts.take (i + 1) = texts.take i ++ [t] := by rw [List.take_add_one, ht]; rfl
        obtain ⟨f2, a2, m2, t2, g1, g2, _⟩ := lev_kp (.of hs3) _ _ _ hyt
        refine ⟨rfl, _, rfl, _, rfl, _, rfl, y, _, 0, _, rfl, rfl, .of g1, rfl, k.way, f1, f2, _, _, rfl, first_kp (.of hs3) e2, g2, fun H2 s2 => ⟨_, rfl, ?_⟩⟩
        rw [← begins_eq hw, etk, List.filter_append, List.length_append, List.filter_cons]
        have hle := List.length_filter_le (k.begins qt) (texts.take i)
        rw [List.length_take] at hle
        have hs12 : Same H1 H2 := fun a o z => s2 _ _ (hs2 _ _ z)
        cases e : k.begins qt t with
        | true =>
          refine iteT ⟨_, rfl, acc2, s2 _ _ hL2, line_lt (by omega), fun a o ha => ?_, _, upd_same, ?_⟩
          · rw [upd_ne (ne_of_none ha nL2)]
            exact hs12 _ _ ha
          · rw [List.length_append, hal2]
            rfl
        | false => exact iteF ⟨hs12, acc2, s2 _ _ hL2, hal2⟩
      · rintro H2 ⟨hs2, acc2, hL2, hal2⟩
        rw [refs_len, h2l, List.take_length] at hal2
        have hs3 : Same H H2 := fun a o z => hs2 _ _ (hs _ _ z)
        refine ⟨L2, acc2, rfl, .inl (.of hL2), ?_⟩
        refine ⟨_, rfl, _, rfl, _, rfl, _, _, rfl, rfl, (by show 2 ≤ sizeLine; decide), fun p np => ?_⟩
        have b1 : acc.length = Fx.before k texts qt := hal
        have b2 : acc2.length = Fx.begunN k texts qt := hal2
        refine q _ p (fun a o z => Same.new np _ _ (hs3 _ _ z)) (hs3.free np) ?_
        rw [upd_same, b1, b2]
end
end Fp
end

section
namespace Fn
abbrev CallN := Nat × List Nat × List (List Nat)
def row : List Nat → Option (List Nat × List Nat)
  | [] => none
  | n :: r => if n ≤ r.length then some (r.take n, r.drop n) else none
def rows : Nat → List Nat → Option (List (List Nat) × List Nat)
  | 0, r => some ([], r)
  | k + 1, r => match row r with
    | none => none
    | some (x, s) => match rows k s with
      | none => none
      | some (xs, t) => some (x :: xs, t)
def call : List Nat → Option (CallN × List Nat)
  | [] => none
  | p :: r => match row r with
    | none => none
    | some (_, []) => none
    | some (l, k :: t) => match rows k t with
      | none => none
      | some (xs, u) => some ((p, l, xs), u)
def calls : Nat → List Nat → Option (List CallN)
  | _, [] => some []
  | 0, _ :: _ => none
  | f + 1, p :: r => match call (p :: r) with
    | none => none
    | some (c, t) => match calls f t with
      | none => none
      | some cs => some (c :: cs)
def zs (l : List Nat) : List Int := l.map fun (n : Nat) => (n : Int)
def toR (c : CallN) : List (List Int) := zs (c.1 :: c.2.1) :: c.2.2.map zs
theorem row_eq (l : List Nat) : PyFlat.row (zs l) = (row l).map fun x => (zs x.1, zs x.2) := by
  cases l with
  | nil => rfl
  | cons n r =>
    show (if 0 ≤ (n : Int) ∧ (n : Int).toNat ≤ (zs r).length then some ((zs r).take (n : Int).toNat, (zs r).drop (n : Int).toNat) else none) = (if n ≤ r.length then some (r.take n, r.drop n) else none).map _
    have e : (0 ≤ (n : Int) ∧ (n : Int).toNat ≤ (zs r).length) = (n ≤ r.length) := by
      apply propext
      unfold zs
      rw [List.length_map]
      omega
    by_cases h : n ≤ r.length
    · rw [if_pos (by rw [e]; exact h), if_pos h]
      simp [zs, List.map_take, List.map_drop]
    · rw [if_neg (by rw [e]; exact h), if_neg h]
      rfl
theorem rows_eq : ∀ (k : Nat) (l : List Nat), PyFlat.rows k (zs l) = (rows k l).map fun x => (x.1.map zs, zs x.2)
  | 0, l => rfl
  | k + 1, l => by
    unfold PyFlat.rows rows
    rw [row_eq]
    cases row l with
    | none => rfl
    | some x =>
      obtain ⟨x, s⟩ := x
      simp only [Option.map_some]
      rw [rows_eq k s]
      cases rows k s with
      | none => rfl
      | some y => rfl
theorem call_eq (l : List Nat) : PyWide.call (zs l) = (call l).map fun x => (toR x.1, zs x.2) := by
  cases l with
  | nil => rfl
  | cons p r =>
    unfold call
    simp only
    show (match PyFlat.row (zs r) with
      | none => none
      | some (_, []) => none
      | some (ns, k :: t) => if 0 ≤ k then (match PyFlat.rows k.toNat t with
        | none => none
        | some (xs, u) => some (((p : Int) :: ns) :: xs, u)) else none) = _
    rw [row_eq]
    cases row r with
    | none => rfl
    | some x =>
      obtain ⟨l, t⟩ := x
      cases t with
      | nil => rfl
      | cons k t =>
        show (if 0 ≤ (k : Int) then (match PyFlat.rows (k : Int).toNat (zs t) with
          | none => none
          | some (xs, u) => some (((p : Int) :: zs l) :: xs, u)) else none) = (match rows k t with
            | none => none
            | some (xs, u) => some ((p, l, xs), u)).map _
        rw [if_pos (by omega)]
        have : (k : Int).toNat = k := by omega
        rw [this, rows_eq]
        cases rows k t with
        | none => rfl
        | some y => rfl
theorem calls_eq : ∀ (f : Nat) (l : List Nat), PyWide.calls f (zs l) = (calls f l).map fun cs => cs.map toR
  | 0, [] => rfl
  | f + 1, [] => rfl
  | 0, _ :: _ => rfl
  | f + 1, p :: r => by
    show (match PyWide.call (zs (p :: r)) with
      | none => none
      | some (c, t) => match PyWide.calls f t with
        | none => none
        | some cs => some (c :: cs)) = (match call (p :: r) with
          | none => none
          | some (c, t) => match calls f t with
            | none => none
            | some cs => some (c :: cs)).map _
    rw [call_eq]
    cases call (p :: r) with
    | none => rfl
    | some x =>
      obtain ⟨c, t⟩ := x
      simp only [Option.map_some]
      rw [calls_eq f t]
      cases calls f t with
      | none => rfl
      | some y => rfl
/-! what a parse says of the list -/
theorem row_some {l x s : List Nat} (h : row l = some (x, s)) : ∃ n r, l = n :: r ∧ n ≤ r.length ∧ x = r.take n ∧ s = r.drop n := by
  cases l with
  | nil => cases h
  | cons n r =>
    unfold row at h
    simp only at h
    by_cases c : n ≤ r.length
    · rw [if_pos c] at h
      cases h
      exact ⟨n, r, rfl, c, rfl, rfl⟩
    · rw [if_neg c] at h
      cases h
theorem rows_some {k : Nat} {l u : List Nat} {xs : List (List Nat)} (h : rows (k + 1) l = some (xs, u)) : ∃ x s ys, row l = some (x, s) ∧ rows k s = some (ys, u) ∧ xs = x :: ys := by
  unfold rows at h
  cases e : row l with
  | none => rw [e] at h; cases h
  | some y =>
    obtain ⟨x, s⟩ := y
    rw [e] at h
    simp only at h
    cases e2 : rows k s with
    | none => rw [e2] at h; cases h
    | some z =>
      obtain ⟨ys, t⟩ := z
      rw [e2] at h
      cases h
      exact ⟨x, s, ys, rfl, e2, rfl⟩
theorem rows_len : ∀ {k : Nat} {l u : List Nat} {xs : List (List Nat)}, rows k l = some (xs, u) → xs.length = k ∧ k + u.length ≤ l.length ∧ (∀ x ∈ xs, ∀ c ∈ x, c ∈ l) ∧ (∀ c ∈ u, c ∈ l) ∧ (∀ x ∈ xs, x.length ≤ l.length)
  | 0, l, u, xs, h => by
    cases h
    exact ⟨rfl, by omega, fun x hx => (by cases hx), fun c h => h, fun x hx => (by cases hx)⟩
  | k + 1, l, u, xs, h => by
    obtain ⟨x, s, ys, h1, h2, rfl⟩ := rows_some h
    obtain ⟨n, r, rfl, hn, rfl, rfl⟩ := row_some h1
    obtain ⟨i1, i2, i3, i4, i5⟩ := rows_len h2
    rw [List.length_drop] at i2
    refine ⟨by rw [List.length_cons, i1], by rw [List.length_cons]; omega, fun y hy c hc => ?_, fun c hc => List.mem_cons_of_mem _ (List.mem_of_mem_drop (i4 c hc)), fun y hy => ?_⟩
    · rcases List.mem_cons.mp hy with rfl | hy
      · exact List.mem_cons_of_mem _ (List.mem_of_mem_take hc)
      · exact List.mem_cons_of_mem _ (List.mem_of_mem_drop (i3 y hy c hc))
    · rcases List.mem_cons.mp hy with rfl | hy
      · rw [List.length_take, List.length_cons]
        omega
      · have := i5 y hy
        rw [List.length_drop] at this
        rw [List.length_cons]
        omega
theorem call_some {l u : List Nat} {c : CallN} (h : call l = some (c, u)) : ∃ r s k t, l = c.1 :: r ∧ row r = some (c.2.1, k :: t) ∧ rows k t = some (c.2.2, u) ∧ s = k :: t := by
  cases l with
  | nil => cases h
  | cons p r =>
    unfold call at h
    simp only at h
    cases e : row r with
    | none => rw [e] at h; cases h
    | some y =>
      obtain ⟨x, s⟩ := y
      rw [e] at h
      cases s with
      | nil => cases h
      | cons k t =>
        simp only at h
        cases e2 : rows k t with
        | none => rw [e2] at h; cases h
        | some z =>
          obtain ⟨ys, t2⟩ := z
          rw [e2] at h
          cases h
          exact ⟨r, k :: t, k, t, rfl, e, e2, rfl⟩
theorem calls_some {f : Nat} {p : Nat} {r : List Nat} {cs : List CallN} (h : calls f (p :: r) = some cs) : ∃ f' c t ds, f = f' + 1 ∧ call (p :: r) = some (c, t) ∧ calls f' t = some ds ∧ cs = c :: ds := by
  cases f with
  | zero => cases h
  | succ f =>
    unfold calls at h
    cases e : call (p :: r) with
    | none => rw [e] at h; cases h
    | some y =>
      obtain ⟨c, t⟩ := y
      rw [e] at h
      simp only at h
      cases e2 : calls f t with
      | none => rw [e2] at h; cases h
      | some ds =>
        rw [e2] at h
        cases h
        exact ⟨f, c, t, ds, rfl, rfl, e2, rfl⟩
theorem call_len {l u : List Nat} {c : CallN} (h : call l = some (c, u)) : u.length < l.length ∧ (∀ x ∈ u, x ∈ l) ∧ (c.1 ∈ l ∧ (∀ x ∈ c.2.1, x ∈ l) ∧ ∀ x ∈ c.2.2, x.length ≤ l.length ∧ ∀ y ∈ x, y ∈ l) ∧ c.2.2.length ≤ l.length := by
  obtain ⟨r, s, k, t, rfl, h1, h2, _⟩ := call_some h
  obtain ⟨n, r', rfl, hn, e1, e2⟩ := row_some h1
  obtain ⟨i1, i2, i3, i4, i5⟩ := rows_len h2
  have hl : t.length + 1 = r'.length - n := by
    have := congrArg List.length e2
    rw [List.length_cons, List.length_drop] at this
    exact this
  have hm : ∀ x ∈ t, x ∈ r' := fun x hx => by
    have : x ∈ r'.drop n := by rw [← e2]; exact List.mem_cons_of_mem _ hx
    exact List.mem_of_mem_drop this
  refine ⟨by simp only [List.length_cons]; omega, fun x hx => by simp [hm x (i4 x hx)], ⟨by simp, fun x hx => ?_, fun x hx => ⟨?_, fun y hy => by simp [hm y (i3 x hx y hy)]⟩⟩, ?_⟩
  · rw [e1] at hx
    simp [List.mem_of_mem_take hx]
  · have := i5 x hx
    simp only [List.length_cons]
    omega
  · rw [i1]
    simp only [List.length_cons]
    omega
theorem calls_all : ∀ {f : Nat} {l : List Nat} {cs : List CallN}, calls f l = some cs → ∀ c ∈ cs, c.1 ∈ l ∧ (∀ x ∈ c.2.1, x ∈ l) ∧ (∀ x ∈ c.2.2, x.length ≤ l.length ∧ ∀ y ∈ x, y ∈ l) ∧ c.2.2.length ≤ l.length
  | f, [], cs, h, c, hc => by
    cases f <;> cases h <;> cases hc
  | f, p :: r, cs, h, c, hc => by
    obtain ⟨f', c0, t, ds, rfl, h1, h2, rfl⟩ := calls_some h
    obtain ⟨a1, a2, ⟨a3, a4, a5⟩, a6⟩ := call_len h1
    rcases List.mem_cons.mp hc with rfl | hc
    · exact ⟨a3, a4, a5, a6⟩
    · obtain ⟨b1, b2, b3, b4⟩ := calls_all h2 c hc
      exact ⟨a2 _ b1, fun x hx => a2 _ (b2 x hx), fun x hx => ⟨by have := (b3 x hx).1; omega, fun y hy => a2 _ ((b3 x hx).2 y hy)⟩, by omega⟩
end Fn
end

section
namespace Fp
open PySem PySem.Spec PyProof.Rows L2
def callF (n : Nat) (a b : Addr) : List (Str × V) := [("number", .int (n : Nat)), ("numbers", .ref a), ("rows", .ref b)]
def CallAt (A : Ad) (H : Hp) (c : Addr) (x : Fn.CallN) : Prop := ∃ dx a b, H c = some (.ins A.call dx (callF x.1 a b)) ∧ NL H a x.2.1 ∧ LL NL H b x.2.2
theorem CallAt.kp {A : Ad} {H H' : Hp} (k : Kp H H') (c : Addr) (x : Fn.CallN) (h : CallAt A H c x) : CallAt A H' c x := by
  obtain ⟨dx, a, b, h1, h2, h3⟩ := h
  exact ⟨dx, a, b, k.ins h1, h2.kp k, h3.kp nl_kp k⟩
def readF (a : Addr) (p : Nat) : List (Str × V) := [("calls", .ref a), ("place", .int (p : Nat))]
def RdAt (A : Ad) (H : Hp) (r a : Addr) (p : Nat) : Prop := ∃ dx, H r = some (.ins A.reader dx (readF a p))
def Trk (M : List Addr) (H : Hp) : Prop := ∀ x ∈ M, ∃ o, H x = some o
theorem Trk.same {M : List Addr} {H H' : Hp} (s : Same H H') (h : Trk M H) : Trk M H' := fun x hx => by
  obtain ⟨o, e⟩ := h x hx
  exact ⟨o, s _ _ e⟩
theorem Trk.bt {M : List Addr} {H H' : Hp} {r : Addr} {o : HO} (s : Bt r H H') (e : H' r = some o) (h : Trk M H) : Trk M H' := fun x hx => by
  obtain ⟨o', e'⟩ := h x hx
  by_cases z : x = r
  · subst z
    exact ⟨o, e⟩
  · exact ⟨o', s _ _ e' z⟩
theorem Trk.new {M : List Addr} {H : Hp} {q : Addr} (h : Trk M H) (e : H q = none) : q ∉ M := fun hq => by
  obtain ⟨o, e2⟩ := h q hq
  rw [e] at e2
  cases e2
theorem Trk.lists {M : List Addr} {H : Hp} (h : Lists M H) : Trk M H := fun x hx => by
  obtain ⟨xs, e⟩ := h x hx
  exact ⟨_, e⟩
theorem sql_bt {K : PySem.W.Frag} {H H' : Hp} {r a C dx : Addr} {fs : List (Str × V)} {xs : List V} (e : H r = some (.ins C dx fs)) (b : Bt r H H') (h : SqL K H a xs) : SqL K H' a xs := by
  rcases h with (h | ⟨o, h⟩) | h
  · exact .inl (.inl (b _ _ h (ne_of h e nofun)))
  · exact .inl (.inr ⟨o, b _ _ h (ne_of h e nofun)⟩)
  · exact .inr h
theorem NL.bti {H H' : Hp} {r C dx : Addr} {fs : List (Str × V)} (e : H r = some (.ins C dx fs)) (b : Bt r H H') (a : Addr) (l : List Nat) (h : NL H a l) : NL H' a l := b _ _ h (ne_of (show H a = some _ from h) e nofun)
theorem Bt.ct {M : List Addr} {H H' : Hp} {r : Addr} (b : Bt r H H') : Bt r (Ct M H) (Ct M H') := fun x o e n => by
  rw [Ct.out (Ct.get e).1]
  exact b _ _ (Ct.get e).2 n
section
variable {P : Program} {w : World} {K : PySem.W.Frag} {mg : Str → Option Value} {base : Heap} {A : Ad}
theorem rd_reader {H : Hp} {r a : Addr} {p : Nat} {f : Str} {v : V} {G : V → Prop} (T : Tx K mg A) (h : RdAt A H r a p) (n : Nat) (g : G v) (hm : f ∈ (["calls", "place"] : List Str) := by decide +kernel) (h2 : (["calls", "place"] : List Str).findIdx? (fun x => f == x) = some n := by decide +kernel) (h3 : ((readF a p)[n]?).map (·.2) = some v := by rfl) :
    ∃ a' C dx fs v, V.ref r = .ref a' ∧ H a' = some (.ins C dx fs) ∧ Cls K C ∧ NoAttr K C f ∧ fs.lookup f = some v ∧ G v := by
  obtain ⟨dx, h⟩ := h
  exact rd_fld n h T.cReader (T.nReader f hm) rfl h2 h3 g
/-! ### Call, Reader -/
def spCallI (A : Ad) : Sp := fun vs H Q _ => ∃ (p dx a b : Addr) (n : Nat), vs = [.ref p, .int (n : Int), .ref a, .ref b] ∧ H p = some (.ins A.call dx []) ∧ Q .non (upd H p (.ins A.call dx (callF n a b)))
theorem scCallI : FnScope ["self", "number", "numbers", "rows"] ["self", "number", "numbers", "rows"] (C8.fnScope (inClass (top 60) 0)) := ⟨rfl, rfl, rfl, by decide +kernel, rfl, by decide +kernel, by decide +kernel⟩
theorem mak_call {f : Addr} {fd : FuncData} (T : Tx K mg A) (M : Mk K A.call f) (hm : mg "Call" = some (.ref A.call)) (F : C8.Fun K "__init__" "Call.__init__" (inClass (top 60) 0) f fd) (b : Binds K fd ["self", "number", "numbers", "rows"] []) : C8.Mak P w K mg base 1 "Call" A.call (spCallI A) [] := by
  refine C8.mak0 M hm F b .nil scCallI (fun vs H Q E h => ?_) (fun cdv B outer s H vs Q E hr h => ?_)
  · obtain ⟨_, _, _, _, _, rfl, _⟩ := h
    rfl
  · obtain ⟨p, dx, a, b, n, rfl, h1, q⟩ := h
    refine ⟨_, pss_cons (ps_fld (pv 0) (pv 1) rfl) (pss_cons (ps_fld (pv 0) (pv 2) rfl) (pss_one (ps_fld (pv 0) (pv 3) rfl))), ?_⟩
    refine ⟨_, rfl, _, rfl, p, A.call, dx, _, rfl, h1, T.cCall, T.nCall _ (by simp), (by show 0 < 1000; decide), ?_⟩
    rw [put_new (ns := []) rfl (by decide +kernel)]
    refine ⟨_, rfl, _, rfl, p, A.call, dx, _, rfl, upd_same, T.cCall, T.nCall _ (by simp), (by show 1 < 1000; decide), ?_⟩
    rw [upd_upd, put_new (ns := ["number"]) rfl (by decide +kernel)]
    refine ⟨_, rfl, _, rfl, p, A.call, dx, _, rfl, upd_same, T.cCall, T.nCall _ (by simp), (by show 2 < 1000; decide), ?_⟩
    rw [upd_upd, put_new (ns := ["number", "numbers"]) rfl (by decide +kernel)]
    exact q
def spReaderI (A : Ad) : Sp := fun vs H Q _ => ∃ (p dx a : Addr), vs = [.ref p, .ref a] ∧ H p = some (.ins A.reader dx []) ∧ Q .non (upd H p (.ins A.reader dx (readF a 0)))
theorem scReaderI : FnScope ["self", "calls"] ["self", "calls"] (C8.fnScope (inClass (top 61) 0)) := ⟨rfl, rfl, rfl, by decide +kernel, rfl, by decide +kernel, by decide +kernel⟩
theorem mak_reader {f : Addr} {fd : FuncData} (T : Tx K mg A) (M : Mk K A.reader f) (hm : mg "Reader" = some (.ref A.reader)) (F : C8.Fun K "__init__" "Reader.__init__" (inClass (top 61) 0) f fd) (b : Binds K fd ["self", "calls"] []) : C8.Mak P w K mg base 1 "Reader" A.reader (spReaderI A) [] := by
  refine C8.mak0 M hm F b .nil scReaderI (fun vs H Q E h => ?_) (fun cdv B outer s H vs Q E hr h => ?_)
  · obtain ⟨_, _, _, rfl, _⟩ := h
    rfl
  · obtain ⟨p, dx, a, rfl, h1, q⟩ := h
    refine ⟨_, pss_cons (ps_fld (pv 0) (pv 1) rfl) (pss_one (ps_fld (pv 0) pe_int rfl)), ?_⟩
    refine ⟨_, rfl, _, rfl, p, A.reader, dx, _, rfl, h1, T.cReader, T.nReader _ (by simp), (by show 0 < 1000; decide), ?_⟩
    rw [put_new (ns := []) rfl (by decide +kernel)]
    refine ⟨_, rfl, p, A.reader, dx, _, rfl, upd_same, T.cReader, T.nReader _ (by simp), (by show 1 < 1000; decide), ?_⟩
    rw [upd_upd, put_new (ns := ["calls"]) rfl (by decide +kernel)]
    exact q
def spMore (A : Ad) (K : PySem.W.Frag) : Sp := fun vs H Q _ => ∃ (r a : Addr) (p : Nat) (ns : List Nat), vs = [.ref r] ∧ RdAt A H r a p ∧ SqL K H a (vi ns) ∧ Q (.bl (decide (p < ns.length))) H
theorem scMore : FnScope ["self"] ["self"] (C8.fnScope (inClass (top 61) 1)) := ⟨rfl, rfl, rfl, by decide +kernel, rfl, by decide +kernel, by decide +kernel⟩
theorem met_more {f : Addr} {fd : FuncData} (T : Tx K mg A) (me : Meth K A.reader "has_more" f) (F : C8.Fun K "has_more" "Reader.has_more" (inClass (top 61) 1) f fd) (b : Binds K fd ["self"] []) : C8.Met P w K mg base 1 A.reader "has_more" (spMore A K) [] := by
  refine C8.met0 T.cReader me F b scMore (fun vs H Q E h => ?_) (fun cdv B outer s H vs Q E hr h => ?_)
  · obtain ⟨_, _, _, _, rfl, _⟩ := h
    rfl
  · obtain ⟨r, a, p, ns, rfl, h1, h2, q⟩ := h
    refine ⟨_, pss_one (ps_ret (pe_cmpR op_lt (pe_fld (pv 0) rfl) (pe_callB cr_len (by rfl) T.len PySem.boot_len (pa_cons (pe_fld (pv 0) rfl) pa_nil)) (nomark _))), ?_⟩
    refine ⟨_, rfl, rd_reader T h1 1 ⟨_, rfl, rd_reader T h1 0 ⟨a, _, rfl, .inl h2, _, _, rfl, rfl, ?_⟩⟩⟩
    have e : decide (((p : Nat) : Int) < ((vi ns).length : Int)) = decide (p < ns.length) := decide_eq_decide.mpr (by rw [vi_len]; omega)
    rw [← e] at q
    exact q
/-! ### take_number, take_row, take_rows -/
def spTakeN (A : Ad) (K : PySem.W.Frag) : Sp := fun vs H Q _ => ∃ (r a : Addr) (p n : Nat) (ns : List Nat), vs = [.ref r] ∧ RdAt A H r a p ∧ SqL K H a (vi ns) ∧ ns[p]? = some n ∧ ∀ H', Bt r H H' → RdAt A H' r a (p + 1) → Q (.int (n : Int)) H'
theorem scTakeN : FnScope ["self", "number"] ["self"] (C8.fnScope (inClass (top 61) 2)) := ⟨rfl, rfl, rfl, by decide +kernel, rfl, by decide +kernel, by decide +kernel⟩
theorem met_taken {f : Addr} {fd : FuncData} (T : Tx K mg A) (me : Meth K A.reader "take_number" f) (F : C8.Fun K "take_number" "Reader.take_number" (inClass (top 61) 2) f fd) (b : Binds K fd ["self"] []) : C8.Met P w K mg base 1 A.reader "take_number" (spTakeN A K) [] := by
  refine C8.met0 T.cReader me F b scTakeN (fun vs H Q E h => ?_) (fun cdv B outer s H vs Q E hr h => ?_)
  · obtain ⟨_, _, _, _, _, rfl, _⟩ := h
    rfl
  · obtain ⟨r, a, p, n, ns, rfl, h1, h2, h3, q⟩ := h
    have nd := scTakeN.nd
    refine ⟨_, pss_cons (ps_set (i := 1) nd rfl (.inl rfl) (pe_ix ix_list (pe_fld (pv 0) rfl) (pe_fld (pv 0) rfl) (fun _ _ => rfl))) (pss_cons (ps_fldaug (pv 0) pe_int in_add) (pss_one (ps_ret (pv 1)))), ?_⟩
    obtain ⟨dx, h1'⟩ := id h1
    refine ⟨_, rfl, rd_reader T h1 0 ⟨_, rfl, rd_reader T h1 1 ⟨a, _, _, _, rfl, rfl, h2, atI_nat (vi_at h3), ?_⟩⟩⟩
    refine ⟨_, rfl, r, A.reader, dx, _, _, rfl, h1', T.cReader, T.nReader _ (by simp), lk_of (ns := ["calls", "place"]) (n := 1) (v := .int (p : Nat)) rfl (by decide +kernel) rfl, _, _, rfl, rfl, dx, _, h1', (by show 2 < 1000; decide), ?_⟩
    rw [put_at (ns := ["calls", "place"]) (n := 1) rfl (by decide +kernel)]
    have e : ((p : Nat) : Int) + 1 = ((p + 1 : Nat) : Int) := by omega
    refine ⟨_, rfl, q _ Bt.upd ⟨dx, ?_⟩⟩
    rw [upd_same]
    show some (HO.ins A.reader dx [(_, _), (_, V.int ((p : Nat) + 1 : Int))]) = _
    rw [e]
    rfl
def spTakeR (A : Ad) (K : PySem.W.Frag) : Sp := fun vs H Q _ => ∃ (r a : Addr) (p n : Nat) (ns : List Nat), vs = [.ref r] ∧ RdAt A H r a p ∧ SqL K H a (vi ns) ∧ ns[p]? = some n ∧ p + 1 + n ≤ ns.length ∧ ns.length ≤ 100000 ∧
  ∀ H' q, Bt r H H' → RdAt A H' r a (p + 1 + n) → H q = none → NL H' q ((ns.drop (p + 1)).take n) → Q (.ref q) H'
theorem scTakeR : FnScope ["self", "length", "row"] ["self"] (C8.fnScope (inClass (top 61) 3)) := ⟨rfl, rfl, rfl, by decide +kernel, rfl, by decide +kernel, by decide +kernel⟩
theorem met_taker {f : Addr} {fd : FuncData} (T : Tx K mg A) (me : Meth K A.reader "take_row" f) (F : C8.Fun K "take_row" "Reader.take_row" (inClass (top 61) 3) f fd) (b : Binds K fd ["self"] []) (cN : C8.Met P w K mg base 1 A.reader "take_number" (spTakeN A K) []) : C8.Met P w K mg base 2 A.reader "take_row" (spTakeR A K) [] := by
  refine C8.met0 T.cReader me F b scTakeR (fun vs H Q E h => ?_) (fun cdv B outer s H vs Q E hr h => ?_)
  · obtain ⟨_, _, _, _, _, rfl, _⟩ := h
    rfl
  · obtain ⟨r, a, p, n, ns, rfl, h1, h2, h3, h4, h5, q⟩ := h
    have nd := scTakeR.nd
    refine ⟨_, pss_cons (ps_set (i := 1) nd rfl (.inl rfl) (C8.pe_mt0 cN hr (by decide) (pv 0)))
      (pss_cons (ps_set (i := 2) nd rfl (.inl rfl) (pe_slice sl_list (pe_fld (pv 0) rfl) (po_some (pe_fld (pv 0) rfl)) (po_some (pe_op op_add (pe_fld (pv 0) rfl) (pv 1)))))
      (pss_cons (ps_fldaug (pv 0) (pv 1) in_add) (pss_one (ps_ret (pv 2))))), ?_⟩
    obtain ⟨dx, h1'⟩ := id h1
    refine ⟨_, rfl, r, dx, _, rfl, h1', lk_not (ns := ["calls", "place"]) rfl (by decide +kernel), r, a, p, n, ns, rfl, h1, h2, h3, fun H1 b1 r1 => ?_⟩
    have h2a := sql_bt h1' b1 h2
    refine ⟨_, rfl, rd_reader T r1 0 ⟨_, rfl, rd_reader T r1 1 ⟨_, rfl, _, rfl, rd_reader T r1 1 ⟨_, rfl, _, _, rfl, rfl, _, rfl, a, _, rfl, h2a, fun q2 nq => ?_⟩⟩⟩⟩
    obtain ⟨dx1, r1'⟩ := id r1
    have s2 := Same.new (o := .lst (cutV (vi ns) (some ((p + 1 : Nat) : Int)) (some (((p + 1 : Nat) : Int) + (n : Int))))) nq
    have r2' := s2 _ _ r1'
    have hqr : q2 ≠ r := (ne_of_none r1' nq).symm
    refine ⟨_, rfl, r, A.reader, dx1, _, _, rfl, r2', T.cReader, T.nReader _ (by simp), lk_of (ns := ["calls", "place"]) (n := 1) (v := .int (p + 1 : Nat)) rfl (by decide +kernel) rfl, _, rfl, _, _, rfl, rfl, dx1, _, r2', (by show 2 < 1000; decide), ?_⟩
    rw [put_at (ns := ["calls", "place"]) (n := 1) rfl (by decide +kernel)]
    have e : ((p + 1 : Nat) : Int) + (n : Nat) = ((p + 1 + n : Nat) : Int) := by omega
    have nqH : H q2 = none := by
      cases e2 : H q2 with
      | none => rfl
      | some o => rw [b1 _ _ e2 hqr] at nq; cases nq
    refine ⟨_, rfl, q _ q2 ((b1.trans (Bt.of s2)).trans Bt.upd) ⟨dx1, ?_⟩ nqH ?_⟩
    · rw [upd_same]
      show some (HO.ins A.reader dx1 [(_, _), (_, V.int ((p + 1 : Nat) + (n : Nat) : Int))]) = _
      rw [e]
      rfl
    · show upd _ _ _ _ = _
      rw [upd_ne hqr]
      refine Eq.trans upd_same ?_
      rw [cut_at, vi_cut]
end
end Fp
end

section
namespace Fp
open PySem PySem.Spec PyProof.Rows L2
theorem drop_head {α : Type} {l : List α} {p : Nat} {n : α} {r : List α} (h : l.drop p = n :: r) : l[p]? = some n ∧ l.drop (p + 1) = r ∧ p + 1 + r.length = l.length := by
  have h1 : p < l.length := by
    have := congrArg List.length h
    rw [List.length_drop, List.length_cons] at this
    omega
  have h2 := List.drop_eq_getElem_cons h1
  rw [h] at h2
  injection h2 with h3 h4
  refine ⟨by rw [List.getElem?_eq_getElem h1, h3], h4.symm, ?_⟩
  rw [h4, List.length_drop]
  omega
section
variable {P : Program} {w : World} {K : PySem.W.Frag} {mg : Str → Option Value} {base : Heap} {A : Ad}
def spTakeRs (A : Ad) (K : PySem.W.Frag) : Sp := fun vs H Q _ => ∃ (r a : Addr) (M : List Addr) (p k : Nat) (ns t u : List Nat) (xs : List (List Nat)), vs = [.ref r] ∧ RdAt A H r a p ∧ SqL K H a (vi ns) ∧ ns.drop p = k :: t ∧ Fn.rows k t = some (xs, u) ∧ ns.length ≤ 100000 ∧ Trk M H ∧
  ∀ H' q p', Bt r H H' → RdAt A H' r a p' → ns.drop p' = u → p' ≤ ns.length → H q = none → LL NL (Ct M H') q xs → Q (.ref q) H'
theorem scTakeRs : FnScope ["self", "rows", "place"] ["self"] (C8.fnScope (inClass (top 61) 4)) := ⟨rfl, rfl, rfl, by decide +kernel, rfl, by decide +kernel, by decide +kernel⟩
theorem met_takers {f : Addr} {fd : FuncData} (T : Tx K mg A) (me : Meth K A.reader "take_rows" f) (F : C8.Fun K "take_rows" "Reader.take_rows" (inClass (top 61) 4) f fd) (b : Binds K fd ["self"] []) (cN : C8.Met P w K mg base 1 A.reader "take_number" (spTakeN A K) []) (cR : C8.Met P w K mg base 2 A.reader "take_row" (spTakeR A K) []) : C8.Met P w K mg base 3 A.reader "take_rows" (spTakeRs A K) [] := by
  refine C8.met0 T.cReader me F b scTakeRs (fun vs H Q E h => ?_) (fun cdv B outer s H vs Q E hr h => ?_)
  · obtain ⟨_, _, _, _, _, _, _, _, _, rfl, _⟩ := h
    rfl
  · obtain ⟨r, a, M, p, k, ns, t, u, xs, rfl, h1, h2, h3, h4, h5, hM, q⟩ := h
    have nd := scTakeRs.nd
    refine ⟨_, pss_cons (ps_set (i := 1) nd rfl (.inl rfl) (pe_lst pa_nil))
      (pss_cons (ps_for PassesOwn.never rfl (pi_range1 (by rfl) T.range (pa_cons (C8.pe_mt0 cN hr (by decide) (pv 0)) pa_nil)) (pg_name (i := 2) nd rfl (.inl rfl))
        (pss_one (ps_expr (pe_bm PySem.F.plainAttrs_list PySem.F.slot_list_append PySem.F.type_list_append mt_append (pv 1) (pa_cons (C8.pe_mt0 cR hr (by decide) (pv 0)) pa_nil)))))
      (pss_one (ps_ret (pv 1)))), ?_⟩
    obtain ⟨dx, h1'⟩ := id h1
    obtain ⟨d1, d2, d3⟩ := drop_head h3
    obtain ⟨r1, r2, _⟩ := Fn.rows_len h4
    refine ⟨by decide, fun L nL => ?_⟩
    have sL : Same H (upd H L (.lst [])) := Same.new nL
    have hrL : r ≠ L := ne_of_none h1' nL
    have hLM : L ∉ M := hM.new nL
    refine ⟨_, rfl, r, dx, _, rfl, sL _ _ h1', lk_not (ns := ["calls", "place"]) rfl (by decide +kernel), r, a, p, k, ns, rfl, ⟨dx, sL _ _ h1'⟩, sL.seq h2, d1, fun H1 b1 rd1 => ?_⟩
    have bt1 : Bt r H H1 := (Bt.of sL).trans b1
    have hL1 : H1 L = some (.lst []) := b1 _ _ upd_same (Ne.symm hrL)
    refine ⟨k, rfl, by omega, by omega, for_range (n := k) (fun i σ H' => ∃ (v : Option V) (pi : Nat) (rem : List Nat) (as : List Addr), σ = [some (.ref r), some (.ref L), v] ∧ Bt r H H' ∧ RdAt A H' r a pi ∧ ns.drop pi = rem ∧ pi ≤ ns.length ∧ Fn.rows (k - i) rem = some (xs.drop i, u) ∧
      H' L = some (.lst (refs as)) ∧ All2 (NL (Ct (L :: M) H')) as (xs.take i)) ?_ ?_ ?_⟩
    · exact ⟨none, p + 1, t, [], rfl, bt1, rd1, d2, by omega, h4, hL1, trivial⟩
    · rintro i σ H' hi ⟨v, pi, rem, as, rfl, bt, rd, hrem, hpi, hrow, hL, hA⟩
      have ek : k - i = (k - (i + 1)) + 1 := by omega
      rw [ek] at hrow
      obtain ⟨x, s1, ys, e1, e2, e3⟩ := Fn.rows_some hrow
      obtain ⟨n, rr, rfl, hn, rfl, rfl⟩ := Fn.row_some e1
      obtain ⟨c1, c2, c3⟩ := drop_head hrem
      obtain ⟨dx', rd'⟩ := id rd
      have hil : i < xs.length := by omega
      have exi : xs[i]? = some (rr.take n) := (drop_head e3).1
      have etk : xs.take (i + 1) = xs.take i ++ [rr.take n] := by rw [List.take_add_one, exi]; rfl
      refine ⟨_, rfl, .inl ⟨rfl, _, .of hL⟩, _, rfl, r, dx', _, rfl, rd', lk_not (ns := ["calls", "place"]) rfl (by decide +kernel), r, a, pi, n, ns, rfl, rd, sql_bt h1' bt h2, c1, by omega, h5, fun H2 q2 b2 rd2 nq hq => ?_⟩
      rw [c2] at hq
      have hL2 := b2 _ _ hL (Ne.symm hrL)
      have hTM : Trk (L :: M) H' := fun z hz => by
        rcases List.mem_cons.mp hz with e | hz
        · rw [e]; exact ⟨_, hL⟩
        · exact (hM.bt bt rd') z hz
      have hqM := hTM.new nq
      refine ⟨L, refs as, _, rfl, rfl, hL2, ?_, ?_⟩
      · rw [refs_len, hA.len, List.length_take]
        exact line_lt (by omega)
      · obtain ⟨dx2, rd2'⟩ := id rd2
        refine ⟨_, pi + 1 + n, rr.drop n, as ++ [q2], rfl, fun z o hz hzr => ?_, ⟨dx2, ?_⟩, ?_, by omega, ?_, by rw [refs_app]; exact upd_same, ?_⟩
        · rw [upd_ne (ne_of_none hz nL)]
          exact b2 _ _ (bt _ _ hz hzr) hzr
        · rw [upd_ne hrL]
          exact rd2'
        · rw [← c2, List.drop_drop]
        · have : xs.drop (i + 1) = ys := by
            have h6 := List.drop_drop (i := 1) (j := i) (l := xs)
            rw [e3] at h6
            rw [← h6]
            rfl
          rw [this]
          exact e2
        · rw [Ct.upd (by simp), etk]
          refine (hA.mono fun y l hy => ?_).app ⟨?_, trivial⟩
          · have hy2 : H' y = some (.lst (vi l)) := (Ct.get hy).2
            show Ct _ _ _ = _
            rw [Ct.out (Ct.get hy).1]
            exact b2 _ _ hy2 (ne_of hy2 rd' nofun)
          · show Ct _ _ _ = _
            rw [Ct.out hqM]
            exact hq
    · rintro σ H' ⟨v, pi, rem, as, rfl, bt, rd, hrem, hpi, hrow, hL, hA⟩
      rw [Nat.sub_self] at hrow
      have e1 : rem = u := by
        have z : (some (([] : List (List Nat)), rem)) = some (xs.drop k, u) := hrow
        injection z with z
        injection z
      rw [← r1, List.take_length] at hA
      subst e1
      refine ⟨_, rfl, q _ L pi bt rd hrem hpi nL ⟨as, ?_, hA.mono fun y l hy => ?_⟩⟩
      · rw [Ct.out hLM]
        exact hL
      · have hg := Ct.get hy
        show Ct _ _ _ = _
        rw [Ct.out (fun z => hg.1 (List.mem_cons_of_mem _ z))]
        exact hg.2
/-! ### single_calls -/
def spSingles (A : Ad) (K : PySem.W.Frag) : Sp := fun vs H Q _ => ∃ (a : Addr) (M : List Addr) (ns : List Nat) (f : Nat) (cs : List Fn.CallN), vs = [.ref a] ∧ SqL K H a (vi ns) ∧ ns.length ≤ 100000 ∧ Fn.calls f ns = some cs ∧ Trk M H ∧
  ∀ H' q, Same H H' → LL (CallAt A) (Ct M H') q cs → Q (.ref q) H'
theorem scSingles : FnScope ["calls", "reader", "singles", "number", "numbers"] ["calls"] (C8.fnScope (top 62)) := ⟨rfl, rfl, rfl, by decide +kernel, rfl, by decide +kernel, by decide +kernel⟩
theorem cal_singles {f : Addr} {fd : FuncData} (T : Tx K mg A) (D : C8.Def K mg "single_calls" (top 62) f fd) (b : Binds K fd ["calls"] []) (mC : C8.Mak P w K mg base 1 "Call" A.call (spCallI A) []) (mR : C8.Mak P w K mg base 1 "Reader" A.reader (spReaderI A) []) (cH : C8.Met P w K mg base 1 A.reader "has_more" (spMore A K) [])
    (cN : C8.Met P w K mg base 1 A.reader "take_number" (spTakeN A K) []) (cR : C8.Met P w K mg base 2 A.reader "take_row" (spTakeR A K) []) (cRs : C8.Met P w K mg base 3 A.reader "take_rows" (spTakeRs A K) []) : C8.Cal P w K mg base 4 "single_calls" (spSingles A K) [] := by
  refine C8.cal0 D b .nil scSingles (fun vs H Q E h => ?_) (fun cdv B outer s H vs Q E hr h => ?_)
  · obtain ⟨_, _, _, _, _, rfl, _⟩ := h
    rfl
  · obtain ⟨a, M, ns, f, cs, rfl, h1, h2, h3, hM, q⟩ := h
    have nd := scSingles.nd
    refine ⟨_, pss_cons (ps_set (i := 1) nd rfl (.inl rfl) (C8.pe_mk mR hr (by decide) rfl (pa_cons (pv 0) pa_nil)))
      (pss_cons (ps_set (i := 2) nd rfl (.inl rfl) (pe_lst pa_nil))
      (pss_cons (ps_while PassesOwn.never (pt_val (C8.pe_mt0 cH hr (by decide) (pv 1)))
        (pss_cons (ps_set (i := 3) nd rfl (.inl rfl) (C8.pe_mt0 cN hr (by decide) (pv 1)))
        (pss_cons (ps_set (i := 4) nd rfl (.inl rfl) (C8.pe_mt0 cR hr (by decide) (pv 1)))
        (pss_one (ps_expr (pe_bm PySem.F.plainAttrs_list PySem.F.slot_list_append PySem.F.type_list_append mt_append (pv 2) (pa_cons (C8.pe_mk mC hr (by decide) rfl (pa_cons (pv 3) (pa_cons (pv 4) (pa_cons (C8.pe_mt0 cRs hr (by decide) (pv 1)) pa_nil)))) pa_nil)))))))
      (pss_one (ps_ret (pv 2))))), ?_⟩
    refine ⟨_, rfl, fun r dx nr ndx ne => ?_⟩
    have s0 := same_new3 (o := .own r) (o' := .ins A.reader dx []) (u' := .ins A.reader dx (readF a 0)) nr ndx
    refine ⟨r, dx, a, rfl, upd_same, rfl, by decide, fun S nS => ?_⟩
    generalize hG : upd (upd (upd H dx (.own r)) r (.ins A.reader dx [])) r (.ins A.reader dx (readF a 0)) = G at s0 nS ⊢
    have gr : G r = some (.ins A.reader dx (readF a 0)) := by rw [← hG]; exact upd_same
    clear hG
    have hrS : r ≠ S := ne_of_none gr nS
    have nSH : H S = none := s0.free nS
    have hSM : S ∉ M := hM.new nSH
    have hrM : r ∉ M := hM.new nr
    refine ⟨fun m σ H' => ∃ (v3 v4 : Option V) (p f' : Nat) (rem : List Nat) (as : List Addr) (done more : List Fn.CallN), σ = [some (.ref a), some (.ref r), some (.ref S), v3, v4] ∧ Same H H' ∧ RdAt A H' r a p ∧ ns.drop p = rem ∧ p ≤ ns.length ∧ cs = done ++ more ∧ Fn.calls f' rem = some more ∧
      H' S = some (.lst (refs as)) ∧ All2 (CallAt A (Ct (S :: M) H')) as done ∧ done.length + rem.length ≤ ns.length ∧ m = rem.length,
      ⟨_, none, none, 0, f, ns, [], [], cs, rfl, fun b o hb => Same.new nS _ _ (s0 _ _ hb), ⟨dx, Same.new nS _ _ gr⟩, rfl, Nat.zero_le _, rfl, h3, upd_same, trivial, by simp, rfl⟩, ?_⟩
    rintro m σ H' ⟨v3, v4, p, f', rem, as, done, more, rfl, hs, rd, hrem, hp, hcs, hcl, hS, hA, hdl, rfl⟩
    obtain ⟨dx', rd'⟩ := id rd
    refine ⟨_, rfl, r, dx', _, rfl, rd', lk_not (ns := ["calls", "place"]) rfl (by decide +kernel), r, a, p, ns, rfl, rd, hs.seq h1, _, rfl, ?_⟩
    cases rem with
    | nil =>
      have hpe : ¬ p < ns.length := by
        have := congrArg List.length hrem
        rw [List.length_drop] at this
        simp at this
        omega
      rw [decide_eq_false hpe]
      have hm : more = [] := by
        cases f' <;> cases hcl <;> rfl
      subst hm
      rw [List.append_nil] at hcs
      subst hcs
      refine iteF ⟨_, rfl, q _ S hs ⟨as, ?_, hA.mono fun y c hy => ?_⟩⟩
      · rw [Ct.out hSM]
        exact hS
      · exact CallAt.kp (.of (Ct.drop (N := [S]) (M := M))) _ _ hy
    | cons n0 r0 =>
      obtain ⟨d1, d2, d3⟩ := drop_head hrem
      have hpl : p < ns.length := by omega
      rw [decide_eq_true hpl]
      obtain ⟨f2, c, t, ds, rfl, e1, e2, rfl⟩ := Fn.calls_some hcl
      have hcl2 := Fn.call_len e1
      obtain ⟨r1, _, k, t0, e3, e4, e5, _⟩ := Fn.call_some e1
      injection e3 with e3a e3b
      subst e3b
      obtain ⟨n, r', rfl, hn, e6, e7⟩ := Fn.row_some e4
      obtain ⟨g1, g2, g3⟩ := drop_head d2
      refine iteT ⟨fun σ' H3 => ∃ (v3 v4 : Option V) (p f' : Nat) (rem : List Nat) (as : List Addr) (done more : List Fn.CallN), σ' = [some (.ref a), some (.ref r), some (.ref S), v3, v4] ∧ Same H H3 ∧ RdAt A H3 r a p ∧ ns.drop p = rem ∧ p ≤ ns.length ∧ cs = done ++ more ∧ Fn.calls f' rem = some more ∧
        H3 S = some (.lst (refs as)) ∧ All2 (CallAt A (Ct (S :: M) H3)) as done ∧ done.length + rem.length ≤ ns.length ∧ rem.length < (n0 :: n :: r').length, fun σ' H3 ⟨w3, w4, p', f3, rem', as', dn, mr, a1, a2, a3, a4, a5, a6, a7, a8, a9, a10, a11⟩ => ⟨_, a11, w3, w4, p', f3, rem', as', dn, mr, a1, a2, a3, a4, a5, a6, a7, a8, a9, a10, rfl⟩, ?_⟩
      refine ⟨_, rfl, r, dx', _, rfl, rd', lk_not (ns := ["calls", "place"]) rfl (by decide +kernel), r, a, p, n0, ns, rfl, rd, hs.seq h1, d1, fun H1 b1 rd1 => ?_⟩
      have hs1 : Same H H1 := fun z o hz => b1 _ _ (hs _ _ hz) (ne_of_none hz nr)
      obtain ⟨dx1, rd1'⟩ := id rd1
      refine ⟨_, rfl, r, dx1, _, rfl, rd1', lk_not (ns := ["calls", "place"]) rfl (by decide +kernel), r, a, p + 1, n, ns, rfl, rd1, hs1.seq h1, g1, by omega, h2, fun H2 q1 b2 rd2 nq1 hq1 => ?_⟩
      rw [g2, ← e6] at hq1
      have hs2 : Same H H2 := fun z o hz => b2 _ _ (hs1 _ _ hz) (ne_of_none hz nr)
      obtain ⟨dx2, rd2'⟩ := id rd2
      have hS1 := b1 _ _ hS (Ne.symm hrS)
      have hS2 := b2 _ _ hS1 (Ne.symm hrS)
      have hTM : ∀ {X : Hp}, Same H X → (∃ o, X S = some o) → Trk (S :: M) X := fun sx hx z hz => by
        rcases List.mem_cons.mp hz with e | hz
        · rw [e]; exact hx
        · exact (hM.same sx) z hz
      have hq1M := (hTM hs1 ⟨_, hS1⟩).new nq1
      have hd5 : ns.drop (p + 1 + 1 + n) = k :: t0 := by rw [e7, ← g2, List.drop_drop]
      refine ⟨_, rfl, .inl ⟨rfl, _, .of hS2⟩, _, rfl, _, rfl, _, rfl, r, dx2, _, rfl, rd2', lk_not (ns := ["calls", "place"]) rfl (by decide +kernel), r, a, S :: M, _, k, ns, t0, t, c.2.2, rfl, rd2, hs2.seq h1, hd5, e5, h2, hTM hs2 ⟨_, hS2⟩, fun H3 q2 p3 b3 rd3 hd3 hp3 nq2 hq2 => ?_⟩
      have hs3 : Same H H3 := fun z o hz => b3 _ _ (hs2 _ _ hz) (ne_of_none hz nr)
      have hS3 := b3 _ _ hS2 (Ne.symm hrS)
      obtain ⟨dx3, rd3'⟩ := id rd3
      intro x dxx nx ndx2 nex
      have s4 := same_new3 (o := .own x) (o' := .ins A.call dxx []) (u' := .ins A.call dxx (callF n0 q1 q2)) nx ndx2
      refine ⟨x, dxx, q1, q2, n0, rfl, upd_same, rfl, ?_⟩
      generalize hG4 : upd (upd (upd H3 dxx (.own x)) x (.ins A.call dxx [])) x (.ins A.call dxx (callF n0 q1 q2)) = G4 at s4 ⊢
      have gx : G4 x = some (.ins A.call dxx (callF n0 q1 q2)) := by rw [← hG4]; exact upd_same
      clear hG4
      have hS4 := s4 _ _ hS3
      have hxM := (hTM hs3 ⟨_, hS3⟩).new nx
      refine ⟨S, refs as, _, rfl, rfl, hS4, ?_, ?_⟩
      · rw [refs_len, hA.len]
        exact line_lt (by omega)
      · have hq1r : q1 ≠ r := ne_of (show H2 q1 = some _ from hq1) rd2' nofun
        have hq13 : H3 q1 = some (.lst (vi c.2.1)) := b3 _ _ hq1 hq1r
        refine ⟨_, _, p3, f2, t, as ++ [x], done ++ [c], ds, rfl, fun z o hz => ?_, ⟨dx3, ?_⟩, hd3, hp3, ?_, e2, by rw [refs_app]; exact upd_same, ?_, ?_, hcl2.1⟩
        · rw [upd_ne (ne_of_none hz nSH)]
          exact s4 _ _ (hs3 _ _ hz)
        · rw [upd_ne hrS]
          exact s4 _ _ rd3'
        · rw [hcs, List.append_assoc]
          rfl
        · rw [Ct.upd (by simp)]
          refine (hA.mono fun y c' hy => ?_).app ⟨?_, trivial⟩
          · -- what was made before stays
            have bq : Same (Ct (S :: M) H') (Ct (S :: M) (upd H' r (.lst []))) ∨ True := .inr trivial
            obtain ⟨dy, ya, yb, y1, y2, ⟨zs, y3, y4⟩⟩ := hy
            have step : ∀ {z : Addr} {o : HO}, Ct (S :: M) H' z = some o → z ≠ r → Ct (S :: M) G4 z = some o := fun {z o} hz hzr => by
              obtain ⟨z1, z2⟩ := Ct.get hz
              rw [Ct.out z1]
              exact s4 _ _ (b3 _ _ (b2 _ _ (b1 _ _ z2 hzr) hzr) hzr)
            have nr_lst : ∀ {z : Addr} {l : List V}, Ct (S :: M) H' z = some (.lst l) → z ≠ r := fun hz => ne_of (Ct.get hz).2 rd' nofun
            refine ⟨dy, ya, yb, step y1 (fun e => ?_), step y2 (nr_lst y2), ⟨zs, step y3 (nr_lst y3), y4.mono fun z l hz => step hz (nr_lst hz)⟩⟩
            subst e
            have := (Ct.get y1).2
            rw [rd'] at this
            injection this with this
            injection this with _ _ e9
            unfold readF callF at e9
            injection e9 with e9 _
            injection e9 with e9 _
            exact absurd e9 (by decide +kernel)
          · refine ⟨dxx, q1, q2, ?_, ?_, ?_⟩
            · rw [Ct.out hxM, ← e3a]
              exact gx
            · show Ct _ _ _ = _
              rw [Ct.out hq1M]
              exact s4 _ _ hq13
            · exact hq2.kp nl_kp (.of (Ct.mono s4))
        · rw [List.length_append, List.length_cons, List.length_nil]
          have := hcl2.1
          omega
end
end Fp
end

section
namespace Fp
open PySem PySem.Spec PyProof.Rows L2
open LamX (TabB TabS ExtN CodeO)
open NdefX (TabN)
section
variable {P : Program} {w : World} {K : PySem.W.Frag} {mg : Str → Option Value} {base : Heap} {A : Ad}
/-! ### refused, has_length, has_long_text, keep_one_more -/
def spRefused : Sp := fun vs H Q _ => ∃ (n : Nat), vs = [.int (n : Int)] ∧ ∀ p, H p = none → Q (.ref p) (upd H p (.lst [.int (-(n : Int))]))
theorem scRefused : FnScope ["number"] ["number"] (C8.fnScope (top 75)) := ⟨rfl, rfl, rfl, by decide +kernel, rfl, by decide +kernel, by decide +kernel⟩
theorem cal_refused {f : Addr} {fd : FuncData} (D : C8.Def K mg "refused" (top 75) f fd) (b : Binds K fd ["number"] []) : C8.Cal P w K mg base 1 "refused" spRefused [] := by
  refine C8.cal0 D b .nil scRefused (fun vs H Q E h => ?_) (fun cdv B outer s H vs Q E hr h => ?_)
  · obtain ⟨_, rfl, _⟩ := h
    rfl
  · obtain ⟨n, rfl, q⟩ := h
    refine ⟨_, pss_one (ps_ret (pe_lst (pa_cons (pe_un un_neg (pv 0)) pa_nil))), ?_⟩
    exact ⟨_, rfl, _, rfl, (by show 1 ≤ sizeLine; decide), q⟩
def lenB (l : List Nat) (m : Nat) : Bool := decide (1 ≤ l.length) && decide (l.length ≤ m)
def spHasLen : Sp := fun vs H Q _ => ∃ (r : Addr) (l : List Nat) (m : Nat), vs = [.ref r, .int (m : Int)] ∧ NL H r l ∧ Q (.bl (lenB l m)) H
theorem scHasLen : FnScope ["row", "most"] ["row", "most"] (C8.fnScope (top 76)) := ⟨rfl, rfl, rfl, by decide +kernel, rfl, by decide +kernel, by decide +kernel⟩
theorem cal_haslen {f : Addr} {fd : FuncData} (T : Tx K mg A) (D : C8.Def K mg "has_length" (top 76) f fd) (b : Binds K fd ["row", "most"] []) : C8.Cal P w K mg base 1 "has_length" spHasLen [] := by
  refine C8.cal0 D b .nil scHasLen (fun vs H Q E h => ?_) (fun cdv B outer s H vs Q E hr h => ?_)
  · obtain ⟨_, _, _, rfl, _⟩ := h
    rfl
  · obtain ⟨r, l, m, rfl, h1, q⟩ := h
    refine ⟨_, pss_one (ps_ret (pe_chain op_le op_le pe_int (pe_callB cr_len (by rfl) T.len PySem.boot_len (pa_cons (pv 0) pa_nil)) (pv 1))), ?_⟩
    unfold lenB at q
    refine ⟨_, rfl, r, _, rfl, .inl (.of h1), _, _, rfl, rfl, _, rfl, ite2 (fun h0 => ?_) (fun h0 => ?_)⟩
    · have h0' : 1 ≤ l.length := by
        have : (1 : Int) ≤ (vi l).length := by simpa using h0
        rw [vi_len] at this
        omega
      rw [decide_eq_true h0', Bool.true_and] at q
      refine ⟨_, rfl, _, _, rfl, rfl, ?_⟩
      have e : decide (((vi l).length : Int) ≤ (m : Int)) = decide (l.length ≤ m) := decide_eq_decide.mpr (by rw [vi_len]; omega)
      rw [← e] at q
      exact q
    · have h0' : ¬ 1 ≤ l.length := by
        have : ¬ (1 : Int) ≤ (vi l).length := by simpa using h0
        rw [vi_len] at this
        omega
      rw [decide_eq_false h0', Bool.false_and] at q
      exact q
def longB (rows : List (List Nat)) : Bool := rows.any fun t => decide (256 < t.length)
def spLong : Sp := fun vs H Q _ => ∃ (ts : Addr) (rows : List (List Nat)), vs = [.ref ts] ∧ LL NL H ts rows ∧ rows.length ≤ 100000 ∧ ∀ H', Same H H' → Q (.bl (longB rows)) H'
theorem scLong : FnScope ["texts", "text"] ["texts"] (C8.fnScope (top 77)) := ⟨rfl, rfl, rfl, by decide +kernel, rfl, by decide +kernel, by decide +kernel⟩
theorem cal_long {f : Addr} {fd : FuncData} (T : Tx K mg A) (D : C8.Def K mg "has_long_text" (top 77) f fd) (b : Binds K fd ["texts"] []) : C8.Cal P w K mg base 1 "has_long_text" spLong [] := by
  refine C8.cal0 D b .nil scLong (fun vs H Q E h => ?_) (fun cdv B outer s H vs Q E hr h => ?_)
  · obtain ⟨_, _, rfl, _⟩ := h
    rfl
  · obtain ⟨ts, rows, rfl, ⟨as, h1, h2⟩, hl, q⟩ := h
    have nd := scLong.nd
    refine ⟨_, pss_one (ps_ret (pe_callB (cr_any rfl) (by rfl) T.any (by decide +kernel) (pa_cons (pe_lc (own := [("text", 1)]) (g := gName 1) (tt := tYes) rfl nd (pi_list (pv 0))
      (blkOk_by (own := [("text", 1)]) (N := ["texts", "text"]) (sc := C8.fnScope (top 77)) (by decide +kernel)) (fun _ _ _ _ _ => pg_name (i := 1) nd rfl (Or.inl rfl)) (fun _ _ _ _ _ => pts_nil)
      (fun _ _ _ _ _ => pe_cmpR op_gt (pe_callB (r := rLen K) cr_len (by rfl) T.len PySem.boot_len (pa_cons (pv 1) pa_nil)) (gl T.LONGEST_TEXT) (nomark _))) pa_nil))), ?_⟩
    have h2l := h2.len
    refine ⟨_, rfl, ts, rfl, ⟨_, .of h1⟩, fun L nL => lc_list (K := K) (a := ts) (xs := refs as) (fun i H' => Same H H' ∧ H' L = some (.lst ((rows.take i).map fun t => V.bl (decide (256 < t.length))))) ⟨Same.new nL, upd_same⟩ (fun i H' _ z => .of (z.1 _ _ h1)) ?_ ?_⟩
    · rintro i x H' hx ⟨hs, hL⟩
      obtain ⟨y, hy, rfl⟩ := refs_of hx
      obtain ⟨t, ht, hyt⟩ := h2.at1 hy
      have hil : i < rows.length := (List.getElem?_eq_some_iff.mp ht).1
      have etk : rows.take (i + 1) = rows.take i ++ [t] := by rw [List.take_add_one, ht]; rfl
      have hyt' : NL H' y t := hs _ _ hyt
      refine ⟨rfl, _, rfl, y, _, rfl, .inl (.of hyt'), _, _, rfl, rfl, _, hL, ?_, fun a o ha => ?_, ?_⟩
      · rw [List.length_map, List.length_take]
        exact line_lt (by omega)
      · rw [upd_ne (ne_of_none ha nL)]
        exact hs _ _ ha
      · rw [upd_same, etk, List.map_append]
        have e : decide (((256 : Nat) : Int) < ((vi t).length : Int)) = decide (256 < t.length) := decide_eq_decide.mpr (by rw [vi_len]; omega)
        show some (HO.lst (_ ++ [V.bl (decide (((256 : Nat) : Int) < ((vi t).length : Int)))])) = _
        rw [e]
        rfl
    · rintro H' ⟨hs, hL⟩
      rw [refs_len, h2l, List.take_length] at hL
      have e1 : (rows.map fun t => V.bl (decide (256 < t.length))) = (rows.map fun t => decide (256 < t.length)).map V.bl := by rw [List.map_map]; rfl
      rw [e1] at hL
      refine ⟨L, _, rfl, .of hL, ?_⟩
      have e2 : (rows.map fun t => decide (256 < t.length)).any id = longB rows := by
        unfold longB
        rw [List.any_map]
        rfl
      rw [e2]
      exact q _ hs
def spKeep : Sp := fun vs H Q _ => ∃ (l : Addr) (v : V) (m : Nat) (xs : List V), vs = [.ref l, v, .int (m : Int)] ∧ H l = some (.lst xs) ∧ xs.length ≤ 100000 ∧
  (m ≤ xs.length → ∀ p, H p = none → Q (.ref p) (upd H p (.lst [.int (-((2 : Nat) : Int))]))) ∧
  (xs.length < m → ∀ p, (upd H l (.lst (xs ++ [v]))) p = none → Q (.ref p) (upd (upd H l (.lst (xs ++ [v]))) p (.lst [.int 0, .int (xs.length : Int)])))
theorem scKeep : FnScope ["kept", "fresh", "most"] ["kept", "fresh", "most"] (C8.fnScope (top 78)) := ⟨rfl, rfl, rfl, by decide +kernel, rfl, by decide +kernel, by decide +kernel⟩
theorem cal_keep {f : Addr} {fd : FuncData} (T : Tx K mg A) (D : C8.Def K mg "keep_one_more" (top 78) f fd) (b : Binds K fd ["kept", "fresh", "most"] []) (cR : C8.Cal P w K mg base 1 "refused" spRefused []) : C8.Cal P w K mg base 2 "keep_one_more" spKeep [] := by
  refine C8.cal0 D b .nil scKeep (fun vs H Q E h => ?_) (fun cdv B outer s H vs Q E hr h => ?_)
  · obtain ⟨_, _, _, _, rfl, _⟩ := h
    rfl
  · obtain ⟨l, v, m, xs, rfl, h1, hl, q1, q2⟩ := h
    refine ⟨_, pss_cons (ps_if (pt_cmpR op_ge (pe_callB cr_len (by rfl) T.len PySem.boot_len (pa_cons (pv 0) pa_nil)) (pv 2) (nomark _)) (pss_one (ps_ret (C8.pe_c cR hr (by decide) rfl (pa_cons pe_int pa_nil)))) pss_nil)
      (pss_cons (ps_expr (pe_bm PySem.F.plainAttrs_list PySem.F.slot_list_append PySem.F.type_list_append mt_append (pv 0) (pa_cons (pv 1) pa_nil)))
      (pss_one (ps_ret (pe_lst (pa_cons pe_int (pa_cons (pe_op op_sub (pe_callB cr_len (by rfl) T.len PySem.boot_len (pa_cons (pv 0) pa_nil)) pe_int) pa_nil)))))), ?_⟩
    refine ⟨_, rfl, l, _, rfl, .inl (.of h1), _, rfl, _, _, rfl, rfl, _, rfl, ite2 (fun h0 => ?_) (fun h0 => ?_)⟩
    · have h0' : m ≤ xs.length := by
        have : (m : Int) ≤ xs.length := by simpa using h0
        omega
      exact ⟨2, rfl, q1 h0'⟩
    · have h0' : xs.length < m := by
        have : ¬ (m : Int) ≤ xs.length := by simpa using h0
        omega
      refine ⟨_, rfl, .inl ⟨rfl, _, .of h1⟩, _, rfl, l, xs, _, rfl, rfl, h1, line_lt (by omega), ?_⟩
      refine ⟨_, rfl, l, _, rfl, .inl (.of upd_same), _, _, rfl, rfl, (by show 2 ≤ sizeLine; decide), fun p np => ?_⟩
      have e : ((xs ++ [v]).length : Int) - 1 = (xs.length : Int) := by
        rw [List.length_append]
        simp
      have z := q2 h0' p np
      rw [← e] at z
      exact z
end
end Fp
end

section
namespace Fp
open PySem PySem.Spec PyProof.Rows L2
open LamX (TabB TabS ExtN CodeO)
open NdefX (TabN)
/-! ### what is data -/
def IsDat : HO → Prop
  | .lst _ => True
  | .tup _ => True
  | .ins _ _ _ => True
  | .dK _ => True
  | _ => False
def Dat (H : Hp) : Hp := fun a => match H a with
  | some (.lst xs) => some (.lst xs)
  | some (.tup xs) => some (.tup xs)
  | some (.ins C dx fs) => some (.ins C dx fs)
  | some (.dK kvs) => some (.dK kvs)
  | _ => none
theorem Dat.get {H : Hp} {a : Addr} {o : HO} (h : Dat H a = some o) : H a = some o ∧ IsDat o := by
  unfold Dat at h
  split at h
  · rename_i e
    cases h
    exact ⟨e, trivial⟩
  · rename_i e
    cases h
    exact ⟨e, trivial⟩
  · rename_i e
    cases h
    exact ⟨e, trivial⟩
  · rename_i e
    cases h
    exact ⟨e, trivial⟩
  · cases h
theorem Dat.put {H : Hp} {a : Addr} {o : HO} (h : H a = some o) (d : IsDat o) : Dat H a = some o := by
  unfold Dat
  rw [h]
  cases o <;> first | rfl | exact d.elim
/-- the data but the lists N -/
def St (N : List Addr) (H : Hp) : Hp := Ct N (Dat H)
section
variable {N : List Addr} {H H' : Hp}
theorem St.get {a : Addr} {o : HO} (h : St N H a = some o) : a ∉ N ∧ H a = some o ∧ IsDat o := ⟨(Ct.get h).1, Dat.get (Ct.get h).2⟩
theorem St.put {a : Addr} {o : HO} (n : a ∉ N) (h : H a = some o) (d : IsDat o) : St N H a = some o := (Ct.out n).trans (Dat.put h d)
theorem St.sub : Same (St N H) H := fun a o h => (St.get h).2.1
theorem Dat.sub : Same (Dat H) H := fun a o h => (Dat.get h).1
theorem Dat.kp (k : Kp H H') : Kp (Dat H) (Dat H') := fun a o h n => Dat.put (k _ _ (Dat.get h).1 n) (Dat.get h).2
theorem St.kp (k : Kp H H') : Kp (St N H) (St N H') := Ct.kp (Dat.kp k)
theorem St.same (k : Same H H') : Same (St N H) (St N H') := fun a o h => St.put (St.get h).1 (k _ _ (St.get h).2.1) (St.get h).2.2
theorem isDat_tbl {o : HO} (d : IsDat o) (ps) : o ≠ .tbl ps := fun e => by
  subst e
  exact d
theorem St.ext (k : ExtN H H') : Same (St N H) (St N H') := fun a o h => St.put (St.get h).1 (k _ _ (St.get h).2.1 (isDat_tbl (St.get h).2.2)) (St.get h).2.2
theorem St.it (l : Lists N H) : It H (St N H) := fun a o h i => St.put (l.not h (fun xs e => by subst e; exact i)) h (by cases o <;> first | trivial | exact i.elim)
theorem St.upd {a : Addr} {o : HO} (n : a ∉ N) (d : IsDat o) : St N (L2.upd H a o) = L2.upd (St N H) a o := by
  funext b
  unfold L2.upd
  by_cases e : b = a
  · subst e
    rw [if_pos rfl]
    exact St.put n (if_pos rfl) d
  · rw [if_neg e]
    unfold St Ct Dat
    simp only [if_neg e]
end
theorem tab_kp {H H' : Hp} {P : Addr} {nm : Nat → Nat → Str} (t : TabN H P nm) (k : Kp H H') : TabN H' P nm := by
  obtain ⟨ps, h1, h2, h3⟩ := t
  refine ⟨ps, k _ _ h1 (fun _ => nofun), h2, fun pos cv hc => ?_⟩
  obtain ⟨c, e1, e2⟩ := h3 pos cv hc
  exact ⟨c, e1, k _ _ e2 (fun _ z => by cases z)⟩
theorem tab_upd {H : Hp} {P a : Addr} {nm : Nat → Nat → Str} {o o' : HO} (t : TabN H P nm) (e : H a = some o) (d : IsDat o) : TabN (L2.upd H a o') P nm := by
  obtain ⟨ps, h1, h2, h3⟩ := t
  refine ⟨ps, ?_, h2, fun pos cv hc => ?_⟩
  · rw [upd_ne (fun z => by subst z; rw [e] at h1; cases h1; exact d)]
    exact h1
  · obtain ⟨c, e1, e2⟩ := h3 pos cv hc
    refine ⟨c, e1, ?_⟩
    rw [upd_ne (fun z => by subst z; rw [e] at e2; cases e2; exact d)]
    exact e2
/-! ### the desk -/
def dm (d c : Addr) (g : Gh) : List Addr := [d, c, g.sp, g.tn, g.ar]
def deskF (c : Addr) : List (Str × V) := [("code", .ref c)]
def DeskX (A : Ad) (U : List Nat) (X : Hp) (d c : Addr) (g : Gh) (k : Ih.Code) : Prop := ∃ (dxd dc : Addr) (ss ts as : List Addr) (bs : List Ih.Text) (kd : Addr) (kvs : List (Key × V)),
  X d = some (.ins A.desk dxd (deskF c)) ∧ X c = some (.ins A.code dc (codeF k.way g.sp g.tn g.ar g.b)) ∧ X g.sp = some (.lst (refs ss)) ∧ X g.tn = some (.lst (refs ts)) ∧ X g.ar = some (.lst (refs as)) ∧ g.sp ≠ g.tn ∧ g.sp ≠ g.ar ∧ g.tn ≠ g.ar ∧
  All2 (NL (Ct (dm d c g) X)) ss k.spells ∧ All2 (TurnAt A (Ct (dm d c g) X)) ts k.turns ∧ All2 (NL (Ct (dm d c g) X)) as k.articles ∧ BookS A (Ct (dm d c g) X) g.b kd k.rules bs ∧ bs <+: k.spells ∧ (∀ r ∈ k.rules, r.right k.rules bs = true) ∧ X kd = some (.dK kvs) ∧ KnownOk A U X k.rules bs kvs
section
variable {A : Ad} {U : List Nat} {N : List Addr} {H H' X : Hp} {d c : Addr} {g : Gh} {k : Ih.Code}
theorem DeskX.code (h : DeskX A U X d c g k) (s : Same X H) : CodeAt A U H c g k := by
  obtain ⟨dxd, dc, ss, ts, as, bs, kd, kvs, h1, h2, h3, h4, h5, n1, n2, n3, a1, a2, a3, b1, b2, b3, b4, b5⟩ := h
  have cs : Same (Ct (dm d c g) X) H := fun a o e => s _ _ (Ct.get e).2
  exact ⟨⟨dc, s _ _ h2, ⟨ss, s _ _ h3, a1.mono (nl_kp (.of cs))⟩, ⟨ts, s _ _ h4, a2.mono (TurnAt.kp (.of cs))⟩, ⟨as, s _ _ h5, a3.mono (nl_kp (.of cs))⟩⟩, bs, ⟨kd, kvs, b1.kp (.of cs), s _ _ b4, b5.kp (.of s)⟩, b2, b3⟩
theorem DeskX.same (h : DeskX A U X d c g k) (s : Same X H) : DeskX A U H d c g k := by
  obtain ⟨dxd, dc, ss, ts, as, bs, kd, kvs, h1, h2, h3, h4, h5, n1, n2, n3, a1, a2, a3, b1, b2, b3, b4, b5⟩ := h
  have cs : Kp (Ct (dm d c g) X) (Ct (dm d c g) H) := .of (Ct.mono s)
  exact ⟨dxd, dc, ss, ts, as, bs, kd, kvs, s _ _ h1, s _ _ h2, s _ _ h3, s _ _ h4, s _ _ h5, n1, n2, n3, a1.mono (nl_kp cs), a2.mono (TurnAt.kp cs), a3.mono (nl_kp cs), b1.kp cs, b2, b3, s _ _ b4, b5.kp (.of s)⟩
theorem DeskX.step (h : DeskX A U (St N H) d c g k) (l : Lists N H) (kp : Kp H H') (bk : BookK A U H' g.b k) : DeskX A U (St N H') d c g k := by
  obtain ⟨dxd, dc, ss, ts, as, bs, kd, kvs, h1, h2, h3, h4, h5, n1, n2, n3, a1, a2, a3, b1, b2, b3, b4, b5⟩ := h
  have ks : Kp (St N H) (St N H') := St.kp kp
  have cs : Kp (Ct (dm d c g) (St N H)) (Ct (dm d c g) (St N H')) := Ct.kp ks
  have hS : BookS A H' g.b kd k.rules bs := (b1.kp (.of fun a o e => (St.get (Ct.get e).2).2.1)).kp kp
  obtain ⟨kvs', e1, e2⟩ := bk.known hS b2 b3
  exact ⟨dxd, dc, ss, ts, as, bs, kd, kvs', ks.ins h1, ks.ins h2, ks.lst h3, ks.lst h4, ks.lst h5, n1, n2, n3, a1.mono (nl_kp cs), a2.mono (TurnAt.kp cs), a3.mono (nl_kp cs), b1.kp cs, b2, b3, St.put (St.get b4).1 e1 trivial, e2.it (St.it (l.kp kp))⟩
/-- a code just made -/
theorem desk_new {dxd dc dxb rl sl st ow kd : Addr} {starts : List Nat} {way : Nat} (h1 : X d = some (.ins A.desk dxd (deskF c))) (h2 : X c = some (.ins A.code dc (codeF way g.sp g.tn g.ar g.b))) (h3 : X g.sp = some (.lst [])) (h4 : X g.tn = some (.lst [])) (h5 : X g.ar = some (.lst []))
    (n1 : g.sp ≠ g.tn) (n2 : g.sp ≠ g.ar) (n3 : g.tn ≠ g.ar) (hb : X g.b = some (.ins A.book dxb (bookF rl sl st ow kd))) (e1 : X rl = some (.lst [])) (e2 : X sl = some (.lst [])) (S : Fx.Starts [] starts) (e3 : NL X st starts) (e4 : X ow = some (.lst ((Fx.ownersOf [] starts).map (ownV [])))) (e5 : X kd = some (.dK []))
    (hn : ∀ x ∈ [rl, sl, st, ow], x ∉ [g.sp, g.tn, g.ar]) : DeskX A U X d c g (Ih.Code.bare way) := by
  have out : ∀ {x : Addr} {xs : List V}, X x = some (.lst xs) → x ∈ [rl, sl, st, ow] → Ct (dm d c g) X x = some (.lst xs) := fun {x xs} hx hm => by
    rw [Ct.out (fun z => ?_)]
    · exact hx
    · have z' : x = d ∨ x = c ∨ x ∈ [g.sp, g.tn, g.ar] := by
        simp only [dm, List.mem_cons, List.not_mem_nil, or_false] at z ⊢
        exact z
      rcases z' with e | e | e
      · subst e; rw [h1] at hx; cases hx
      · subst e; rw [h2] at hx; cases hx
      · exact hn x hm e
  refine ⟨dxd, dc, [], [], [], [], kd, [], h1, h2, h3, h4, h5, n1, n2, n3, trivial, trivial, trivial, ⟨dxb, rl, sl, st, ow, [], starts, ?_, out e1 (by simp), trivial, ⟨[], out e2 (by simp), trivial⟩, S, out e3 (by simp), out e4 (by simp)⟩, List.prefix_refl _, fun r hr => (by cases hr), e5, fun p hp => (by cases hp), List.nodup_nil⟩
  rw [Ct.out (fun z => ?_)]
  · exact hb
  · simp only [dm, List.mem_cons, List.not_mem_nil, or_false] at z
    rcases z with e | e | e | e | e
    · rw [e, h1] at hb
      injection hb with hb
      injection hb with _ _ hb
      exact absurd (congrArg List.length hb) (by show ¬ (1 = 5); decide)
    · rw [e, h2] at hb
      injection hb with hb
      injection hb with _ _ hb
      unfold codeF bookF at hb
      injection hb with hb _
      injection hb with hb _
      exact absurd hb (by decide +kernel)
    · rw [e, h3] at hb; cases hb
    · rw [e, h4] at hb; cases hb
    · rw [e, h5] at hb; cases hb
end
section
variable {P : Program} {w : World} {K : PySem.W.Frag} {mg : Str → Option Value} {base : Heap} {A : Ad}
def spDeskI (A : Ad) : Sp := fun vs H Q _ => ∃ (p dx : Addr) (N : List Addr), vs = [.ref p] ∧ H p = some (.ins A.desk dx []) ∧ Lists N H ∧
  ∀ H' c g, Bt p H H' → (∀ x ∈ [c, g.sp, g.tn, g.ar], H x = none) → (∀ U, DeskX A U (St N H') p c g (Ih.Code.bare 0)) → Q .non H'
theorem scDeskI : FnScope ["self"] ["self"] (C8.fnScope (inClass (top 74) 0)) := ⟨rfl, rfl, rfl, by decide +kernel, rfl, by decide +kernel, by decide +kernel⟩
theorem mak_desk {f : Addr} {fd : FuncData} (T : Tx K mg A) (M : Mk K A.desk f) (hm : mg "Desk" = some (.ref A.desk)) (F : C8.Fun K "__init__" "Desk.__init__" (inClass (top 74) 0) f fd) (b : Binds K fd ["self"] []) (cC : C8.Mak P w K mg base 5 "Code" A.code (spCodeI A) []) : C8.Mak P w K mg base 7 "Desk" A.desk (spDeskI A) [] := by
  refine C8.mak0 M hm F b .nil scDeskI (fun vs H Q E h => ?_) (fun cdv B outer s H vs Q E hr h => ?_)
  · obtain ⟨_, _, _, rfl, _⟩ := h
    rfl
  · obtain ⟨p, dx, N, rfl, h1, hN, q⟩ := h
    refine ⟨_, pss_one (ps_fld (pv 0) (C8.pe_mk cC hr (by decide) rfl (pa_cons (gl T.WORD_BY_WORD) pa_nil)) rfl), ?_⟩
    intro c dc nc ndc ne
    have s0 := same_new (o := .own c) (o' := .ins A.code dc []) nc ndc
    have hpc : p ≠ c := ne_of_none h1 nc
    refine ⟨c, dc, 0, rfl, upd_same, fun H1 g dxb rl sl st ow kd starts bt n1 n2 n3 d1 d2 d3 hn hc hsp htn har hb hrl hsl hS hst how hkd => ⟨rfl, ?_⟩⟩
    have s1 : Same H H1 := fun z o hz => bt _ _ (s0 _ _ hz) (ne_of_none hz nc)
    have hp1 := s1 _ _ h1
    refine ⟨_, rfl, p, A.desk, dx, [], rfl, hp1, T.cDesk, T.nDesk _ (by simp), (by show 0 < 1000; decide), ?_⟩
    rw [put_new (ns := []) rfl (by decide +kernel)]
    have up : ∀ {z : Addr} {o : HO}, H1 z = some o → z ≠ p → (upd H1 p (.ins A.desk dx (deskF c))) z = some o := fun hz hne => by
      rw [upd_ne hne]
      exact hz
    have upL : ∀ {z : Addr} {o : HO}, H1 z = some o → (∀ C dx fs, o ≠ .ins C dx fs) → (upd H1 p (.ins A.desk dx (deskF c))) z = some o := fun {z o} hz hn => up hz fun e => by
      subst e
      rw [hp1] at hz
      cases hz
      exact hn _ _ _ rfl
    have nl : ∀ {xs : List V} (C dx fs), HO.lst xs ≠ .ins C dx fs := fun _ _ _ => nofun
    have hNp : p ∉ N := hN.not h1 nofun
    have fr : ∀ {z : Addr}, H z = none → z ∉ N := fun hz => hN.new hz
    have frn : ∀ x ∈ [rl, sl, st, ow], x ∉ [g.sp, g.tn, g.ar] := fun x hx => (hn x hx).1
    have fro : ∀ x ∈ [rl, sl, st, ow], x ∉ N := fun x hx => fr (s0.free (hn x hx).2)
    have hN1 : Lists N (upd H1 p (.ins A.desk dx (deskF c))) := fun x hx => by
      obtain ⟨xs, e⟩ := hN x hx
      exact ⟨xs, upL (s1 _ _ e) nl⟩
    have hbp : g.b ≠ p := fun e => by
      rw [e, hp1] at hb
      injection hb with hb
      injection hb with _ _ hb
      exact absurd (congrArg List.length hb) (by show ¬ (0 = 5); decide)
    refine q _ c g ((Bt.of s1).trans Bt.upd) (fun x hx => ?_) fun U => ?_
    · simp only [List.mem_cons, List.not_mem_nil, or_false] at hx
      rcases hx with e | e | e | e <;> subst e
      · exact nc
      · exact s0.free n1
      · exact s0.free n2
      · exact s0.free n3
    · refine desk_new (starts := starts) (St.put hNp upd_same trivial) (St.put (fr nc) (up hc (Ne.symm hpc)) trivial) (St.put (fr (s0.free n1)) (upL hsp nl) trivial) (St.put (fr (s0.free n2)) (upL htn nl) trivial) (St.put (fr (s0.free n3)) (upL har nl) trivial) d1 d2 d3
        (St.put (hN1.not (up hb hbp) nofun) (up hb hbp) trivial) (St.put (fro _ (by simp)) (upL hrl nl) trivial) (St.put (fro _ (by simp)) (upL hsl nl) trivial) hS (St.put (fro _ (by simp)) (upL hst nl) trivial) (St.put (fro _ (by simp)) (upL how nl) trivial)
        (St.put (hN1.not (upL hkd nofun) nofun) (upL hkd nofun) trivial) frn
end
end Fp
end

section
namespace Fp
open PySem PySem.Spec PyProof.Rows L2
open LamX (TabB TabS ExtN CodeO)
open NdefX (TabN)
structure Pre (A : Ad) (U : List Nat) (N : List Addr) (Pt d c : Addr) (g : Gh) (k : Ih.Code) (H : Hp) (na ra : Addr) (nums : List Nat) (rows : List (List Nat)) : Prop where
  dk : DeskX A U (St N H) d c g k
  gd : Good U k
  ul : U.length ≤ 100000
  tb : TabN H Pt nmL
  ln : Lists N H
  hn : NL (Ct (dm d c g) (St N H)) na nums
  hr : LL NL (Ct (dm d c g) (St N H)) ra rows
  rl : rows.length ≤ 100000
  rw : ∀ t ∈ rows, t.length ≤ 100000 ∧ ∀ x ∈ t, x ∈ U
def AnsQ (A : Ad) (U : List Nat) (N : List Addr) (Pt d c : Addr) (g : Gh) (H : Hp) (k' : Ih.Code) (ans : List Int) (Q : VK) : Prop := ∀ H' p c' g', DeskX A U (St N H') d c' g' k' → Kp (Ct (dm d c g) (Dat H)) H' → (∀ x ∈ dm d c' g', x ∈ dm d c g ∨ H x = none) → TabN H' Pt nmL → (∀ xs, H p ≠ some (.lst xs)) → H' p = some (.lst (ans.map V.int)) → Q (.ref p) H'
def spOf (A : Ad) (Pt : Addr) (sh : List Nat → List (List Nat) → IhFiling.Call → Prop) : Sp := fun vs H Q _ => ∃ (d c : Addr) (g : Gh) (k : Ih.Code) (U : List Nat) (N : List Addr) (na ra : Addr) (nums : List Nat) (rows : List (List Nat)) (x : IhFiling.Call), vs = [.ref d, .ref na, .ref ra] ∧ sh nums rows x ∧
  Pre A U N Pt d c g k H na ra nums rows ∧ AnsQ A U N Pt d c g H (IhFiling.step k x).1 (FlNeutral.numbers (IhFiling.step k x).2) Q
section
variable {A : Ad} {U : List Nat} {N : List Addr} {Pt d c na ra : Addr} {g : Gh} {k : Ih.Code} {H H1 X : Hp} {nums : List Nat} {rows : List (List Nat)} {ans : List Int} {Q : VK}
theorem Pre.code (p : Pre A U N Pt d c g k H na ra nums rows) : CodeAt A U H c g k := p.dk.code St.sub
theorem Pre.nH (p : Pre A U N Pt d c g k H na ra nums rows) : NL H na nums := p.hn.kp (.of fun a o e => St.sub _ _ (Ct.get e).2)
theorem Pre.rH (p : Pre A U N Pt d c g k H na ra nums rows) : LL NL H ra rows := p.hr.kp nl_kp (.of fun a o e => St.sub _ _ (Ct.get e).2)
theorem Pre.desk (p : Pre A U N Pt d c g k H na ra nums rows) : ∃ dxd, H d = some (.ins A.desk dxd (deskF c)) := by
  obtain ⟨dxd, dc, ss, ts, as, bs, kd, kvs, h1, _⟩ := p.dk
  exact ⟨dxd, St.sub _ _ h1⟩
theorem ans_same (p : Pre A U N Pt d c g k H na ra nums rows) (h : AnsQ A U N Pt d c g H k ans Q) (kp : Kp H H1) (bk : BookK A U H1 g.b k) {q : Addr} (nq : H1 q = none) : Q (.ref q) (upd H1 q (.lst (ans.map V.int))) := by
  have s1 : Same H1 (upd H1 q (.lst (ans.map V.int))) := Same.new nq
  have k1 := kp.trans (.of s1)
  refine h _ q c g (p.dk.step p.ln k1 (bk.same s1)) (fun a o e n => k1 _ _ (Dat.get (Ct.get e).2).1 n) (fun x hx => .inl hx) (tab_kp p.tb k1) (fun xs e => ?_) upd_same
  rw [kp.lst e] at nq
  cases nq
end
section
variable {P : Program} {w : World} {K : PySem.W.Frag} {mg : Str → Option Value} {base : Heap} {A : Ad}
theorem rd_desk {H : Hp} {d c dx : Addr} {G : V → Prop} (T : Tx K mg A) (h : H d = some (.ins A.desk dx (deskF c))) (q : G (.ref c)) :
    ∃ a' C dx fs v, V.ref d = .ref a' ∧ H a' = some (.ins C dx fs) ∧ Cls K C ∧ NoAttr K C ("code" : Str) ∧ fs.lookup ("code" : Str) = some v ∧ G v := rd_fld (ns := ["code"]) 0 h T.cDesk (T.nDesk _ (by simp)) rfl (by decide +kernel) rfl q
/-! ### order, begins, group -/
def shOrder : List Nat → List (List Nat) → IhFiling.Call → Prop := fun _ rows x => ∃ a b, rows = [a, b] ∧ x = .order a b
def shBegins : List Nat → List (List Nat) → IhFiling.Call → Prop := fun _ rows x => ∃ a b, rows = [a, b] ∧ x = .begins a b
def shGroup : List Nat → List (List Nat) → IhFiling.Call → Prop := fun _ rows x => ∃ a, rows = [a] ∧ x = .group a
theorem long_eq (t : Ih.Text) : IhFiling.long t = decide (256 < t.length) := rfl
theorem scAOrder : FnScope ["desk", "numbers", "rows"] ["desk", "numbers", "rows"] (C8.fnScope (top 84)) := ⟨rfl, rfl, rfl, by decide +kernel, rfl, by decide +kernel, by decide +kernel⟩
theorem cal_aorder {Pt : Addr} {f : Addr} {fd : FuncData} (T : Tx K mg A) (D : C8.Def K mg "answer_order" (top 84) f fd) (b : Binds K fd ["desk", "numbers", "rows"] []) (cL : C8.Cal P w K mg base 1 "has_long_text" spLong []) (cR : C8.Cal P w K mg base 1 "refused" spRefused []) (cO : C8.Cal P w K mg base 9 "order_of" (spOrder A) []) : C8.Cal P w K mg base 10 "answer_order" (spOf A Pt shOrder) [] := by
  refine C8.cal0 D b .nil scAOrder (fun vs H Q E h => ?_) (fun cdv B outer s H vs Q E hr h => ?_)
  · obtain ⟨_, _, _, _, _, _, _, _, _, _, _, rfl, _⟩ := h
    rfl
  · obtain ⟨d, c, g, k, U, N, na, ra, nums, rows, x, rfl, ⟨a, b, rfl, rfl⟩, pre, q⟩ := h
    refine ⟨_, pss_cons (ps_if (pt_val (C8.pe_c cL hr (by decide) rfl (pa_cons (pv 2) pa_nil))) (pss_one (ps_ret (C8.pe_c cR hr (by decide) rfl (pa_cons pe_int pa_nil)))) pss_nil)
      (pss_one (ps_ret (pe_lst (pa_cons pe_int (pa_cons (C8.pe_c cO hr (by decide) rfl (pa_cons (pe_fld (pv 0) rfl) (pa_cons (pe_ix ix_list (pv 2) pe_int (fun _ _ => rfl)) (pa_cons (pe_ix ix_list (pv 2) pe_int (fun _ _ => rfl)) pa_nil)))) pa_nil))))), ?_⟩
    have hC := pre.code
    obtain ⟨dxd, hd⟩ := pre.desk
    refine ⟨_, rfl, ra, [a, b], rfl, pre.rH, pre.rl, fun H1 s1 => ⟨_, rfl, ?_⟩⟩
    have es : IhFiling.step k (.order a b) = (k, if (longB [a, b]) = true then .refused 10 else .number (k.order a b)) := by
      show (k, if IhFiling.long a || IhFiling.long b then _ else _) = _
      have : longB [a, b] = (IhFiling.long a || IhFiling.long b) := by
        rw [long_eq, long_eq]
        simp [longB]
      rw [this]
    rw [es] at q
    cases e : longB [a, b] with
    | true =>
      rw [e] at q
      exact iteT ⟨10, rfl, fun p np => ans_same pre q (.of s1) (hC.2.same s1) np⟩
    | false =>
      rw [e] at q
      obtain ⟨as, r1, r2⟩ := pre.rH.kp nl_kp (.of s1)
      obtain ⟨y, hy, hya⟩ := r2.at2 (i := 0) (b := a) rfl
      obtain ⟨z, hz, hzb⟩ := r2.at2 (i := 1) (b := b) rfl
      have hle : a.length ≤ 256 ∧ b.length ≤ 256 := by
        unfold longB at e
        simp at e
        omega
      refine iteF ⟨_, rfl, rd_desk T (s1 _ _ hd) ⟨_, rfl, ra, _, 0, _, rfl, rfl, .of r1, atI_nat (refs_at' hy), ?_⟩⟩
      refine ⟨_, rfl, ra, _, 1, _, rfl, rfl, .of r1, atI_nat (refs_at' hz), ?_⟩
      refine ⟨c, y, z, U, g, k, a, b, rfl, hC.same s1, pre.gd, hya, hzb, hle.1, hle.2, pre.ul, (pre.rw a (by simp)).2, (pre.rw b (by simp)).2, fun H2 k2 b2 => ⟨(by show 2 ≤ sizeLine; decide), fun p np => ?_⟩⟩
      exact ans_same pre q ((Kp.of s1).trans k2) b2 np
theorem scABegins : FnScope ["desk", "numbers", "rows"] ["desk", "numbers", "rows"] (C8.fnScope (top 85)) := ⟨rfl, rfl, rfl, by decide +kernel, rfl, by decide +kernel, by decide +kernel⟩
theorem cal_abegins {Pt : Addr} {f : Addr} {fd : FuncData} (T : Tx K mg A) (D : C8.Def K mg "answer_begins" (top 85) f fd) (b : Binds K fd ["desk", "numbers", "rows"] []) (cL : C8.Cal P w K mg base 1 "has_long_text" spLong []) (cR : C8.Cal P w K mg base 1 "refused" spRefused []) (cO : C8.Cal P w K mg base 9 "begins_as" (spBegAs A) []) : C8.Cal P w K mg base 10 "answer_begins" (spOf A Pt shBegins) [] := by
  refine C8.cal0 D b .nil scABegins (fun vs H Q E h => ?_) (fun cdv B outer s H vs Q E hr h => ?_)
  · obtain ⟨_, _, _, _, _, _, _, _, _, _, _, rfl, _⟩ := h
    rfl
  · obtain ⟨d, c, g, k, U, N, na, ra, nums, rows, x, rfl, ⟨a, b, rfl, rfl⟩, pre, q⟩ := h
    refine ⟨_, pss_cons (ps_if (pt_val (C8.pe_c cL hr (by decide) rfl (pa_cons (pv 2) pa_nil))) (pss_one (ps_ret (C8.pe_c cR hr (by decide) rfl (pa_cons pe_int pa_nil)))) pss_nil)
      (pss_one (ps_ret (pe_lst (pa_cons pe_int (pa_cons (pe_ifExp (pt_val (C8.pe_c cO hr (by decide) rfl (pa_cons (pe_fld (pv 0) rfl) (pa_cons (pe_ix ix_list (pv 2) pe_int (fun _ _ => rfl)) (pa_cons (pe_ix ix_list (pv 2) pe_int (fun _ _ => rfl)) pa_nil))))) pe_int pe_int) pa_nil))))), ?_⟩
    have hC := pre.code
    obtain ⟨dxd, hd⟩ := pre.desk
    refine ⟨_, rfl, ra, [a, b], rfl, pre.rH, pre.rl, fun H1 s1 => ⟨_, rfl, ?_⟩⟩
    have es : IhFiling.step k (.begins a b) = (k, if (longB [a, b]) = true then .refused 10 else .number (if k.begins a b = true then 1 else 0)) := by
      show (k, if IhFiling.long a || IhFiling.long b then _ else _) = _
      have : longB [a, b] = (IhFiling.long a || IhFiling.long b) := by
        rw [long_eq, long_eq]
        simp [longB]
      rw [this]
    rw [es] at q
    cases e : longB [a, b] with
    | true =>
      rw [e] at q
      exact iteT ⟨10, rfl, fun p np => ans_same pre q (.of s1) (hC.2.same s1) np⟩
    | false =>
      rw [e] at q
      obtain ⟨as, r1, r2⟩ := pre.rH.kp nl_kp (.of s1)
      obtain ⟨y, hy, hya⟩ := r2.at2 (i := 0) (b := a) rfl
      obtain ⟨z, hz, hzb⟩ := r2.at2 (i := 1) (b := b) rfl
      have hle : a.length ≤ 256 ∧ b.length ≤ 256 := by
        unfold longB at e
        simp at e
        omega
      refine iteF ⟨_, rfl, rd_desk T (s1 _ _ hd) ⟨_, rfl, ra, _, 0, _, rfl, rfl, .of r1, atI_nat (refs_at' hy), ?_⟩⟩
      refine ⟨_, rfl, ra, _, 1, _, rfl, rfl, .of r1, atI_nat (refs_at' hz), ?_⟩
      refine ⟨c, y, z, U, g, k, a, b, rfl, hC.same s1, pre.gd, hya, hzb, hle.1, hle.2, pre.ul, (pre.rw a (by simp)).2, (pre.rw b (by simp)).2, fun H2 k2 b2 => ⟨_, rfl, ?_⟩⟩
      cases eb : k.begins a b with
      | true =>
        rw [eb] at q
        exact iteT ⟨(by show 2 ≤ sizeLine; decide), fun p np => ans_same pre q ((Kp.of s1).trans k2) b2 np⟩
      | false =>
        rw [eb] at q
        exact iteF ⟨(by show 2 ≤ sizeLine; decide), fun p np => ans_same pre q ((Kp.of s1).trans k2) b2 np⟩
theorem scAGroup : FnScope ["desk", "numbers", "rows"] ["desk", "numbers", "rows"] (C8.fnScope (top 86)) := ⟨rfl, rfl, rfl, by decide +kernel, rfl, by decide +kernel, by decide +kernel⟩
theorem cal_agroup {Pt : Addr} {f : Addr} {fd : FuncData} (T : Tx K mg A) (D : C8.Def K mg "answer_group" (top 86) f fd) (b : Binds K fd ["desk", "numbers", "rows"] []) (cL : C8.Cal P w K mg base 1 "has_long_text" spLong []) (cR : C8.Cal P w K mg base 1 "refused" spRefused []) (cO : C8.Cal P w K mg base 8 "group_of" (spGroup A) []) : C8.Cal P w K mg base 9 "answer_group" (spOf A Pt shGroup) [] := by
  refine C8.cal0 D b .nil scAGroup (fun vs H Q E h => ?_) (fun cdv B outer s H vs Q E hr h => ?_)
  · obtain ⟨_, _, _, _, _, _, _, _, _, _, _, rfl, _⟩ := h
    rfl
  · obtain ⟨d, c, g, k, U, N, na, ra, nums, rows, x, rfl, ⟨a, rfl, rfl⟩, pre, q⟩ := h
    refine ⟨_, pss_cons (ps_if (pt_val (C8.pe_c cL hr (by decide) rfl (pa_cons (pv 2) pa_nil))) (pss_one (ps_ret (C8.pe_c cR hr (by decide) rfl (pa_cons pe_int pa_nil)))) pss_nil)
      (pss_one (ps_ret (pe_lst (pa_cons pe_int (pa_cons (C8.pe_c cO hr (by decide) rfl (pa_cons (pe_fld (pv 0) rfl) (pa_cons (pe_ix ix_list (pv 2) pe_int (fun _ _ => rfl)) pa_nil))) pa_nil))))), ?_⟩
    have hC := pre.code
    obtain ⟨dxd, hd⟩ := pre.desk
    refine ⟨_, rfl, ra, [a], rfl, pre.rH, pre.rl, fun H1 s1 => ⟨_, rfl, ?_⟩⟩
    have es : IhFiling.step k (.group a) = (k, if (longB [a]) = true then .refused 10 else .number (k.group a : Nat)) := by
      show (k, if IhFiling.long a = true then _ else _) = _
      have : longB [a] = IhFiling.long a := by
        rw [long_eq]
        simp [longB]
      rw [this]
    rw [es] at q
    cases e : longB [a] with
    | true =>
      rw [e] at q
      exact iteT ⟨10, rfl, fun p np => ans_same pre q (.of s1) (hC.2.same s1) np⟩
    | false =>
      rw [e] at q
      obtain ⟨as, r1, r2⟩ := pre.rH.kp nl_kp (.of s1)
      obtain ⟨y, hy, hya⟩ := r2.at2 (i := 0) (b := a) rfl
      have hle : a.length ≤ 256 := by
        unfold longB at e
        simp at e
        omega
      refine iteF ⟨_, rfl, rd_desk T (s1 _ _ hd) ⟨_, rfl, ra, _, 0, _, rfl, rfl, .of r1, atI_nat (refs_at' hy), ?_⟩⟩
      refine ⟨c, y, U, g, k, a, rfl, hC.same s1, pre.gd, hya, hle, pre.ul, (pre.rw a (by simp)).2, fun H2 k2 b2 => ⟨(by show 2 ≤ sizeLine; decide), fun p np => ?_⟩⟩
      exact ans_same pre q ((Kp.of s1).trans k2) b2 np
end
end Fp
end

section
namespace Fp
open PySem PySem.Spec PyProof.Rows L2
open LamX (TabB TabS ExtN CodeO)
open NdefX (TabN)
section
variable {P : Program} {w : World} {K : PySem.W.Frag} {mg : Str → Option Value} {base : Heap} {A : Ad}
def shFile : List Nat → List (List Nat) → IhFiling.Call → Prop := fun _ rows x => x = .file rows
def shSeek : List Nat → List (List Nat) → IhFiling.Call → Prop := fun _ rows x => ∃ q l, rows = q :: l ∧ x = .seek l q
theorem long_le {rows : List (List Nat)} (h : longB rows = false) : ∀ t ∈ rows, t.length ≤ 256 := fun t ht => by
  unfold longB at h
  have := List.any_eq_false.mp h t ht
  simpa using this
theorem scAFile : FnScope ["desk", "numbers", "rows"] ["desk", "numbers", "rows"] (C8.fnScope (top 87)) := ⟨rfl, rfl, rfl, by decide +kernel, rfl, by decide +kernel, by decide +kernel⟩
theorem cal_afile {Pt : Addr} {f : Addr} {fd : FuncData} (T : Tx K mg A) (D : C8.Def K mg "answer_file" (top 87) f fd) (b : Binds K fd ["desk", "numbers", "rows"] []) (cL : C8.Cal P w K mg base 1 "has_long_text" spLong []) (cR : C8.Cal P w K mg base 1 "refused" spRefused []) (cA : C8.Cal P w K mg base 9 "levels_of_all" (spAll A) []) (cS : C8.Cal P w K mg base 4 "numbers_in_order" (spSorted Pt) []) : C8.Cal P w K mg base 10 "answer_file" (spOf A Pt shFile) [] := by
  refine C8.cal0 D b .nil scAFile (fun vs H Q E h => ?_) (fun cdv B outer s H vs Q E hr h => ?_)
  · obtain ⟨_, _, _, _, _, _, _, _, _, _, _, rfl, _⟩ := h
    rfl
  · obtain ⟨d, c, g, k, U, N, na, ra, nums, rows, x, rfl, rfl, pre, q⟩ := h
    refine ⟨_, pss_cons (ps_if (pt_val (C8.pe_c cL hr (by decide) rfl (pa_cons (pv 2) pa_nil))) (pss_one (ps_ret (C8.pe_c cR hr (by decide) rfl (pa_cons pe_int pa_nil)))) pss_nil)
      (pss_cons (ps_if (pt_cmpR op_gt (pe_callB cr_len (by rfl) T.len PySem.boot_len (pa_cons (pv 2) pa_nil)) (gl T.MOST_TEXTS) (nomark _)) (pss_one (ps_ret (C8.pe_c cR hr (by decide) rfl (pa_cons pe_int pa_nil)))) pss_nil)
      (pss_one (ps_ret (pe_op op_cat (pe_lst (pa_cons pe_int pa_nil)) (C8.pe_c cS hr (by decide) rfl (pa_cons (C8.pe_c cA hr (by decide) rfl (pa_cons (pe_fld (pv 0) rfl) (pa_cons (pv 2) pa_nil))) pa_nil)))))), ?_⟩
    have hC := pre.code
    obtain ⟨dxd, hd⟩ := pre.desk
    refine ⟨_, rfl, ra, rows, rfl, pre.rH, pre.rl, fun H1 s1 => ⟨_, rfl, ?_⟩⟩
    have es : IhFiling.step k (.file rows) = (k, if longB rows = true then .refused 10 else if 4096 < rows.length then .refused 1 else .numbers (IhFiling.filing k rows)) := rfl
    rw [es] at q
    cases e : longB rows with
    | true =>
      rw [e] at q
      exact iteT ⟨10, rfl, fun p np => ans_same pre q (.of s1) (hC.2.same s1) np⟩
    | false =>
      rw [e] at q
      obtain ⟨as, r1, r2⟩ := pre.rH.kp nl_kp (.of s1)
      have r2l := r2.len
      refine iteF ⟨_, rfl, ra, _, rfl, .inl (.of r1), _, _, rfl, rfl, _, rfl, ite2 (fun h0 => ?_) (fun h0 => ?_)⟩
      · have h0' : 4096 < rows.length := by
          have : ((4096 : Nat) : Int) < (refs as).length := by simpa using h0
          rw [refs_len, r2l] at this
          omega
        rw [if_neg Bool.false_ne_true, if_pos h0'] at q
        exact ⟨1, rfl, fun p np => ans_same pre q (.of s1) (hC.2.same s1) np⟩
      · have h0' : ¬ 4096 < rows.length := by
          have : ¬ ((4096 : Nat) : Int) < (refs as).length := by simpa using h0
          rw [refs_len, r2l] at this
          omega
        rw [if_neg Bool.false_ne_true, if_neg h0'] at q
        refine ⟨(by show 1 ≤ sizeLine; decide), fun z nz => ?_⟩
        have s2 : Same H (upd H1 z (.lst [.int 0])) := fun a o h => Same.new nz _ _ (s1 _ _ h)
        refine ⟨_, rfl, rd_desk T (s2 _ _ hd) ⟨_, rfl, c, ra, U, g, k, rows, rfl, hC.same s2, pre.gd, ⟨as, Same.new nz _ _ r1, r2.mono (nl_kp (.of (Same.new nz)))⟩, pre.rl, fun t ht => ⟨long_le e t ht, (pre.rw t ht).2⟩, pre.ul, fun H3 p3 k3 b3 hp3 => ?_⟩⟩
        have kH3 : Kp H H3 := (Kp.of s2).trans k3
        have hz3 := k3.lst (a := z) upd_same
        have tb3 := tab_kp pre.tb kH3
        refine ⟨p3, k, rows, rfl, hp3, pre.gd.way, pre.rl, tb3, fun H4 p4 e4 t4 np4 hp4 => ?_⟩
        have hz4 := e4 _ _ hz3 (fun _ => nofun)
        refine ⟨z, p4, _, _, rfl, rfl, hz4, hp4, ?_, fun p np => ?_⟩
        · have : (IhFiling.filing k rows).length = rows.length := by
            rw [Fx.filing_eq, List.length_mergeSort, List.length_range]
          have := pre.rl
          rw [vi_len]
          exact line_of (by simp; omega)
        · have s5 : Same H4 (upd H4 p (.lst ([V.int 0] ++ vi (IhFiling.filing k rows)))) := Same.new np
          have e5 : ExtN H3 (upd H4 p (.lst ([V.int 0] ++ vi (IhFiling.filing k rows)))) := fun a o h n => s5 _ _ (e4 _ _ h n)
          refine q _ p c g ((pre.dk.step pre.ln kH3 b3).same (St.ext e5)) (fun a o h n => ?_) (fun x hx => .inl hx) (t4.ext s5) (fun xs ex => ?_) ?_
          · have hd := Dat.get (Ct.get h).2
            exact e5 _ _ (kH3 _ _ hd.1 n) (isDat_tbl hd.2)
          · rw [e4 _ _ (kH3.lst ex) (fun _ => nofun)] at np
            cases np
          · rw [upd_same]
            show _ = some (HO.lst ((0 :: (IhFiling.filing k rows).map fun (n : Nat) => (n : Int)).map V.int))
            rw [List.map_cons, List.map_map]
            rfl
theorem scASeek : FnScope ["desk", "numbers", "rows", "texts", "levels"] ["desk", "numbers", "rows"] (C8.fnScope (top 88)) := ⟨rfl, rfl, rfl, by decide +kernel, rfl, by decide +kernel, by decide +kernel⟩
theorem cal_aseek {Pt : Addr} {f : Addr} {fd : FuncData} (T : Tx K mg A) (D : C8.Def K mg "answer_seek" (top 88) f fd) (b : Binds K fd ["desk", "numbers", "rows"] []) (cL : C8.Cal P w K mg base 1 "has_long_text" spLong []) (cR : C8.Cal P w K mg base 1 "refused" spRefused []) (cA : C8.Cal P w K mg base 9 "levels_of_all" (spAll A) []) (cF : C8.Cal P w K mg base 1 "is_filed" spIsFiled [])
    (cLv : C8.Cal P w K mg base 8 "levels_of" (spLevels A) []) (cSt : C8.Cal P w K mg base 4 "stretch_of" spStretch []) : C8.Cal P w K mg base 10 "answer_seek" (spOf A Pt shSeek) [] := by
  refine C8.cal0 D b .nil scASeek (fun vs H Q E h => ?_) (fun cdv B outer s H vs Q E hr h => ?_)
  · obtain ⟨_, _, _, _, _, _, _, _, _, _, _, rfl, _⟩ := h
    rfl
  · obtain ⟨d, c, g, k, U, N, na, ra, nums, rows, x, rfl, ⟨qt, l, rfl, rfl⟩, pre, q⟩ := h
    have nd := scASeek.nd
    refine ⟨_, pss_cons (ps_set (i := 3) nd rfl (.inl rfl) (pe_slice sl_list (pv 2) (po_some pe_int) po_none))
      (pss_cons (ps_if (pt_val (C8.pe_c cL hr (by decide) rfl (pa_cons (pv 2) pa_nil))) (pss_one (ps_ret (C8.pe_c cR hr (by decide) rfl (pa_cons pe_int pa_nil)))) pss_nil)
      (pss_cons (ps_if (pt_cmpR op_gt (pe_callB cr_len (by rfl) T.len PySem.boot_len (pa_cons (pv 3) pa_nil)) (gl T.MOST_TEXTS) (nomark _)) (pss_one (ps_ret (C8.pe_c cR hr (by decide) rfl (pa_cons pe_int pa_nil)))) pss_nil)
      (pss_cons (ps_set (i := 4) nd rfl (.inl rfl) (C8.pe_c cA hr (by decide) rfl (pa_cons (pe_fld (pv 0) rfl) (pa_cons (pv 3) pa_nil))))
      (pss_cons (ps_if (pt_not (pt_val (C8.pe_c cF hr (by decide) rfl (pa_cons (pv 4) pa_nil)))) (pss_one (ps_ret (C8.pe_c cR hr (by decide) rfl (pa_cons pe_int pa_nil)))) pss_nil)
      (pss_one (ps_ret (pe_op op_cat (pe_lst (pa_cons pe_int pa_nil)) (C8.pe_c cSt hr (by decide) rfl (pa_cons (pe_fld (pe_fld (pv 0) rfl) rfl) (pa_cons (C8.pe_c cLv hr (by decide) rfl (pa_cons (pe_fld (pv 0) rfl) (pa_cons (pe_ix ix_list (pv 2) pe_int (fun _ _ => rfl)) pa_nil))) (pa_cons (pv 4) pa_nil))))))))))), ?_⟩
    have hC := pre.code
    obtain ⟨dxd, hd⟩ := pre.desk
    obtain ⟨as, r1, r2⟩ := pre.rH
    have r2l := r2.len
    refine ⟨_, rfl, _, rfl, ra, _, rfl, .of r1, fun tx ntx => ?_⟩
    have s0 : ∀ o, Same H (upd H tx o) := fun o => Same.new ntx
    have htx : (upd H tx (.lst (cutV (refs as) (some ((1 : Nat) : Int)) none))) tx = some (.lst (refs (as.drop 1))) := by rw [upd_same, cut_from, refs_drop]
    have hrl := pre.rl
    have hll : l.length + 1 ≤ 100000 := hrl
    refine ⟨_, rfl, ra, qt :: l, rfl, ⟨as, s0 _ _ _ r1, r2.mono (nl_kp (.of (s0 _)))⟩, pre.rl, fun H1 s1' => ⟨_, rfl, ?_⟩⟩
    have s1 : Same H H1 := fun a o h => s1' _ _ (s0 _ _ _ h)
    have htx1 : H1 tx = some (.lst (refs (as.drop 1))) := s1' _ _ htx
    have r2d : All2 (NL H1) (as.drop 1) l := (r2.drop 1).mono (nl_kp (.of s1))
    have r2dl := r2d.len
    have es : IhFiling.step k (.seek l qt) = (k, if longB (qt :: l) = true then .refused 10 else if 4096 < l.length then .refused 1 else if IhFiling.isFiled k l = false then .refused 3 else .stretch (IhFiling.stretchOf k l qt).1 (IhFiling.stretchOf k l qt).2) := by
      show (k, if l.any IhFiling.long || IhFiling.long qt then _ else _) = _
      have : longB (qt :: l) = (l.any IhFiling.long || IhFiling.long qt) := by
        rw [Bool.or_comm]
        rfl
      rw [this]
      rfl
    rw [es] at q
    cases e : longB (qt :: l) with
    | true =>
      rw [e] at q
      exact iteT ⟨10, rfl, fun p np => ans_same pre q (.of s1) (hC.2.same s1) np⟩
    | false =>
      rw [e, if_neg Bool.false_ne_true] at q
      refine iteF ⟨_, rfl, tx, _, rfl, .inl (.of htx1), _, _, rfl, rfl, _, rfl, ite2 (fun h0 => ?_) (fun h0 => ?_)⟩
      · have h0' : 4096 < l.length := by
          have : ((4096 : Nat) : Int) < (refs (as.drop 1)).length := by simpa using h0
          rw [refs_len, r2dl] at this
          omega
        rw [if_pos h0'] at q
        exact ⟨1, rfl, fun p np => ans_same pre q (.of s1) (hC.2.same s1) np⟩
      · have h0' : ¬ 4096 < l.length := by
          have : ¬ ((4096 : Nat) : Int) < (refs (as.drop 1)).length := by simpa using h0
          rw [refs_len, r2dl] at this
          omega
        rw [if_neg h0'] at q
        have hle := long_le e
        refine ⟨_, rfl, rd_desk T (s1 _ _ hd) ⟨_, rfl, c, tx, U, g, k, l, rfl, hC.same s1, pre.gd, ⟨_, htx1, r2d⟩, by omega, fun t ht => ⟨hle t (List.mem_cons_of_mem _ ht), (pre.rw t (List.mem_cons_of_mem _ ht)).2⟩, pre.ul, fun H3 p3 k3 b3 hp3 => ?_⟩⟩
        have kH3 : Kp H H3 := (Kp.of s1).trans k3
        refine ⟨_, rfl, p3, k, l, rfl, hp3, pre.gd.way, by omega, _, rfl, ?_⟩
        cases ef : IhFiling.isFiled k l with
        | false =>
          rw [if_pos ef] at q
          exact iteT ⟨3, rfl, fun p np => ans_same pre q kH3 b3 np⟩
        | true =>
          rw [if_neg (by rw [ef]; exact nofun), Fx.stretch_eq ef] at q
          refine iteF ⟨(by show 1 ≤ sizeLine; decide), fun z nz => ?_⟩
          have s4 : Same H3 (upd H3 z (.lst [.int 0])) := Same.new nz
          have kH4 := kH3.trans (.of s4)
          obtain ⟨dc, hc, _⟩ := id hC.1
          obtain ⟨y, hy, hyq⟩ := r2.at2 (i := 0) (b := qt) rfl
          refine ⟨_, rfl, rd_desk T (kH4.ins hd) (rd_code T (kH4.ins hc) 0 ⟨_, rfl, rd_desk T (kH4.ins hd) ⟨_, rfl, ra, _, 0, _, rfl, rfl, .of (kH4.lst r1), atI_nat (refs_at' hy), ?_⟩⟩)⟩
          refine ⟨c, y, [], U, g, k, qt, rfl, nofun, by simp, ⟨hC.1.kp kH4, b3.same s4⟩, pre.gd, hyq.kp kH4, hle qt (by simp), pre.ul, (pre.rw qt (by simp)).2, fun H5 p5 k5 b5 hp5 => ?_⟩
          have hp5' := lev_kp (.of (Ct.sub _ _)) _ _ _ hp5
          have kH5 := kH4.trans k5
          have hz5 := k5.lst (a := z) upd_same
          refine ⟨_, rfl, p5, p3, k, qt, l, rfl, hp5', (hp3.kp (fun x a b h => levK_kp k x a b h) (.of s4)).kp (fun x a b h => levK_kp k x a b h) k5, pre.gd.way, by omega, fun H6 p6 s6 np6 hp6 => ?_⟩
          refine ⟨z, p6, _, _, rfl, rfl, s6 _ _ hz5, hp6, (by show 1 + 2 ≤ sizeLine; decide), fun p np => ?_⟩
          have ee : ([V.int 0] ++ [V.int (Fx.before k l qt : Nat), V.int ((Fx.before k l qt : Nat) + (Fx.begunN k l qt : Nat))]) = (FlNeutral.numbers (.stretch (Fx.before k l qt) (Fx.before k l qt + Fx.begunN k l qt))).map V.int := by
            show _ = [V.int 0, V.int (Fx.before k l qt : Nat), V.int ((Fx.before k l qt + Fx.begunN k l qt : Nat) : Int)]
            rw [Int.natCast_add]
            rfl
          rw [ee]
          exact ans_same pre q (kH5.trans (.of s6)) (b5.same s6) np
end
end Fp
end

section
namespace Fp
open PySem PySem.Spec PyProof.Rows L2
open LamX (TabB TabS ExtN CodeO)
open NdefX (TabN)
section
variable {A : Ad} {U : List Nat} {N : List Addr} {H H' X : Hp} {d c : Addr} {g : Gh} {k : Ih.Code}
theorem refs_snoc (l : List Addr) (a : Addr) : refs l ++ [V.ref a] = refs (l ++ [a]) := by rw [refs_app]; rfl
theorem desk_spell (h : DeskX A U X d c g k) : ∃ ss, X g.sp = some (.lst (refs ss)) ∧ ss.length = k.spells.length ∧ ∀ y s, NL (Ct (dm d c g) X) y s → DeskX A U (L2.upd X g.sp (.lst (refs ss ++ [.ref y]))) d c g { k with spells := k.spells ++ [s] } := by
  obtain ⟨dxd, dc, ss, ts, as, bs, kd, kvs, h1, h2, h3, h4, h5, n1, n2, n3, a1, a2, a3, b1, b2, b3, b4, b5⟩ := h
  refine ⟨ss, h3, a1.len, fun y s hy => ?_⟩
  have e : Ct (dm d c g) (L2.upd X g.sp (.lst (refs ss ++ [.ref y]))) = Ct (dm d c g) X := Ct.upd (by simp [dm])
  rw [refs_snoc] at e ⊢
  refine ⟨dxd, dc, ss ++ [y], ts, as, bs, kd, kvs, ?_, ?_, upd_same, ?_, ?_, n1, n2, n3, ?_, ?_, ?_, ?_, ?_, b3, ?_, b5.it (It.updL h3)⟩
  · rw [upd_ne (ne_of h1 h3 nofun)]; exact h1
  · rw [upd_ne (ne_of h2 h3 nofun)]; exact h2
  · rw [upd_ne (Ne.symm n1)]; exact h4
  · rw [upd_ne (Ne.symm n2)]; exact h5
  · rw [e]; exact a1.app ⟨hy, trivial⟩
  · rw [e]; exact a2
  · rw [e]; exact a3
  · rw [e]; exact b1
  · exact b2.trans (List.prefix_append _ _)
  · rw [upd_ne (ne_of b4 h3 nofun)]; exact b4
theorem desk_turn (h : DeskX A U X d c g k) : ∃ ss, X g.tn = some (.lst (refs ss)) ∧ ss.length = k.turns.length ∧ ∀ y s, TurnAt A (Ct (dm d c g) X) y s → DeskX A U (L2.upd X g.tn (.lst (refs ss ++ [.ref y]))) d c g { k with turns := k.turns ++ [s] } := by
  obtain ⟨dxd, dc, ss, ts, as, bs, kd, kvs, h1, h2, h3, h4, h5, n1, n2, n3, a1, a2, a3, b1, b2, b3, b4, b5⟩ := h
  refine ⟨ts, h4, a2.len, fun y s hy => ?_⟩
  have e : Ct (dm d c g) (L2.upd X g.tn (.lst (refs ts ++ [.ref y]))) = Ct (dm d c g) X := Ct.upd (by simp [dm])
  rw [refs_snoc] at e ⊢
  refine ⟨dxd, dc, ss, ts ++ [y], as, bs, kd, kvs, ?_, ?_, ?_, upd_same, ?_, n1, n2, n3, ?_, ?_, ?_, ?_, b2, b3, ?_, b5.it (It.updL h4)⟩
  · rw [upd_ne (ne_of h1 h4 nofun)]; exact h1
  · rw [upd_ne (ne_of h2 h4 nofun)]; exact h2
  · rw [upd_ne n1]; exact h3
  · rw [upd_ne (Ne.symm n3)]; exact h5
  · rw [e]; exact a1
  · rw [e]; exact a2.app ⟨hy, trivial⟩
  · rw [e]; exact a3
  · rw [e]; exact b1
  · rw [upd_ne (ne_of b4 h4 nofun)]; exact b4
theorem desk_art (h : DeskX A U X d c g k) : ∃ ss, X g.ar = some (.lst (refs ss)) ∧ ss.length = k.articles.length ∧ ∀ y s, NL (Ct (dm d c g) X) y s → DeskX A U (L2.upd X g.ar (.lst (refs ss ++ [.ref y]))) d c g { k with articles := k.articles ++ [s] } := by
  obtain ⟨dxd, dc, ss, ts, as, bs, kd, kvs, h1, h2, h3, h4, h5, n1, n2, n3, a1, a2, a3, b1, b2, b3, b4, b5⟩ := h
  refine ⟨as, h5, a3.len, fun y s hy => ?_⟩
  have e : Ct (dm d c g) (L2.upd X g.ar (.lst (refs as ++ [.ref y]))) = Ct (dm d c g) X := Ct.upd (by simp [dm])
  rw [refs_snoc] at e ⊢
  refine ⟨dxd, dc, ss, ts, as ++ [y], bs, kd, kvs, ?_, ?_, ?_, ?_, upd_same, n1, n2, n3, ?_, ?_, ?_, ?_, b2, b3, ?_, b5.it (It.updL h5)⟩
  · rw [upd_ne (ne_of h1 h5 nofun)]; exact h1
  · rw [upd_ne (ne_of h2 h5 nofun)]; exact h2
  · rw [upd_ne n2]; exact h3
  · rw [upd_ne n3]; exact h4
  · rw [e]; exact a1
  · rw [e]; exact a2
  · rw [e]; exact a3.app ⟨hy, trivial⟩
  · rw [e]; exact b1
  · rw [upd_ne (ne_of b4 h5 nofun)]; exact b4
/-- one more kept: what a caller learns -/
theorem ans_kept {Pt na ra L p : Addr} {nums : List Nat} {rows : List (List Nat)} {k' : Ih.Code} {H1 : Hp} {xs ys zs : List V} {Q : VK} {ans : List Int} (pre : Pre A U N Pt d c g k H na ra nums rows) (q : AnsQ A U N Pt d c g H k' ans Q) (s1 : Same H H1) (hL : St N H L = some (.lst xs)) (hm : L ∈ dm d c g)
    (np : (upd H1 L (.lst ys)) p = none) (ez : zs = ans.map V.int) (hd : DeskX A U (L2.upd (St N H1) L (.lst ys)) d c g k') : Q (.ref p) (upd (upd H1 L (.lst ys)) p (.lst zs)) := by
  subst ez
  have hLg := St.get hL
  have sn : Same (upd H1 L (.lst ys)) (upd (upd H1 L (.lst ys)) p (.lst (ans.map V.int))) := Same.new np
  refine q _ p c g ?_ (fun a o e n => ?_) (fun x hx => .inl hx) ?_ (fun xs' e => ?_) upd_same
  · have e := St.upd (N := N) (H := H1) (a := L) (o := .lst ys) hLg.1 trivial
    rw [← e] at hd
    exact hd.same (St.same sn)
  · have hg := Ct.get e
    have ha : a ≠ L := fun z => hg.1 (by rw [z]; exact hm)
    refine sn _ _ ?_
    rw [upd_ne ha]
    exact s1 _ _ (Dat.get hg.2).1
  · exact (tab_upd (pre.tb.ext s1) (s1 _ _ hLg.2.1) trivial).ext sn
  · by_cases z : p = L
    · subst z
      rw [upd_same] at np
      cases np
    · rw [upd_ne z, s1 _ _ e] at np
      cases np
end
section
variable {P : Program} {w : World} {K : PySem.W.Frag} {mg : Str → Option Value} {base : Heap} {A : Ad}
def shSpell : List Nat → List (List Nat) → IhFiling.Call → Prop := fun _ rows x => ∃ s, rows = [s] ∧ x = .spell s
def shArticle : List Nat → List (List Nat) → IhFiling.Call → Prop := fun _ rows x => ∃ s, rows = [s] ∧ x = .article s
def shTurn : List Nat → List (List Nat) → IhFiling.Call → Prop := fun nums rows x => ∃ w f t, nums = [w] ∧ rows = [f, t] ∧ x = .turn f t w
theorem len_no {l : List Nat} {m : Nat} (h : lenB l m = false) : l.length < 1 ∨ m < l.length := by
  unfold lenB at h
  simp at h
  omega
theorem len_yes {l : List Nat} {m : Nat} (h : lenB l m = true) : 1 ≤ l.length ∧ l.length ≤ m := by
  unfold lenB at h
  simp at h
  omega
theorem scASpell : FnScope ["desk", "numbers", "rows"] ["desk", "numbers", "rows"] (C8.fnScope (top 80)) := ⟨rfl, rfl, rfl, by decide +kernel, rfl, by decide +kernel, by decide +kernel⟩
theorem cal_aspell {Pt : Addr} {f : Addr} {fd : FuncData} (T : Tx K mg A) (D : C8.Def K mg "answer_spell" (top 80) f fd) (b : Binds K fd ["desk", "numbers", "rows"] []) (cL : C8.Cal P w K mg base 1 "has_length" spHasLen []) (cR : C8.Cal P w K mg base 1 "refused" spRefused []) (cK : C8.Cal P w K mg base 2 "keep_one_more" spKeep []) : C8.Cal P w K mg base 3 "answer_spell" (spOf A Pt shSpell) [] := by
  refine C8.cal0 D b .nil scASpell (fun vs H Q E h => ?_) (fun cdv B outer s H vs Q E hr h => ?_)
  · obtain ⟨_, _, _, _, _, _, _, _, _, _, _, rfl, _⟩ := h
    rfl
  · obtain ⟨d, c, g, k, U, N, na, ra, nums, rows, x, rfl, ⟨t, rfl, rfl⟩, pre, q⟩ := h
    refine ⟨_, pss_cons (ps_if (pt_not (pt_val (C8.pe_c cL hr (by decide) rfl (pa_cons (pe_ix ix_list (pv 2) pe_int (fun _ _ => rfl)) (pa_cons (gl T.LONGEST_SPELLING) pa_nil))))) (pss_one (ps_ret (C8.pe_c cR hr (by decide) rfl (pa_cons pe_int pa_nil)))) pss_nil)
      (pss_one (ps_ret (C8.pe_c cK hr (by decide) rfl (pa_cons (pe_fld (pe_fld (pv 0) rfl) rfl) (pa_cons (pe_ix ix_list (pv 2) pe_int (fun _ _ => rfl)) (pa_cons (gl T.MOST_SPELLINGS) pa_nil)))))), ?_⟩
    have hC := pre.code
    obtain ⟨dxd, hd⟩ := pre.desk
    obtain ⟨as, r1, r2⟩ := pre.hr
    obtain ⟨y, hy, hyt⟩ := r2.at2 (i := 0) (b := t) rfl
    have r1H : H ra = some (.lst (refs as)) := St.sub _ _ (Ct.get r1).2
    have hytH : NL H y t := St.sub _ _ (Ct.get (show Ct _ _ _ = some _ from hyt)).2
    obtain ⟨dc, hc, _⟩ := id hC.1
    have es : IhFiling.step k (.spell t) = (if t.length < 1 ∨ 4 < t.length then (k, .refused 1) else if 256 ≤ k.spells.length then (k, .refused 2) else ({ k with spells := k.spells ++ [t] }, .number k.spells.length)) := rfl
    rw [es] at q
    refine ⟨_, rfl, ra, _, 0, _, rfl, rfl, .of r1H, atI_nat (refs_at' hy), y, t, 4, rfl, hytH, _, rfl, ?_⟩
    cases e : lenB t 4 with
    | false =>
      rw [if_pos (len_no e)] at q
      exact iteT ⟨1, rfl, fun p np => ans_same pre q (Kp.refl H) hC.2 np⟩
    | true =>
      have hl := len_yes e
      rw [if_neg (by omega)] at q
      obtain ⟨ss, hss, hsl, hdk⟩ := desk_spell pre.dk
      have hssH := St.sub _ _ hss
      refine iteF ⟨_, rfl, rd_desk T hd (rd_code T hc 1 ⟨_, rfl, ra, _, 0, _, rfl, rfl, .of r1H, atI_nat (refs_at' hy), ?_⟩)⟩
      refine ⟨g.sp, .ref y, 256, refs ss, rfl, hssH, ?_, fun hm p np => ?_, fun hm p np => ?_⟩
      · rw [refs_len, hsl]
        have := pre.gd.sp
        omega
      · rw [refs_len, hsl] at hm
        rw [if_pos hm] at q
        exact ans_same pre q (Kp.refl H) hC.2 np
      · rw [refs_len, hsl] at hm
        rw [if_neg (by omega)] at q
        exact ans_kept pre q (fun _ _ z => z) hss (by simp [dm]) np (by rw [refs_len, hsl]; rfl) (hdk y t hyt)
theorem scAArticle : FnScope ["desk", "numbers", "rows"] ["desk", "numbers", "rows"] (C8.fnScope (top 82)) := ⟨rfl, rfl, rfl, by decide +kernel, rfl, by decide +kernel, by decide +kernel⟩
theorem cal_aarticle {Pt : Addr} {f : Addr} {fd : FuncData} (T : Tx K mg A) (D : C8.Def K mg "answer_article" (top 82) f fd) (b : Binds K fd ["desk", "numbers", "rows"] []) (cL : C8.Cal P w K mg base 1 "has_length" spHasLen []) (cR : C8.Cal P w K mg base 1 "refused" spRefused []) (cK : C8.Cal P w K mg base 2 "keep_one_more" spKeep []) : C8.Cal P w K mg base 3 "answer_article" (spOf A Pt shArticle) [] := by
  refine C8.cal0 D b .nil scAArticle (fun vs H Q E h => ?_) (fun cdv B outer s H vs Q E hr h => ?_)
  · obtain ⟨_, _, _, _, _, _, _, _, _, _, _, rfl, _⟩ := h
    rfl
  · obtain ⟨d, c, g, k, U, N, na, ra, nums, rows, x, rfl, ⟨t, rfl, rfl⟩, pre, q⟩ := h
    refine ⟨_, pss_cons (ps_if (pt_not (pt_val (C8.pe_c cL hr (by decide) rfl (pa_cons (pe_ix ix_list (pv 2) pe_int (fun _ _ => rfl)) (pa_cons (gl T.LONGEST_ARTICLE) pa_nil))))) (pss_one (ps_ret (C8.pe_c cR hr (by decide) rfl (pa_cons pe_int pa_nil)))) pss_nil)
      (pss_one (ps_ret (C8.pe_c cK hr (by decide) rfl (pa_cons (pe_fld (pe_fld (pv 0) rfl) rfl) (pa_cons (pe_ix ix_list (pv 2) pe_int (fun _ _ => rfl)) (pa_cons (gl T.MOST_ARTICLES) pa_nil)))))), ?_⟩
    have hC := pre.code
    obtain ⟨dxd, hd⟩ := pre.desk
    obtain ⟨as, r1, r2⟩ := pre.hr
    obtain ⟨y, hy, hyt⟩ := r2.at2 (i := 0) (b := t) rfl
    have r1H : H ra = some (.lst (refs as)) := St.sub _ _ (Ct.get r1).2
    have hytH : NL H y t := St.sub _ _ (Ct.get (show Ct _ _ _ = some _ from hyt)).2
    obtain ⟨dc, hc, _⟩ := id hC.1
    have es : IhFiling.step k (.article t) = (if t.length < 1 ∨ 16 < t.length then (k, .refused 1) else if 32 ≤ k.articles.length then (k, .refused 2) else ({ k with articles := k.articles ++ [t] }, .number k.articles.length)) := rfl
    rw [es] at q
    refine ⟨_, rfl, ra, _, 0, _, rfl, rfl, .of r1H, atI_nat (refs_at' hy), y, t, 16, rfl, hytH, _, rfl, ?_⟩
    cases e : lenB t 16 with
    | false =>
      rw [if_pos (len_no e)] at q
      exact iteT ⟨1, rfl, fun p np => ans_same pre q (Kp.refl H) hC.2 np⟩
    | true =>
      have hl := len_yes e
      rw [if_neg (by omega)] at q
      obtain ⟨ss, hss, hsl, hdk⟩ := desk_art pre.dk
      have hssH := St.sub _ _ hss
      refine iteF ⟨_, rfl, rd_desk T hd (rd_code T hc 3 ⟨_, rfl, ra, _, 0, _, rfl, rfl, .of r1H, atI_nat (refs_at' hy), ?_⟩)⟩
      refine ⟨g.ar, .ref y, 32, refs ss, rfl, hssH, ?_, fun hm p np => ?_, fun hm p np => ?_⟩
      · rw [refs_len, hsl]
        have := pre.gd.ar
        omega
      · rw [refs_len, hsl] at hm
        rw [if_pos hm] at q
        exact ans_same pre q (Kp.refl H) hC.2 np
      · rw [refs_len, hsl] at hm
        rw [if_neg (by omega)] at q
        exact ans_kept pre q (fun _ _ z => z) hss (by simp [dm]) np (by rw [refs_len, hsl]; rfl) (hdk y t hyt)
theorem scATurn : FnScope ["desk", "numbers", "rows"] ["desk", "numbers", "rows"] (C8.fnScope (top 81)) := ⟨rfl, rfl, rfl, by decide +kernel, rfl, by decide +kernel, by decide +kernel⟩
theorem cal_aturn {Pt : Addr} {f : Addr} {fd : FuncData} (T : Tx K mg A) (D : C8.Def K mg "answer_turn" (top 81) f fd) (b : Binds K fd ["desk", "numbers", "rows"] []) (cL : C8.Cal P w K mg base 1 "has_length" spHasLen []) (cR : C8.Cal P w K mg base 1 "refused" spRefused []) (cK : C8.Cal P w K mg base 2 "keep_one_more" spKeep []) (mT : C8.Mak P w K mg base 1 "Turn" A.turn (spTurnI A) []) : C8.Cal P w K mg base 3 "answer_turn" (spOf A Pt shTurn) [] := by
  refine C8.cal0 D b .nil scATurn (fun vs H Q E h => ?_) (fun cdv B outer s H vs Q E hr h => ?_)
  · obtain ⟨_, _, _, _, _, _, _, _, _, _, _, rfl, _⟩ := h
    rfl
  · obtain ⟨d, c, g, k, U, N, na, ra, nums, rows, x, rfl, ⟨wh, ft, bt, rfl, rfl, rfl⟩, pre, q⟩ := h
    refine ⟨_, pss_cons (ps_if (PW.pt (pw_or (pt_not (pt_val (C8.pe_c cL hr (by decide) rfl (pa_cons (pe_ix ix_list (pv 2) pe_int (fun _ _ => rfl)) (pa_cons (gl T.LONGEST_FRONT) pa_nil)))))
        (pw_or (pt_not (pt_val (C8.pe_c cL hr (by decide) rfl (pa_cons (pe_ix ix_list (pv 2) pe_int (fun _ _ => rfl)) (pa_cons (gl T.LONGEST_BROUGHT) pa_nil)))))
        (pw_or1 (pt_cmpR op_gt (pe_ix ix_list (pv 1) pe_int (fun _ _ => rfl)) pe_int (nomark _)))))) (pss_one (ps_ret (C8.pe_c cR hr (by decide) rfl (pa_cons pe_int pa_nil)))) pss_nil)
      (pss_one (ps_ret (C8.pe_c cK hr (by decide) rfl (pa_cons (pe_fld (pe_fld (pv 0) rfl) rfl) (pa_cons (C8.pe_mk mT hr (by decide) rfl (pa_cons (pe_ix ix_list (pv 2) pe_int (fun _ _ => rfl)) (pa_cons (pe_ix ix_list (pv 2) pe_int (fun _ _ => rfl)) (pa_cons (pe_ix ix_list (pv 1) pe_int (fun _ _ => rfl)) pa_nil)))) (pa_cons (gl T.MOST_TURNS) pa_nil)))))), ?_⟩
    have hC := pre.code
    obtain ⟨dxd, hd⟩ := pre.desk
    obtain ⟨as, r1, r2⟩ := pre.hr
    obtain ⟨y, hy, hyt⟩ := r2.at2 (i := 0) (b := ft) rfl
    obtain ⟨z, hz, hzt⟩ := r2.at2 (i := 1) (b := bt) rfl
    have r1H : H ra = some (.lst (refs as)) := St.sub _ _ (Ct.get r1).2
    have hytH : NL H y ft := St.sub _ _ (Ct.get (show Ct _ _ _ = some _ from hyt)).2
    have hztH : NL H z bt := St.sub _ _ (Ct.get (show Ct _ _ _ = some _ from hzt)).2
    have hnH : H na = some (.lst (vi [wh])) := pre.nH
    obtain ⟨dc, hc, _⟩ := id hC.1
    have es : IhFiling.step k (.turn ft bt wh) = (if ft.length < 1 ∨ 8 < ft.length ∨ bt.length < 1 ∨ 12 < bt.length ∨ 1 < wh then (k, .refused 1) else if 64 ≤ k.turns.length then (k, .refused 2) else ({ k with turns := k.turns ++ [⟨ft, bt, wh == 1⟩] }, .number k.turns.length)) := rfl
    rw [es] at q
    refine ⟨_, rfl, ra, _, 0, _, rfl, rfl, .of r1H, atI_nat (refs_at' hy), y, ft, 8, rfl, hytH, _, rfl, ?_⟩
    cases e1 : lenB ft 8 with
    | false =>
      have := len_no e1
      rw [if_pos (by omega)] at q
      exact iteT (iteT ⟨1, rfl, fun p np => ans_same pre q (Kp.refl H) hC.2 np⟩)
    | true =>
      have hl1 := len_yes e1
      refine iteF ⟨_, rfl, ra, _, 1, _, rfl, rfl, .of r1H, atI_nat (refs_at' hz), z, bt, 12, rfl, hztH, _, rfl, ?_⟩
      cases e2 : lenB bt 12 with
      | false =>
        have := len_no e2
        rw [if_pos (by omega)] at q
        exact iteT (iteT ⟨1, rfl, fun p np => ans_same pre q (Kp.refl H) hC.2 np⟩)
      | true =>
        have hl2 := len_yes e2
        refine iteF ⟨_, rfl, na, _, 0, .int (wh : Nat), rfl, rfl, .of hnH, rfl, _, _, rfl, rfl, _, rfl, ite2 (fun h0 => ?_) (fun h0 => ?_)⟩
        · have h0' : 1 < wh := by
            have : (1 : Int) < (wh : Nat) := by simpa using h0
            omega
          rw [if_pos (by omega)] at q
          exact ⟨1, rfl, fun p np => ans_same pre q (Kp.refl H) hC.2 np⟩
        · have h0' : ¬ 1 < wh := by
            have : ¬ (1 : Int) < (wh : Nat) := by simpa using h0
            omega
          rw [if_neg (by omega)] at q
          obtain ⟨ss, hss, hsl, hdk⟩ := desk_turn (k := k) (pre.dk)
          have hssH := St.sub _ _ hss
          refine ⟨_, rfl, rd_desk T hd (rd_code T hc 2 ⟨_, rfl, ra, _, 0, _, rfl, rfl, .of r1H, atI_nat (refs_at' hy), ?_⟩)⟩
          refine ⟨_, rfl, ra, _, 1, _, rfl, rfl, .of r1H, atI_nat (refs_at' hz), ?_⟩
          refine ⟨_, rfl, na, _, 0, .int (wh : Nat), rfl, rfl, .of hnH, rfl, ?_⟩
          intro tu dtu ntu ndtu ne
          have s1 := same_new3 (o := .own tu) (o' := .ins A.turn dtu []) (u' := .ins A.turn dtu (turnF y z (wh == 1))) ntu ndtu
          refine ⟨tu, dtu, y, z, wh, rfl, upd_same, by omega, rfl, ?_⟩
          generalize hG : upd (upd (upd H dtu (.own tu)) tu (.ins A.turn dtu [])) tu (.ins A.turn dtu (turnF y z (wh == 1))) = G at s1 ⊢
          have gt : G tu = some (.ins A.turn dtu (turnF y z (wh == 1))) := by rw [← hG]; exact upd_same
          clear hG
          have pdk := (pre.dk).same (St.same s1)
          obtain ⟨ss', hss', hsl', hdk'⟩ := desk_turn pdk
          have ess : refs ss = refs ss' := by
            have a1 := St.same (N := N) s1 _ _ hss
            rw [hss'] at a1
            injection (Option.some.inj a1).symm
          refine ⟨g.tn, .ref tu, 64, refs ss', rfl, St.sub _ _ hss', ?_, fun hm p np => ?_, fun hm p np => ?_⟩
          · rw [refs_len, hsl']
            have := pre.gd.tn
            omega
          · rw [refs_len, hsl'] at hm
            rw [if_pos hm] at q
            exact ans_same pre q (.of s1) (hC.2.same s1) np
          · rw [refs_len, hsl'] at hm
            rw [if_neg (by omega)] at q
            have htM : tu ∉ dm d c g := fun e => by
              have tr : Trk (dm d c g) H := by
                obtain ⟨dxd, dc, ss, ts, as, bs, kd, kvs, h1, h2, h3, h4, h5, _⟩ := pre.dk
                intro x hx
                simp only [dm, List.mem_cons, List.not_mem_nil, or_false] at hx
                rcases hx with e | e | e | e | e <;> subst e
                · exact ⟨_, St.sub _ _ h1⟩
                · exact ⟨_, St.sub _ _ h2⟩
                · exact ⟨_, St.sub _ _ h3⟩
                · exact ⟨_, St.sub _ _ h4⟩
                · exact ⟨_, St.sub _ _ h5⟩
              exact tr.new ntu e
            have htN : tu ∉ N := pre.ln.new ntu
            refine ans_kept pre q s1 hss (by simp [dm]) np (by rw [refs_len, hsl']; rfl) (hdk' tu ⟨ft, bt, wh == 1⟩ ⟨dtu, y, z, ?_, ?_, ?_⟩)
            · rw [Ct.out htM]
              exact St.put htN gt trivial
            · exact hyt.kp (.of (Ct.mono (St.same s1)))
            · exact hzt.kp (.of (Ct.mono (St.same s1)))
end
end Fp
end

section
namespace Fp
open PySem PySem.Spec PyProof.Rows L2
open LamX (TabB TabS ExtN CodeO)
open NdefX (TabN)
section
variable {A : Ad} {U : List Nat} {N : List Addr} {H H' X : Hp} {d c : Addr} {g : Gh} {k : Ih.Code}
theorem desk_trk (h : DeskX A U (St N H) d c g k) : Trk (dm d c g) H := by
  obtain ⟨dxd, dc, ss, ts, as, bs, kd, kvs, h1, h2, h3, h4, h5, _⟩ := h
  intro x hx
  simp only [dm, List.mem_cons, List.not_mem_nil, or_false] at hx
  rcases hx with e | e | e | e | e <;> subst e
  · exact ⟨_, St.sub _ _ h1⟩
  · exact ⟨_, St.sub _ _ h2⟩
  · exact ⟨_, St.sub _ _ h3⟩
  · exact ⟨_, St.sub _ _ h4⟩
  · exact ⟨_, St.sub _ _ h5⟩
theorem desk_norule (h : DeskX A U (St N H) d c g k) (s : Same H H') {a : Addr} {r : Ih.Rule} (hr : RuleAt A H' a r) : a ∉ dm d c g := fun hx => by
  obtain ⟨dxd, dc, ss, ts, as, bs, kd, kvs, h1, h2, h3, h4, h5, _⟩ := h
  obtain ⟨dx, hr⟩ := hr
  simp only [dm, List.mem_cons, List.not_mem_nil, or_false] at hx
  rcases hx with e | e | e | e | e <;> subst e
  · rw [s _ _ (St.sub _ _ h1)] at hr
    injection hr with hr
    injection hr with _ _ hr
    exact absurd (congrArg List.length hr) (by show ¬ (1 = 7); decide)
  · rw [s _ _ (St.sub _ _ h2)] at hr
    injection hr with hr
    injection hr with _ _ hr
    exact absurd (congrArg List.length hr) (by show ¬ (5 = 7); decide)
  · rw [s _ _ (St.sub _ _ h3)] at hr; cases hr
  · rw [s _ _ (St.sub _ _ h4)] at hr; cases hr
  · rw [s _ _ (St.sub _ _ h5)] at hr; cases hr
end
section
variable {P : Program} {w : World} {K : PySem.W.Frag} {mg : Str → Option Value} {base : Heap} {A : Ad}
def shBegin : List Nat → List (List Nat) → IhFiling.Call → Prop := fun nums _ x => ∃ w, nums = [w] ∧ x = .begin_ w
def shRules : List Nat → List (List Nat) → IhFiling.Call → Prop := fun _ rows x => ∃ l : List Ih.Rule, rows = [l.flatMap rNums] ∧ x = .rules l
theorem scABegin : FnScope ["desk", "numbers", "rows"] ["desk", "numbers", "rows"] (C8.fnScope (top 79)) := ⟨rfl, rfl, rfl, by decide +kernel, rfl, by decide +kernel, by decide +kernel⟩
theorem cal_abegin {Pt : Addr} {f : Addr} {fd : FuncData} (T : Tx K mg A) (D : C8.Def K mg "answer_begin" (top 79) f fd) (b : Binds K fd ["desk", "numbers", "rows"] []) (cR : C8.Cal P w K mg base 1 "refused" spRefused []) (cC : C8.Mak P w K mg base 5 "Code" A.code (spCodeI A) []) : C8.Cal P w K mg base 7 "answer_begin" (spOf A Pt shBegin) [] := by
  refine C8.cal0 D b .nil scABegin (fun vs H Q E h => ?_) (fun cdv B outer s H vs Q E hr h => ?_)
  · obtain ⟨_, _, _, _, _, _, _, _, _, _, _, rfl, _⟩ := h
    rfl
  · obtain ⟨d, c, g, k, U, N, na, ra, nums, rows, x, rfl, ⟨wy, rfl, rfl⟩, pre, q⟩ := h
    refine ⟨_, pss_cons (ps_if (pt_cmpR op_gt (pe_ix ix_list (pv 1) pe_int (fun _ _ => rfl)) (gl T.RIGHT_THROUGH) (nomark _)) (pss_one (ps_ret (C8.pe_c cR hr (by decide) rfl (pa_cons pe_int pa_nil)))) pss_nil)
      (pss_cons (ps_fld (pv 0) (C8.pe_mk cC hr (by decide) rfl (pa_cons (pe_ix ix_list (pv 1) pe_int (fun _ _ => rfl)) pa_nil)) rfl)
      (pss_one (ps_ret (pe_lst (pa_cons pe_int (pa_cons pe_int pa_nil)))))), ?_⟩
    have hC := pre.code
    obtain ⟨dxd, hd⟩ := pre.desk
    have hnH : H na = some (.lst (vi [wy])) := pre.nH
    have es : IhFiling.step k (.begin_ wy) = (if 1 < wy then (k, .refused 1) else (Ih.Code.bare wy, .number 0)) := rfl
    rw [es] at q
    refine ⟨_, rfl, na, _, 0, .int (wy : Nat), rfl, rfl, .of hnH, rfl, _, _, rfl, rfl, _, rfl, ite2 (fun h0 => ?_) (fun h0 => ?_)⟩
    · have h0' : 1 < wy := by
        have : ((1 : Nat) : Int) < (wy : Nat) := by simpa using h0
        omega
      rw [if_pos h0'] at q
      exact ⟨1, rfl, fun p np => ans_same pre q (Kp.refl H) hC.2 np⟩
    · have h0' : ¬ 1 < wy := by
        have : ¬ ((1 : Nat) : Int) < (wy : Nat) := by simpa using h0
        omega
      rw [if_neg h0'] at q
      refine ⟨_, rfl, na, _, 0, .int (wy : Nat), rfl, rfl, .of hnH, rfl, ?_⟩
      intro c' dc' nc ndc ne
      have s0 := same_new (o := .own c') (o' := .ins A.code dc' []) nc ndc
      refine ⟨c', dc', wy, rfl, upd_same, fun H1 g' dxb rl sl st ow kd starts bt n1 n2 n3 d1 d2 d3 hn hc hsp htn har hb hrl hsl hS hst how hkd => ⟨rfl, ?_⟩⟩
      have s1 : Same H H1 := fun z o hz => bt _ _ (s0 _ _ hz) (ne_of_none hz nc)
      have hd1 := s1 _ _ hd
      refine ⟨_, rfl, d, A.desk, dxd, deskF c, rfl, hd1, T.cDesk, T.nDesk _ (by simp), (by show 1 < 1000; decide), ?_⟩
      rw [put_at (ns := ["code"]) (n := 0) rfl (by decide +kernel)]
      refine ⟨(by show 2 ≤ sizeLine; decide), fun p np => ?_⟩
      have np' : (upd H1 d (.ins A.desk dxd (deskF c'))) p = none := np
      show Q (.ref p) (upd (upd H1 d (.ins A.desk dxd (deskF c'))) p (.lst [.int 0, .int 0]))
      have sn : Same (upd H1 d (.ins A.desk dxd (deskF c'))) (upd (upd H1 d (.ins A.desk dxd (deskF c'))) p (.lst [.int 0, .int 0])) := Same.new np'
      have up : ∀ {z : Addr} {o : HO}, H1 z = some o → z ≠ d → (upd H1 d (.ins A.desk dxd (deskF c'))) z = some o := fun hz hne => by
        rw [upd_ne hne]
        exact hz
      have upL : ∀ {z : Addr} {o : HO}, H1 z = some o → (∀ C dx fs, o ≠ .ins C dx fs) → (upd H1 d (.ins A.desk dxd (deskF c'))) z = some o := fun {z o} hz hn => up hz fun e => by
        subst e
        rw [hd1] at hz
        cases hz
        exact hn _ _ _ rfl
      have nl : ∀ {xs : List V} (C dx fs), HO.lst xs ≠ .ins C dx fs := fun _ _ _ => nofun
      have hNd : d ∉ N := pre.ln.not hd nofun
      have fr : ∀ {z : Addr}, H z = none → z ∉ N := fun hz => pre.ln.new hz
      have frn : ∀ x ∈ [rl, sl, st, ow], x ∉ [g'.sp, g'.tn, g'.ar] := fun x hx => (hn x hx).1
      have fro : ∀ x ∈ [rl, sl, st, ow], x ∉ N := fun x hx => fr (s0.free (hn x hx).2)
      have hN1 : Lists N (upd H1 d (.ins A.desk dxd (deskF c'))) := fun x hx => by
        obtain ⟨xs, e⟩ := pre.ln x hx
        exact ⟨xs, upL (s1 _ _ e) nl⟩
      have hdc : d ≠ c' := ne_of_none hd nc
      have hbp : g'.b ≠ d := fun e => by
        rw [e, hd1] at hb
        injection hb with hb
        injection hb with _ _ hb
        exact absurd (congrArg List.length hb) (by show ¬ (1 = 5); decide)
      refine q _ p c' g' ?_ (fun a o e n => ?_) (fun x hx => ?_) ((tab_upd (pre.tb.ext s1) hd1 trivial).ext sn) (fun xs e => ?_) upd_same
      · refine DeskX.same ?_ (St.same sn)
        exact desk_new (starts := starts) (St.put hNd upd_same trivial) (St.put (fr nc) (up hc (Ne.symm hdc)) trivial) (St.put (fr (s0.free n1)) (upL hsp nl) trivial) (St.put (fr (s0.free n2)) (upL htn nl) trivial) (St.put (fr (s0.free n3)) (upL har nl) trivial) d1 d2 d3
          (St.put (hN1.not (up hb hbp) nofun) (up hb hbp) trivial) (St.put (fro _ (by simp)) (upL hrl nl) trivial) (St.put (fro _ (by simp)) (upL hsl nl) trivial) hS (St.put (fro _ (by simp)) (upL hst nl) trivial) (St.put (fro _ (by simp)) (upL how nl) trivial)
          (St.put (hN1.not (upL hkd nofun) nofun) (upL hkd nofun) trivial) frn
      · have hg := Ct.get e
        refine sn _ _ (up (s1 _ _ (Dat.get hg.2).1) fun z => hg.1 (by rw [z]; simp [dm]))
      · simp only [dm, List.mem_cons, List.not_mem_nil, or_false] at hx
        rcases hx with e | e | e | e | e
        · rw [e]; left; simp [dm]
        · rw [e]; exact .inr nc
        · rw [e]; exact .inr (s0.free n1)
        · rw [e]; exact .inr (s0.free n2)
        · rw [e]; exact .inr (s0.free n3)
      · have := upL (s1 _ _ e) nl
        rw [this] at np'
        cases np'
theorem scARules : FnScope ["desk", "numbers", "rows", "book", "wrong"] ["desk", "numbers", "rows"] (C8.fnScope (top 83)) := ⟨rfl, rfl, rfl, by decide +kernel, rfl, by decide +kernel, by decide +kernel⟩
theorem cal_arules {Pt : Addr} {f : Addr} {fd : FuncData} (T : Tx K mg A) (D : C8.Def K mg "answer_rules" (top 83) f fd) (b : Binds K fd ["desk", "numbers", "rows"] []) (cR : C8.Cal P w K mg base 1 "refused" spRefused []) (cRR : C8.Cal P w K mg base 3 "read_rules" (spReadRules A) []) (mB : C8.Mak P w K mg base 3 "RuleBook" A.book (spBookI A) [])
    (cW : C8.Cal P w K mg base 4 "first_wrong_rule" (spWrong A) []) : C8.Cal P w K mg base 5 "answer_rules" (spOf A Pt shRules) [] := by
  refine C8.cal0 D b .nil scARules (fun vs H Q E h => ?_) (fun cdv B outer s H vs Q E hr h => ?_)
  · obtain ⟨_, _, _, _, _, _, _, _, _, _, _, rfl, _⟩ := h
    rfl
  · obtain ⟨d, c, g, k, U, N, na, ra, nums, rows, x, rfl, ⟨l, rfl, rfl⟩, pre, q⟩ := h
    have nd := scARules.nd
    refine ⟨_, pss_cons (ps_if (pt_cmpR op_gt (pe_callB cr_len (by rfl) T.len PySem.boot_len (pa_cons (pe_ix ix_list (pv 2) pe_int (fun _ _ => rfl)) pa_nil)) (pe_op op_mul (gl T.MOST_RULES) (gl T.NUMBERS_OF_A_RULE)) (nomark _)) (pss_one (ps_ret (C8.pe_c cR hr (by decide) rfl (pa_cons pe_int pa_nil)))) pss_nil)
      (pss_cons (ps_set (i := 3) nd rfl (.inl rfl) (C8.pe_mk mB hr (by decide) rfl (pa_cons (C8.pe_c cRR hr (by decide) rfl (pa_cons (pe_ix ix_list (pv 2) pe_int (fun _ _ => rfl)) pa_nil)) (pa_cons (pe_callTy call_list_of (by rfl) T.list (by decide +kernel) (pa_cons (pe_fld (pe_fld (pv 0) rfl) rfl) pa_nil)) pa_nil))))
      (pss_cons (ps_set (i := 4) nd rfl (.inl rfl) (C8.pe_c cW hr (by decide) rfl (pa_cons (pv 3) pa_nil)))
      (pss_cons (ps_if (pt_cmpR op_notN (pv 4) pe_non (nomark _)) (pss_one (ps_ret (pe_op op_cat (C8.pe_c cR hr (by decide) rfl (pa_cons pe_int pa_nil)) (pe_lst (pa_cons (pv 4) pa_nil))))) pss_nil)
      (pss_cons (ps_fld (pe_fld (pv 0) rfl) (pv 3) rfl)
      (pss_one (ps_ret (pe_lst (pa_cons pe_int (pa_cons pe_int pa_nil))))))))), ?_⟩
    have hC := pre.code
    obtain ⟨dxd, hd⟩ := pre.desk
    obtain ⟨as, r1, r2⟩ := pre.hr
    obtain ⟨y, hy, hyt⟩ := r2.at2 (i := 0) (b := l.flatMap rNums) rfl
    have r1H : H ra = some (.lst (refs as)) := St.sub _ _ (Ct.get r1).2
    have hytH : NL H y (l.flatMap rNums) := St.sub _ _ (Ct.get (show Ct _ _ _ = some _ from hyt)).2
    have es : IhFiling.step k (.rules l) = (if 1024 < l.length then (k, .refused 1) else match Ih.wrongRule l k.spells with
      | some i => (k, .refusedAt 3 i)
      | none => ({ k with rules := l }, .number 0)) := rfl
    rw [es] at q
    have hnl := nums_len l
    refine ⟨_, rfl, ra, _, 0, _, rfl, rfl, .of r1H, atI_nat (refs_at' hy), y, _, rfl, .inl (.of hytH), _, _, rfl, rfl, .inl ⟨by decide, by decide⟩, _, _, rfl, rfl, _, rfl, ite2 (fun h0 => ?_) (fun h0 => ?_)⟩
    · have h0' : 1024 < l.length := by
        have : ((1024 : Nat) : Int) * ((7 : Nat) : Int) < (vi (l.flatMap rNums)).length := by simpa using h0
        rw [vi_len, hnl] at this
        omega
      rw [if_pos h0'] at q
      exact ⟨1, rfl, fun p np => ans_same pre q (Kp.refl H) hC.2 np⟩
    have h0' : ¬ 1024 < l.length := by
      have : ¬ ((1024 : Nat) : Int) * ((7 : Nat) : Int) < (vi (l.flatMap rNums)).length := by simpa using h0
      rw [vi_len, hnl] at this
      omega
    rw [if_neg h0'] at q
    obtain ⟨dxd', dc, ss, ts, ars, bs, kd0, kvs0, g1, g2, g3, g4, g5, m1, m2, m3, a1, a2, a3, b1, b2, b3, b4, b5⟩ := id pre.dk
    have hc : H c = some (.ins A.code dc (codeF k.way g.sp g.tn g.ar g.b)) := St.sub _ _ g2
    have hsp : H g.sp = some (.lst (refs ss)) := St.sub _ _ g3
    have a1H : All2 (NL H) ss k.spells := a1.mono (nl_kp (.of fun a o e => St.sub _ _ (Ct.get e).2))
    refine ⟨_, rfl, ra, _, 0, _, rfl, rfl, .of r1H, atI_nat (refs_at' hy), y, l, rfl, hytH, by omega, fun H1 rl rs s1 nrl hrl hRs => ?_⟩
    refine ⟨_, rfl, rd_desk T (s1 _ _ hd) (rd_code T (s1 _ _ hc) 1 ⟨g.sp, _, rfl, .inl (.of (s1 _ _ hsp)), fun sl nsl => ?_⟩)⟩
    have s2 : Same H1 (upd H1 sl (.lst (refs ss))) := Same.new nsl
    generalize hG2 : upd H1 sl (.lst (refs ss)) = H2 at s2 ⊢
    have hsl2 : H2 sl = some (.lst (refs ss)) := by rw [← hG2]; exact upd_same
    clear hG2
    have s12 : Same H H2 := fun a o h => s2 _ _ (s1 _ _ h)
    intro bk dbk nbk ndbk ne
    have s3 := same_new (o := .own bk) (o' := .ins A.book dbk []) nbk ndbk
    generalize hG3 : upd (upd H2 dbk (.own bk)) bk (.ins A.book dbk []) = H3 at s3 ⊢
    have hbk3 : H3 bk = some (.ins A.book dbk []) := by rw [← hG3]; exact upd_same
    clear hG3
    refine ⟨bk, dbk, rl, sl, rs, l, rfl, hbk3, s3 _ _ (s2 _ _ hrl), (hRs.mono (RuleAt.kp (.of s2))).mono (RuleAt.kp (.of s3)), by omega, fun H4 st ow kd starts bt nst now nkd hbk hS hst how hkd => ⟨rfl, ?_⟩⟩
    have s24 : Same H2 H4 := fun a o h => bt _ _ (s3 _ _ h) (ne_of_none h nbk)
    have s4 : Same H H4 := fun a o h => s24 _ _ (s12 _ _ h)
    have hrl4 := s24 _ _ (s2 _ _ hrl)
    have hsl4 := s24 _ _ hsl2
    have hRs4 : All2 (RuleAt A H4) rs l := (hRs.mono (RuleAt.kp (.of s2))).mono (RuleAt.kp (.of s24))
    have hB4 : BookS A H4 bk kd l k.spells := ⟨dbk, rl, sl, st, ow, rs, starts, hbk, hrl4, hRs4, ⟨ss, hsl4, a1H.mono (nl_kp (.of s4))⟩, hS, hst, how⟩
    refine ⟨_, rfl, bk, kd, l, k.spells, rfl, hB4, fun H5 s5 => ?_⟩
    have s05 : Same H H5 := fun a o h => s5 _ _ (s4 _ _ h)
    cases ew : Ih.wrongRule l k.spells with
    | some i =>
      rw [ew] at q
      refine ⟨_, rfl, rfl, _, rfl, iteT ⟨3, rfl, fun p1 np1 => ⟨_, rfl, (by show 1 ≤ sizeLine; decide), fun p2 np2 => ?_⟩⟩⟩
      have hp12 : p1 ≠ p2 := ne_of_none upd_same np2
      have hp1 : (upd (upd H5 p1 (.lst [.int (-((3 : Nat) : Int))])) p2 (.lst [.int (i : Nat)])) p1 = some (.lst [.int (-((3 : Nat) : Int))]) := Same.new np2 _ _ upd_same
      refine ⟨p1, p2, _, _, rfl, rfl, hp1, upd_same, (by show 1 + 1 ≤ sizeLine; decide), fun p np => ?_⟩
      have s6 : Same H (upd (upd H5 p1 (.lst [.int (-((3 : Nat) : Int))])) p2 (.lst [.int (i : Nat)])) := fun a o h => Same.new np2 _ _ (Same.new np1 _ _ (s05 _ _ h))
      exact ans_same pre q (.of s6) (hC.2.same s6) np
    | none =>
      rw [ew] at q
      refine ⟨_, rfl, rfl, _, rfl, iteF ?_⟩
      have hc5 := s05 _ _ hc
      refine ⟨_, rfl, _, rfl, rd_desk T (s05 _ _ hd) ⟨c, A.code, dc, codeF k.way g.sp g.tn g.ar g.b, rfl, hc5, T.cCode, T.nCode _ (by simp), (by show 5 < 1000; decide), ?_⟩⟩
      rw [put_at (ns := ["way", "spellings", "turns", "articles", "book"]) (n := 4) rfl (by decide +kernel)]
      refine ⟨(by show 2 ≤ sizeLine; decide), fun p np => ?_⟩
      have np' : (upd H5 c (.ins A.code dc (codeF k.way g.sp g.tn g.ar bk))) p = none := np
      show Q (.ref p) (upd (upd H5 c (.ins A.code dc (codeF k.way g.sp g.tn g.ar bk))) p (.lst [.int 0, .int 0]))
      have sn : Same (upd H5 c (.ins A.code dc (codeF k.way g.sp g.tn g.ar bk))) (upd (upd H5 c (.ins A.code dc (codeF k.way g.sp g.tn g.ar bk))) p (.lst [.int 0, .int 0])) := Same.new np'
      have trk := desk_trk pre.dk
      have cN : c ∉ N := (St.get g2).1
      have up : ∀ {z : Addr} {o : HO}, H5 z = some o → z ≠ c → (upd H5 c (.ins A.code dc (codeF k.way g.sp g.tn g.ar bk))) z = some o := fun hz hne => by
        rw [upd_ne hne]
        exact hz
      -- what is new stands outside
      have fM : ∀ {z : Addr}, H z = none → z ∉ dm d c g := fun hz => trk.new hz
      have fN : ∀ {z : Addr}, H z = none → z ∉ N := fun hz => pre.ln.new hz
      have put : ∀ {z : Addr} {o : HO}, z ∉ dm d c g → z ∉ N → H5 z = some o → IsDat o → Ct (dm d c g) (St N (upd H5 c (.ins A.code dc (codeF k.way g.sp g.tn g.ar bk)))) z = some o := fun {z o} hM hN hz hd => by
        rw [Ct.out hM]
        exact St.put hN (up hz fun e => hM (by rw [e]; simp [dm])) hd
      have oldS : Same (Ct (dm d c g) (St N H)) (Ct (dm d c g) (St N (upd H5 c (.ins A.code dc (codeF k.way g.sp g.tn g.ar bk))))) := fun z o hz => by
        have hg := Ct.get hz
        have hs := St.get hg.2
        exact put hg.1 hs.1 (s05 _ _ hs.2.1) hs.2.2
      have nH3 : ∀ {z : Addr}, H3 z = none → H z = none := fun hz => s12.free (s3.free hz)
      have hnb : H bk = none := s12.free nbk
      have hnrl : H rl = none := nrl
      have hnsl : H sl = none := s1.free nsl
      have sT : ∀ {z : Addr} {o : HO}, H c ≠ none → St N H z = some o → z ≠ c → St N (upd H5 c (.ins A.code dc (codeF k.way g.sp g.tn g.ar bk))) z = some o := fun {z o} _ hz hne => by
        have hs := St.get hz
        exact St.put hs.1 (up (s05 _ _ hs.2.1) hne) hs.2.2
      have hcn : H c ≠ none := by rw [hc]; exact nofun
      have hright : ∀ r ∈ l, r.right l k.spells = true := fun r hr => by
        unfold Ih.wrongRule at ew
        rw [List.findIdx?_eq_none_iff] at ew
        have := ew r hr
        simpa using this
      refine q _ p c ⟨g.sp, g.tn, g.ar, bk⟩ ?_ (fun a o e n => ?_) (fun x hx => .inl hx) ((tab_upd (pre.tb.ext s05) hc5 trivial).ext sn) (fun xs e => ?_) upd_same
      · refine DeskX.same ?_ (St.same sn)
        refine ⟨dxd', dc, ss, ts, ars, k.spells, kd, [], sT hcn g1 ?_, St.put cN upd_same trivial, sT hcn g3 (ne_of g3 g2 nofun), sT hcn g4 (ne_of g4 g2 nofun), sT hcn g5 (ne_of g5 g2 nofun), m1, m2, m3, a1.mono (nl_kp (.of oldS)), a2.mono (TurnAt.kp (.of oldS)), a3.mono (nl_kp (.of oldS)),
          ⟨dbk, rl, sl, st, ow, rs, starts, put (fM hnb) (fN hnb) (s5 _ _ hbk) trivial, put (fM hnrl) (fN hnrl) (s5 _ _ hrl4) trivial, ?_, ⟨ss, put (fM hnsl) (fN hnsl) (s5 _ _ hsl4) trivial, a1.mono (nl_kp (.of oldS))⟩, hS, put (fM (nH3 nst)) (fN (nH3 nst)) (s5 _ _ hst) trivial, put (fM (nH3 now)) (fN (nH3 now)) (s5 _ _ how) trivial⟩,
          List.prefix_refl _, hright, ?_, fun p hp => (by cases hp), List.nodup_nil⟩
        · intro e
          rw [e, g2] at g1
          injection g1 with g1
          injection g1 with _ _ g1
          exact absurd (congrArg List.length g1) (by show ¬ (5 = 1); decide)
        · refine hRs4.mono fun x r hx => ?_
          have hx5 := RuleAt.kp (.of s5) x r hx
          have hxM := desk_norule pre.dk s05 hx5
          obtain ⟨dx, hx5⟩ := hx5
          refine ⟨dx, put hxM ?_ hx5 trivial⟩
          exact (pre.ln.kp (.of s05)).not hx5 nofun
        · refine St.put (fN (nH3 nkd)) (up (s5 _ _ hkd) fun e => ?_) trivial
          have := s5 _ _ hkd
          rw [e, hc5] at this
          cases this
      · have hg := Ct.get e
        exact sn _ _ (up (s05 _ _ (Dat.get hg.2).1) fun z => hg.1 (by rw [z]; simp [dm]))
      · by_cases z : p = c
        · rw [z, upd_same] at np'
          cases np'
        · rw [upd_ne z, s05 _ _ e] at np'
          cases np'
end
end Fp
end

section
namespace Fp
open PySem PySem.Spec PyProof.Rows L2
open LamX (TabB TabS ExtN CodeO)
open NdefX (TabN)
/-! ### which call it is -/
theorem zs_nats (l : List Nat) : FlNeutral.nats (Fn.zs l) = l := by
  unfold FlNeutral.nats Fn.zs
  rw [List.map_map]
  exact (List.map_congr_left (g := id) fun a _ => rfl).trans (List.map_id l)
theorem zs_natsL (l : List (List Nat)) : (l.map Fn.zs).map FlNeutral.nats = l := by
  rw [List.map_map]
  exact (List.map_congr_left (g := id) fun a _ => zs_nats a).trans (List.map_id l)
theorem whole_toR (c : Fn.CallN) : FlNeutral.whole (Fn.toR c) = true := by
  have h : ∀ l : List Nat, ((Fn.zs l).all fun (n : Int) => decide (0 ≤ n)) = true := fun l => by
    rw [List.all_eq_true]
    intro x hx
    obtain ⟨n, _, rfl⟩ := List.mem_map.mp hx
    simp
  unfold FlNeutral.whole Fn.toR
  rw [List.all_eq_true]
  intro r hr
  rcases List.mem_cons.mp hr with rfl | hr
  · exact h _
  · obtain ⟨l, _, rfl⟩ := List.mem_map.mp hr
    exact h l
theorem zs_nil {l : List Nat} (h : Fn.zs l = []) : l = [] := by
  cases l with
  | nil => rfl
  | cons a r => cases h
theorem zs_cons {l : List Nat} {x : Int} {r : List Int} (h : Fn.zs l = x :: r) : ∃ n l', l = n :: l' ∧ x = (n : Int) ∧ r = Fn.zs l' := by
  cases l with
  | nil => cases h
  | cons a t =>
    injection h with h1 h2
    exact ⟨a, t, rfl, h1.symm, h2.symm⟩
theorem map_nil' {l : List (List Nat)} (h : l.map Fn.zs = []) : l = [] := by
  cases l with
  | nil => rfl
  | cons a r => cases h
theorem map_cons' {l : List (List Nat)} {x : List Int} {r : List (List Int)} (h : l.map Fn.zs = x :: r) : ∃ n l', l = n :: l' ∧ x = Fn.zs n ∧ r = l'.map Fn.zs := by
  cases l with
  | nil => cases h
  | cons a t =>
    injection h with h1 h2
    exact ⟨a, t, rfl, h1.symm, h2.symm⟩
theorem rules_row : ∀ (n : Nat) (t : List Nat), t.length ≤ n → FlNeutral.ruleRow (Fn.zs t) = true → ∃ l : List Ih.Rule, t = l.flatMap rNums ∧ FlNeutral.rulesOf t = some l
  | n, [], _, _ => ⟨[], rfl, rfl⟩
  | 0, _ :: _, h, _ => by simp at h
  | n + 1, a :: t, hl, h => by
    rcases t with _ | ⟨b, t⟩
    · exact absurd (show false = true from h) Bool.false_ne_true
    rcases t with _ | ⟨k, t⟩
    · exact absurd (show false = true from h) Bool.false_ne_true
    rcases t with _ | ⟨r, t⟩
    · exact absurd (show false = true from h) Bool.false_ne_true
    rcases t with _ | ⟨m, t⟩
    · exact absurd (show false = true from h) Bool.false_ne_true
    rcases t with _ | ⟨c, t⟩
    · exact absurd (show false = true from h) Bool.false_ne_true
    rcases t with _ | ⟨w, t⟩
    · exact absurd (show false = true from h) Bool.false_ne_true
    have h' : (FlNeutral.whole32 (a : Int) && (FlNeutral.whole32 (b : Int) && (decide (0 ≤ (k : Int)) && (decide ((k : Int) ≤ 7) && (decide (0 ≤ (r : Int)) && (decide ((r : Int) ≤ 1) && (decide (0 ≤ (m : Int)) && (decide ((m : Int) ≤ 15) && (decide (0 ≤ (c : Int)) && (decide ((c : Int) ≤ 255) && (decide (0 ≤ (w : Int)) && (decide ((w : Int) ≤ 65535) && FlNeutral.ruleRow (Fn.zs t))))))))))))) = true := h
    simp only [Bool.and_eq_true, decide_eq_true_eq] at h'
    obtain ⟨_, _, _, _, _, hr, _, _, _, _, _, _, hl'⟩ := h'
    obtain ⟨rs, e1, e2⟩ := rules_row n t (by simp only [List.length_cons] at hl; omega) hl'
    have hr' : r = 0 ∨ r = 1 := by omega
    rcases hr' with e | e
    · subst e
      refine ⟨⟨a, b, k, false, m, c, w⟩ :: rs, ?_, ?_⟩
      · rw [List.flatMap_cons, ← e1]; rfl
      · show (match FlNeutral.bit? 0, FlNeutral.rulesOf t with
          | some x, some t2 => some ((⟨a, b, k, x, m, c, w⟩ : Ih.Rule) :: t2)
          | _, _ => none) = _
        rw [e2]; rfl
    · subst e
      refine ⟨⟨a, b, k, true, m, c, w⟩ :: rs, ?_, ?_⟩
      · rw [List.flatMap_cons, ← e1]; rfl
      · show (match FlNeutral.bit? 1, FlNeutral.rulesOf t with
          | some x, some t2 => some ((⟨a, b, k, x, m, c, w⟩ : Ih.Rule) :: t2)
          | _, _ => none) = _
        rw [e2]; rfl
theorem disp {n : Nat} {l : List Nat} {xs : List (List Nat)} (h : FlNeutral.asked1 (Fn.toR (n, l, xs)) = true) : ∃ x, FlNeutral.callOf (Fn.toR (n, l, xs)) = some x ∧
    ((n = 1 ∧ shBegin l xs x) ∨ (n = 2 ∧ shSpell l xs x) ∨ (n = 3 ∧ shTurn l xs x) ∨ (n = 4 ∧ shArticle l xs x) ∨ (n = 5 ∧ shRules l xs x) ∨ (n = 6 ∧ shOrder l xs x) ∨ (n = 7 ∧ shBegins l xs x) ∨ (n = 8 ∧ shGroup l xs x) ∨ (n = 9 ∧ shFile l xs x) ∨ (n = 10 ∧ shSeek l xs x)) := by
  have hw := whole_toR (n, l, xs)
  have co : ∀ {y : Option IhFiling.Call} , FlNeutral.callOf (Fn.toR (n, l, xs)) = y → FlNeutral.callOf (Fn.toR (n, l, xs)) = y := fun h => h
  unfold FlNeutral.asked1 at h
  have two : ∀ {r : List Int} {rs : List (List Int)}, Fn.toR (n, l, xs) = r :: rs → Fn.zs (n :: l) = r ∧ xs.map Fn.zs = rs := fun e => by
    injection e with e1 e2
    exact ⟨e1, e2⟩
  split at h
  · rename_i x0 e
    obtain ⟨e1, e2⟩ := two e
    obtain ⟨_, l', q1, q2, q3⟩ := zs_cons e1
    injection q1 with q1a q1b
    subst q1a q1b
    obtain ⟨w, l2, q4, q5, q6⟩ := zs_cons q3.symm
    obtain rfl := zs_nil q6.symm
    subst q4
    have en : n = 1 := by omega
    subst en
    obtain rfl := map_nil' e2
    exact ⟨.begin_ w, rfl, .inl ⟨rfl, w, rfl, rfl⟩⟩
  · rename_i t e
    obtain ⟨e1, e2⟩ := two e
    obtain ⟨_, l', q1, q2, q3⟩ := zs_cons e1
    injection q1 with q1a q1b
    subst q1a q1b
    obtain rfl := zs_nil q3.symm
    have en : n = 2 := by omega
    subst en
    obtain ⟨s, r, q4, q5, q6⟩ := map_cons' e2
    obtain rfl := map_nil' q6.symm
    subst q4
    refine ⟨.spell s, ?_, .inr (.inl ⟨rfl, s, rfl, rfl⟩)⟩
    unfold FlNeutral.callOf
    rw [if_neg (by rw [hw]; exact nofun)]
    show some (IhFiling.Call.spell (FlNeutral.nats (Fn.zs s))) = _
    rw [zs_nats]
  · rename_i w f t e
    obtain ⟨e1, e2⟩ := two e
    obtain ⟨_, l', q1, q2, q3⟩ := zs_cons e1
    injection q1 with q1a q1b
    subst q1a q1b
    obtain ⟨wn, l2, q4, q5, q6⟩ := zs_cons q3.symm
    obtain rfl := zs_nil q6.symm
    subst q4
    have en : n = 3 := by omega
    subst en
    obtain ⟨s, r, q7, q8, q9⟩ := map_cons' e2
    obtain ⟨s2, r2, q10, q11, q12⟩ := map_cons' q9.symm
    obtain rfl := map_nil' q12.symm
    subst q10
    subst q7
    refine ⟨.turn s s2 wn, ?_, .inr (.inr (.inl ⟨rfl, wn, s, s2, rfl, rfl, rfl⟩))⟩
    unfold FlNeutral.callOf
    rw [if_neg (by rw [hw]; exact nofun)]
    show some (IhFiling.Call.turn (FlNeutral.nats (Fn.zs s)) (FlNeutral.nats (Fn.zs s2)) (wn : Int).toNat) = _
    rw [zs_nats, zs_nats]
    rfl
  · rename_i t e
    obtain ⟨e1, e2⟩ := two e
    obtain ⟨_, l', q1, q2, q3⟩ := zs_cons e1
    injection q1 with q1a q1b
    subst q1a q1b
    obtain rfl := zs_nil q3.symm
    have en : n = 4 := by omega
    subst en
    obtain ⟨s, r, q4, q5, q6⟩ := map_cons' e2
    obtain rfl := map_nil' q6.symm
    subst q4
    refine ⟨.article s, ?_, .inr (.inr (.inr (.inl ⟨rfl, s, rfl, rfl⟩)))⟩
    unfold FlNeutral.callOf
    rw [if_neg (by rw [hw]; exact nofun)]
    show some (IhFiling.Call.article (FlNeutral.nats (Fn.zs s))) = _
    rw [zs_nats]
  · rename_i t e
    obtain ⟨e1, e2⟩ := two e
    obtain ⟨_, l', q1, q2, q3⟩ := zs_cons e1
    injection q1 with q1a q1b
    subst q1a q1b
    obtain rfl := zs_nil q3.symm
    have en : n = 5 := by omega
    subst en
    obtain ⟨s, r, q4, q5, q6⟩ := map_cons' e2
    obtain rfl := map_nil' q6.symm
    subst q4
    subst q5
    obtain ⟨rs, r1, r2⟩ := rules_row s.length s (Nat.le_refl _) h
    refine ⟨.rules rs, ?_, .inr (.inr (.inr (.inr (.inl ⟨rfl, rs, by rw [← r1], rfl⟩))))⟩
    unfold FlNeutral.callOf
    rw [if_neg (by rw [hw]; exact nofun)]
    show (FlNeutral.rulesOf (FlNeutral.nats (Fn.zs s))).map _ = _
    rw [zs_nats, r2]
    rfl
  · rename_i a b e
    obtain ⟨e1, e2⟩ := two e
    obtain ⟨_, l', q1, q2, q3⟩ := zs_cons e1
    injection q1 with q1a q1b
    subst q1a q1b
    obtain rfl := zs_nil q3.symm
    have en : n = 6 := by omega
    subst en
    obtain ⟨s, r, q7, q8, q9⟩ := map_cons' e2
    obtain ⟨s2, r2, q10, q11, q12⟩ := map_cons' q9.symm
    obtain rfl := map_nil' q12.symm
    subst q10
    subst q7
    refine ⟨.order s s2, ?_, .inr (.inr (.inr (.inr (.inr (.inl ⟨rfl, s, s2, rfl, rfl⟩)))))⟩
    unfold FlNeutral.callOf
    rw [if_neg (by rw [hw]; exact nofun)]
    show some (IhFiling.Call.order (FlNeutral.nats (Fn.zs s)) (FlNeutral.nats (Fn.zs s2))) = _
    rw [zs_nats, zs_nats]
  · rename_i a b e
    obtain ⟨e1, e2⟩ := two e
    obtain ⟨_, l', q1, q2, q3⟩ := zs_cons e1
    injection q1 with q1a q1b
    subst q1a q1b
    obtain rfl := zs_nil q3.symm
    have en : n = 7 := by omega
    subst en
    obtain ⟨s, r, q7, q8, q9⟩ := map_cons' e2
    obtain ⟨s2, r2, q10, q11, q12⟩ := map_cons' q9.symm
    obtain rfl := map_nil' q12.symm
    subst q10
    subst q7
    refine ⟨.begins s s2, ?_, .inr (.inr (.inr (.inr (.inr (.inr (.inl ⟨rfl, s, s2, rfl, rfl⟩))))))⟩
    unfold FlNeutral.callOf
    rw [if_neg (by rw [hw]; exact nofun)]
    show some (IhFiling.Call.begins (FlNeutral.nats (Fn.zs s)) (FlNeutral.nats (Fn.zs s2))) = _
    rw [zs_nats, zs_nats]
  · rename_i a e
    obtain ⟨e1, e2⟩ := two e
    obtain ⟨_, l', q1, q2, q3⟩ := zs_cons e1
    injection q1 with q1a q1b
    subst q1a q1b
    obtain rfl := zs_nil q3.symm
    have en : n = 8 := by omega
    subst en
    obtain ⟨s, r, q4, q5, q6⟩ := map_cons' e2
    obtain rfl := map_nil' q6.symm
    subst q4
    refine ⟨.group s, ?_, .inr (.inr (.inr (.inr (.inr (.inr (.inr (.inl ⟨rfl, s, rfl, rfl⟩)))))))⟩
    unfold FlNeutral.callOf
    rw [if_neg (by rw [hw]; exact nofun)]
    show some (IhFiling.Call.group (FlNeutral.nats (Fn.zs s))) = _
    rw [zs_nats]
  · rename_i r e
    obtain ⟨e1, e2⟩ := two e
    obtain ⟨_, l', q1, q2, q3⟩ := zs_cons e1
    injection q1 with q1a q1b
    subst q1a q1b
    obtain rfl := zs_nil q3.symm
    have en : n = 9 := by omega
    subst en
    refine ⟨.file xs, ?_, .inr (.inr (.inr (.inr (.inr (.inr (.inr (.inr (.inl ⟨rfl, rfl⟩))))))))⟩
    unfold FlNeutral.callOf
    rw [if_neg (by rw [hw]; exact nofun)]
    show some (IhFiling.Call.file ((xs.map Fn.zs).map FlNeutral.nats)) = _
    rw [zs_natsL]
  · rename_i r q e
    obtain ⟨e1, e2⟩ := two e
    obtain ⟨_, l', q1, q2, q3⟩ := zs_cons e1
    injection q1 with q1a q1b
    subst q1a q1b
    obtain rfl := zs_nil q3.symm
    have en : n = 10 := by omega
    subst en
    obtain ⟨s, r, q4, q5, q6⟩ := map_cons' e2
    subst q4
    refine ⟨.seek r s, ?_, .inr (.inr (.inr (.inr (.inr (.inr (.inr (.inr (.inr ⟨rfl, s, r, rfl, rfl⟩))))))))⟩
    unfold FlNeutral.callOf
    rw [if_neg (by rw [hw]; exact nofun)]
    show some (IhFiling.Call.seek ((r.map Fn.zs).map FlNeutral.nats) (FlNeutral.nats (Fn.zs s))) = _
    rw [zs_natsL, zs_nats]
  · cases h
/-- the next code is good too -/
theorem good_step {U : List Nat} {k : Ih.Code} (G : Good U k) {n : Nat} {l : List Nat} {xs : List (List Nat)} {x : IhFiling.Call} (hU : ∀ t ∈ xs, ∀ c ∈ t, c ∈ U)
    (h : (n = 1 ∧ shBegin l xs x) ∨ (n = 2 ∧ shSpell l xs x) ∨ (n = 3 ∧ shTurn l xs x) ∨ (n = 4 ∧ shArticle l xs x) ∨ (n = 5 ∧ shRules l xs x) ∨ (n = 6 ∧ shOrder l xs x) ∨ (n = 7 ∧ shBegins l xs x) ∨ (n = 8 ∧ shGroup l xs x) ∨ (n = 9 ∧ shFile l xs x) ∨ (n = 10 ∧ shSeek l xs x)) : Good U (IhFiling.step k x).1 := by
  rcases h with ⟨_, w, _, rfl⟩ | ⟨_, s, rfl, rfl⟩ | ⟨_, w, f, t, _, rfl, rfl⟩ | ⟨_, s, _, rfl⟩ | ⟨_, rs, _, rfl⟩ | ⟨_, a, b, _, rfl⟩ | ⟨_, a, b, _, rfl⟩ | ⟨_, a, _, rfl⟩ | ⟨_, rfl⟩ | ⟨_, q, r, _, rfl⟩
  · show Good U (if 1 < w then (k, _) else (Ih.Code.bare w, _)).1
    split
    · exact G
    · exact ⟨by show w ≤ 1; omega, Nat.zero_le _, fun s hs => (by cases hs), Nat.zero_le _, fun s hs => (by cases hs), fun s hs => (by cases hs), Nat.zero_le _, Nat.zero_le _⟩
  · show Good U (if s.length < 1 ∨ 4 < s.length then (k, _) else if 256 ≤ k.spells.length then (k, _) else ({ k with spells := k.spells ++ [s] }, _)).1
    split
    · exact G
    · split
      · exact G
      · refine ⟨G.way, ?_, fun y hy => ?_, G.tn, G.tn12, G.tnU, G.ar, G.rl⟩
        · show (k.spells ++ [s]).length ≤ 256
          rw [List.length_append, List.length_cons, List.length_nil]
          omega
        · rcases List.mem_append.mp hy with hy | hy
          · exact G.sp4 y hy
          · have : y = s := by simpa using hy
            subst this
            omega
  · show Good U (if f.length < 1 ∨ 8 < f.length ∨ t.length < 1 ∨ 12 < t.length ∨ 1 < w then (k, _) else if 64 ≤ k.turns.length then (k, _) else ({ k with turns := k.turns ++ [⟨f, t, w == 1⟩] }, _)).1
    split
    · exact G
    · split
      · exact G
      · refine ⟨G.way, G.sp, G.sp4, ?_, fun y hy => ?_, fun y hy => ?_, G.ar, G.rl⟩
        · show (k.turns ++ [_]).length ≤ 64
          rw [List.length_append, List.length_cons, List.length_nil]
          omega
        · rcases List.mem_append.mp hy with hy | hy
          · exact G.tn12 y hy
          · have : y = ⟨f, t, w == 1⟩ := by simpa using hy
            subst this
            show t.length ≤ 12
            omega
        · rcases List.mem_append.mp hy with hy | hy
          · exact G.tnU y hy
          · have : y = ⟨f, t, w == 1⟩ := by simpa using hy
            subst this
            exact hU t (by simp)
  · show Good U (if s.length < 1 ∨ 16 < s.length then (k, _) else if 32 ≤ k.articles.length then (k, _) else ({ k with articles := k.articles ++ [s] }, _)).1
    split
    · exact G
    · split
      · exact G
      · refine ⟨G.way, G.sp, G.sp4, G.tn, G.tn12, G.tnU, ?_, G.rl⟩
        show (k.articles ++ [s]).length ≤ 32
        rw [List.length_append, List.length_cons, List.length_nil]
        omega
  · show Good U (if 1024 < rs.length then (k, _) else match Ih.wrongRule rs k.spells with
      | some i => (k, _)
      | none => ({ k with rules := rs }, _)).1
    split
    · exact G
    · split
      · exact G
      · refine ⟨G.way, G.sp, G.sp4, G.tn, G.tn12, G.tnU, G.ar, ?_⟩
        show rs.length ≤ 1024
        omega
  · exact G
  · exact G
  · exact G
  · exact G
  · exact G
end Fp
end

section
namespace Fp
open PySem PySem.Spec PyProof.Rows L2
open LamX (TabB TabS ExtN CodeO)
open NdefX (TabN)
theorem told_app (a b : List (List Int)) : PyFlat.told (a ++ b) = PyFlat.told a ++ PyFlat.told b := by
  unfold PyFlat.told
  rw [List.flatMap_append]
theorem told_one (a : List Int) : PyFlat.told [a] = (a.length : Int) :: a := by
  unfold PyFlat.told
  simp
theorem St.hid {N : List Addr} {H : Hp} {a : Addr} {o : HO} (h : a ∈ N) : St N (L2.upd H a o) = St N H := by
  funext b
  by_cases e : b = a
  · subst e
    unfold St Ct
    rw [if_pos h, if_pos h]
  · unfold St Ct Dat
    rw [upd_ne e]
theorem calAt_of {P : Program} {w : World} {K : PySem.W.Frag} {mg : Str → Option Value} {base : Heap} {k : Nat} {x : Str} {sp : Sp} {f : Addr} (c : C8.Cal P w K mg base k x sp []) (hm : mg x = some (.ref f)) : C8.CalAt P w K mg base k f sp := by
  obtain ⟨f', fd, ps, ds, F, hm', kp, b, d⟩ := c.ex
  rw [hm] at hm'
  injection hm' with e
  injection e with e
  subst e
  cases d
  exact ⟨fd, ps, F, kp, b⟩
def Ent (P : Program) (w : World) (K : PySem.W.Frag) (mg : Str → Option Value) (base : Heap) (aC : Addr) (n k : Nat) (sp : Sp) : Prop := ∃ f, Fr.KInt K aC (n : Int) (.ref f) ∧ C8.CalAt P w K mg base k f sp
section
variable {P : Program} {w : World} {K : PySem.W.Frag} {mg : Str → Option Value} {base : Heap} {A : Ad}
theorem rd_call {H : Hp} {c a b dx : Addr} {n : Nat} {f : Str} {v : V} {G : V → Prop} (T : Tx K mg A) (h : H c = some (.ins A.call dx (callF n a b))) (i : Nat) (g : G v) (hm : f ∈ (["number", "numbers", "rows"] : List Str) := by decide +kernel) (h2 : (["number", "numbers", "rows"] : List Str).findIdx? (fun x => f == x) = some i := by decide +kernel) (h3 : ((callF n a b)[i]?).map (·.2) = some v := by rfl) :
    ∃ a' C dx fs v, V.ref c = .ref a' ∧ H a' = some (.ins C dx fs) ∧ Cls K C ∧ NoAttr K C f ∧ fs.lookup f = some v ∧ G v := rd_fld i h T.cCall (T.nCall f hm) rfl h2 h3 g
/-! ### answers -/
def spAnswers (K : PySem.W.Frag) (Pt : Addr) : Sp := fun vs H Q _ => ∃ (a : Addr) (ns : List Nat) (f : Nat) (cs : List Fn.CallN), vs = [.ref a] ∧ SqL K H a (vi ns) ∧ ns.length ≤ 100000 ∧ Fn.calls f ns = some cs ∧ (∀ c ∈ cs, FlNeutral.asked1 (Fn.toR c) = true) ∧ (PyFlat.told (PyFlat.played FlNeutral.step FlNeutral.start (cs.map Fn.toR))).length ≤ 10000000 ∧ TabN H Pt nmL ∧
  ∀ H' p, H' p = some (.lst ((PyFlat.told (PyFlat.played FlNeutral.step FlNeutral.start (cs.map Fn.toR))).map V.int)) → Q (.ref p) H'
theorem scAnswers : FnScope ["calls", "desk", "told", "call", "answer"] ["calls"] (C8.fnScope (top 90)) := ⟨rfl, rfl, rfl, by decide +kernel, rfl, by decide +kernel, by decide +kernel⟩
theorem ok_answers {Pt aC : Addr} {f : Addr} {fd : FuncData} (T : Tx K mg A) (D : C8.Def K mg "answers" (top 90) f fd) (hC : mg "CALLS" = some (.ref aC)) (mD : C8.Mak P w K mg base 7 "Desk" A.desk (spDeskI A) []) (cS : C8.Cal P w K mg base 4 "single_calls" (spSingles A K) [])
    (e1 : Ent P w K mg base aC 1 7 (spOf A Pt shBegin)) (e2 : Ent P w K mg base aC 2 3 (spOf A Pt shSpell)) (e3 : Ent P w K mg base aC 3 3 (spOf A Pt shTurn)) (e4 : Ent P w K mg base aC 4 3 (spOf A Pt shArticle)) (e5 : Ent P w K mg base aC 5 5 (spOf A Pt shRules)) (e6 : Ent P w K mg base aC 6 10 (spOf A Pt shOrder)) (e7 : Ent P w K mg base aC 7 10 (spOf A Pt shBegins))
    (e8 : Ent P w K mg base aC 8 9 (spOf A Pt shGroup)) (e9 : Ent P w K mg base aC 9 10 (spOf A Pt shFile)) (e10 : Ent P w K mg base aC 10 10 (spOf A Pt shSeek)) : FnOk P w K mg base C8.CX0 11 f fd ["calls"] (spAnswers K Pt) := by
  refine C8.fn0 D.fn scAnswers (fun vs H Q E h => ?_) (fun cdv B outer s H vs Q E hr h => ?_)
  · obtain ⟨_, _, _, _, rfl, _⟩ := h
    rfl
  · obtain ⟨a, ns, fu, cs, rfl, h1, h2, h3, h4, h5, h6, q⟩ := h
    have nd := scAnswers.nd
    refine ⟨_, pss_cons (ps_set (i := 1) nd rfl (.inl rfl) (pe_mk0 mD hr (by decide) rfl))
      (pss_cons (ps_set (i := 2) nd rfl (.inl rfl) (pe_lst pa_nil))
      (pss_cons (ps_for PassesOwn.never rfl (pi_list (C8.pe_c cS hr (by decide) rfl (pa_cons (pv 0) pa_nil))) (pg_name (i := 3) nd rfl (.inl rfl))
        (pss_cons (ps_set (i := 4) nd rfl (.inl rfl) (Fr.pe_callE (pe_ix Fr.ix_int (C8.pe_gc (v := .ref aC) (by rfl) ⟨_, hC, rfl⟩ (by decide)) (pe_fld (pv 3) rfl) (fun _ _ => rfl)) hr (pa_cons (pv 1) (pa_cons (pe_fld (pv 3) rfl) (pa_cons (pe_fld (pv 3) rfl) pa_nil)))))
        (pss_cons (ps_expr (pe_bm PySem.F.plainAttrs_list PySem.F.slot_list_append PySem.F.type_list_append mt_append (pv 2) (pa_cons (pe_callB cr_len (by rfl) T.len PySem.boot_len (pa_cons (pv 4) pa_nil)) pa_nil)))
        (pss_one (ps_expr (pe_bm PySem.F.plainAttrs_list PySem.F.slot_list_extend PySem.F.type_list_extend mt_extend (pv 2) (pa_cons (pv 4) pa_nil)))))))
      (pss_one (ps_ret (pv 2))))), ?_⟩
    have hall := Fn.calls_all h3
    intro d dx nd' ndx ne
    have s0 := same_new (o := .own d) (o' := .ins A.desk dx []) nd' ndx
    refine ⟨d, dx, [], rfl, upd_same, nofun, fun H1 c g bt hfr hdk => ⟨rfl, ?_⟩⟩
    have s1 : Same H H1 := fun z o hz => bt _ _ (s0 _ _ hz) (ne_of_none hz nd')
    refine ⟨by decide, fun L nL => ?_⟩
    have s2 : Same H1 (upd H1 L (.lst [])) := Same.new nL
    have sH2 : Same H (upd H1 L (.lst [])) := fun z o hz => s2 _ _ (s1 _ _ hz)
    have tb2 := h6.ext sH2
    generalize hG2 : upd H1 L (.lst []) = H2 at s2 sH2 tb2 ⊢
    have hL2 : H2 L = some (.lst []) := by rw [← hG2]; exact upd_same
    clear hG2
    -- the desk beside what is told
    have dk2 : DeskX A ns (St [L] H2) d c g (Ih.Code.bare 0) := (hdk ns).same fun z o hz => by
      have hg := St.get hz
      exact St.put (by simp; exact ne_of_none hg.2.1 nL) (s2 _ _ hg.2.1) hg.2.2
    have LM2 : L ∉ dm d c g := (desk_trk (hdk ns)).new nL
    have trk2 : Trk (L :: dm d c g) H2 := fun z hz => by
      rcases List.mem_cons.mp hz with e | hz
      · rw [e]; exact ⟨_, hL2⟩
      · exact ((desk_trk (hdk ns)).same s2) z hz
    refine ⟨_, rfl, a, L :: dm d c g, ns, fu, cs, rfl, sH2.seq h1, h2, h3, trk2, fun H3 p s3 hp => ?_⟩
    obtain ⟨as, hpa, hpc⟩ := hp
    have hpl := hpc.len
    have hcsl : cs.length ≤ ns.length := by
      have : ∀ (f : Nat) (l : List Nat) (cs : List Fn.CallN), Fn.calls f l = some cs → cs.length ≤ l.length := by
        intro f
        induction f with
        | zero =>
          intro l cs h
          cases l with
          | nil => cases h; exact Nat.le_refl _
          | cons _ _ => cases h
        | succ f ih =>
          intro l cs h
          cases l with
          | nil => cases h; exact Nat.zero_le _
          | cons x r =>
            obtain ⟨f', c0, t, ds, ef, g1, g2, rfl⟩ := Fn.calls_some h
            injection ef with ef
            subst ef
            have a1 := ih _ _ g2
            have a2 := (Fn.call_len g1).1
            rw [List.length_cons]
            omega
      exact this _ _ _ h3
    have putD : ∀ {M : List Addr} {X : Hp} {z : Addr} {o : HO}, Ct M X z = some o → IsDat o → Ct M (Dat X) z = some o := fun {M X z o} hz hd => by
      have hg := Ct.get hz
      rw [Ct.out hg.1]
      exact Dat.put hg.2 hd
    have hpa0 : Ct (L :: dm d c g) (Dat H3) p = some (.lst (refs as)) := putD hpa trivial
    have hpc0 : All2 (CallAt A (Ct (L :: dm d c g) (Dat H3))) as cs := hpc.mono fun y x ⟨dy, ya, yb, y1, y2, zs, y3, y4⟩ => ⟨dy, ya, yb, putD y1 trivial, putD (o := .lst _) y2 trivial, zs, putD (o := .lst _) y3 trivial, y4.mono fun z l hz => putD (o := .lst (vi l)) hz trivial⟩
    refine ⟨p, rfl, ⟨_, .of (Ct.get hpa).2⟩, for_list (K := K) (a := p) (xs := refs as) (fun i σ H' => ∃ (v3 v4 : Option V) (c : Addr) (g : Gh) (k : Ih.Code) (outs : List (List Int)), σ = [some (.ref a), some (.ref d), some (.ref L), v3, v4] ∧ DeskX A ns (St [L] H') d c g k ∧ Good ns k ∧ TabN H' Pt nmL ∧ L ∉ dm d c g ∧
      H' L = some (.lst ((PyFlat.told outs).map V.int)) ∧ Ct (L :: dm d c g) (Dat H') p = some (.lst (refs as)) ∧ All2 (CallAt A (Ct (L :: dm d c g) (Dat H'))) as cs ∧
      PyFlat.played FlNeutral.step FlNeutral.start (cs.map Fn.toR) = outs ++ PyFlat.played FlNeutral.step k ((cs.drop i).map Fn.toR)) ?_ ?_ ?_ ?_⟩
    · refine ⟨none, none, c, g, Ih.Code.bare 0, [], rfl, dk2.same (St.same s3), ?_, tb2.ext s3, LM2, s3 _ _ hL2, hpa0, hpc0, ?_⟩
      · exact ⟨Nat.zero_le _, Nat.zero_le _, fun s hs => (by cases hs), Nat.zero_le _, fun s hs => (by cases hs), fun s hs => (by cases hs), Nat.zero_le _, Nat.zero_le _⟩
      · rfl
    · rintro i σ H' _ ⟨v3, v4, c, g, k, outs, rfl, _, _, _, _, _, hp', _⟩
      exact .of (Dat.get (Ct.get hp').2).1
    · rintro i x σ H' hx ⟨v3, v4, c, g, k, outs, rfl, hdk', hgd, htb, hLM, hL, hp', hA, hpl'⟩
      obtain ⟨y, hy, rfl⟩ := refs_of hx
      obtain ⟨cl, hcl, hya⟩ := hA.at1 hy
      have hclm := List.mem_of_getElem? hcl
      have hask := h4 cl hclm
      obtain ⟨n, l, xs⟩ := cl
      obtain ⟨y0, hco, hdis⟩ := disp hask
      obtain ⟨dy, na, ra, c1, c2, c3⟩ := hya
      have c1H : H' y = some (.ins A.call dy (callF n na ra)) := (Dat.get (Ct.get c1).2).1
      have hal := hall _ hclm
      have hgs := good_step hgd (fun t ht => (hal.2.2.1 t ht).2) hdis
      -- the steady part of this turn
      have stS : Same (Ct (L :: dm d c g) (Dat H')) (Ct (dm d c g) (St [L] H')) := fun z o hz => by
        have hg := Ct.get hz
        rw [Ct.out (fun e => hg.1 (List.mem_cons_of_mem _ e))]
        unfold St
        rw [Ct.out (fun e => hg.1 (by
          have : z = L := by simpa using e
          rw [this]
          exact List.mem_cons_self))]
        exact hg.2
      have pre : Pre A ns [L] Pt d c g k H' na ra l xs := ⟨hdk', hgd, h2, htb, fun z hz => by
          have : z = L := by simpa using hz
          rw [this]
          exact ⟨_, hL⟩, c2.kp (.of stS), c3.kp nl_kp (.of stS), by have := hal.2.2.2; show xs.length ≤ _; exact Nat.le_trans this h2, fun t ht => ⟨Nat.le_trans (hal.2.2.1 t ht).1 h2, (hal.2.2.1 t ht).2⟩⟩
      have hstep : FlNeutral.step k (Fn.toR (n, l, xs)) = ((IhFiling.step k y0).1, FlNeutral.numbers (IhFiling.step k y0).2) := by
        unfold FlNeutral.step
        rw [hco]
      have hdrop : cs.drop i = (n, l, xs) :: cs.drop (i + 1) := by
        have hil : i < cs.length := (List.getElem?_eq_some_iff.mp hcl).1
        rw [List.drop_eq_getElem_cons hil, (List.getElem?_eq_some_iff.mp hcl).2]
      have hpl2 : PyFlat.played FlNeutral.step FlNeutral.start (cs.map Fn.toR) = (outs ++ [FlNeutral.numbers (IhFiling.step k y0).2]) ++ PyFlat.played FlNeutral.step (IhFiling.step k y0).1 ((cs.drop (i + 1)).map Fn.toR) := by
        rw [hpl', hdrop, List.map_cons, List.append_assoc]
        show _ ++ ((FlNeutral.step k (Fn.toR (n, l, xs))).2 :: PyFlat.played FlNeutral.step (FlNeutral.step k (Fn.toR (n, l, xs))).1 _) = _
        rw [hstep]
        rfl
      have htl : (PyFlat.told outs).length + 1 + (FlNeutral.numbers (IhFiling.step k y0).2).length ≤ 10000000 := by
        rw [hpl2, told_app, told_app, told_one, List.length_append, List.length_append, List.length_cons] at h5
        omega
      have hent : ∃ (f : Addr) (lv : Nat) (sh : List Nat → List (List Nat) → IhFiling.Call → Prop), lv ≤ 10 ∧ Fr.KInt K aC (n : Int) (.ref f) ∧ C8.CalAt P w K mg base lv f (spOf A Pt sh) ∧ sh l xs y0 := by
        rcases hdis with ⟨rfl, z⟩ | ⟨rfl, z⟩ | ⟨rfl, z⟩ | ⟨rfl, z⟩ | ⟨rfl, z⟩ | ⟨rfl, z⟩ | ⟨rfl, z⟩ | ⟨rfl, z⟩ | ⟨rfl, z⟩ | ⟨rfl, z⟩
        · obtain ⟨f, f1, f2⟩ := e1; exact ⟨f, _, _, by decide, f1, f2, z⟩
        · obtain ⟨f, f1, f2⟩ := e2; exact ⟨f, _, _, by decide, f1, f2, z⟩
        · obtain ⟨f, f1, f2⟩ := e3; exact ⟨f, _, _, by decide, f1, f2, z⟩
        · obtain ⟨f, f1, f2⟩ := e4; exact ⟨f, _, _, by decide, f1, f2, z⟩
        · obtain ⟨f, f1, f2⟩ := e5; exact ⟨f, _, _, by decide, f1, f2, z⟩
        · obtain ⟨f, f1, f2⟩ := e6; exact ⟨f, _, _, by decide, f1, f2, z⟩
        · obtain ⟨f, f1, f2⟩ := e7; exact ⟨f, _, _, by decide, f1, f2, z⟩
        · obtain ⟨f, f1, f2⟩ := e8; exact ⟨f, _, _, by decide, f1, f2, z⟩
        · obtain ⟨f, f1, f2⟩ := e9; exact ⟨f, _, _, by decide, f1, f2, z⟩
        · obtain ⟨f, f1, f2⟩ := e10; exact ⟨f, _, _, by decide, f1, f2, z⟩
      obtain ⟨fa, lv, sh, hlv, hki, hcal, hsh⟩ := hent
      refine ⟨_, rfl, rd_call T c1H 0 ⟨aC, n, .ref fa, rfl, rfl, hki, fa, lv, _, rfl, hlv, hcal, _, rfl, _, rfl, rd_call T c1H 1 ⟨_, rfl, rd_call T c1H 2 ?_⟩⟩⟩
      refine ⟨d, c, g, k, ns, [L], na, ra, l, xs, y0, rfl, hsh, pre, fun H4 pa c' g' dk4 k4 m4 t4 np4 hpa4 => ?_⟩
      have hL4 : H4 L = some (.lst ((PyFlat.told outs).map V.int)) := k4.lst (by rw [Ct.out hLM]; exact Dat.put hL trivial)
      have hpaL : pa ≠ L := fun e => np4 _ (by rw [e]; exact hL)
      refine ⟨_, rfl, .inl ⟨rfl, _, .of hL4⟩, _, rfl, pa, _, rfl, .inl (.of hpa4), L, _, _, rfl, rfl, hL4, ?_, ?_⟩
      · rw [List.length_map]
        exact Nat.lt_of_lt_of_le (show _ < 10000000 by omega) (by decide)
      have hL5 : (upd H4 L (.lst ((PyFlat.told outs).map V.int ++ [.int (((FlNeutral.numbers (IhFiling.step k y0).2).map V.int).length : Int)]))) L = some (.lst ((PyFlat.told outs).map V.int ++ [.int (((FlNeutral.numbers (IhFiling.step k y0).2).map V.int).length : Int)])) := upd_same
      have hpa5 : (upd H4 L (.lst ((PyFlat.told outs).map V.int ++ [.int (((FlNeutral.numbers (IhFiling.step k y0).2).map V.int).length : Int)]))) pa = some (.lst ((FlNeutral.numbers (IhFiling.step k y0).2).map V.int)) := by
        rw [upd_ne hpaL]
        exact hpa4
      refine ⟨_, rfl, .inl ⟨rfl, _, .of hL5⟩, _, rfl, L, pa, _, _, rfl, rfl, hL5, hpa5, ?_, ?_⟩
      · rw [List.length_append, List.length_map, List.length_map, List.length_cons, List.length_nil]
        exact Nat.le_trans (show _ ≤ 10000000 by omega) (by decide)
      rw [upd_upd]
      have eT : (PyFlat.told outs).map V.int ++ [V.int (((FlNeutral.numbers (IhFiling.step k y0).2).map V.int).length : Int)] ++ (FlNeutral.numbers (IhFiling.step k y0).2).map V.int = (PyFlat.told (outs ++ [FlNeutral.numbers (IhFiling.step k y0).2])).map V.int := by
        rw [told_app, told_one, List.map_append, List.map_cons, List.length_map, List.append_assoc]
        rfl
      rw [eT]
      have hLM' : L ∉ dm d c' g' := fun e => by
        rcases m4 L e with e | e
        · exact hLM e
        · rw [hL] at e; cases e
      have keep : ∀ {z : Addr} {o : HO}, Ct (L :: dm d c g) (Dat H') z = some o → NoD o → Ct (L :: dm d c' g') (Dat (upd H4 L (.lst ((PyFlat.told (outs ++ [FlNeutral.numbers (IhFiling.step k y0).2])).map V.int)))) z = some o := fun {z o} hz hn => by
        have hg := Ct.get hz
        have hzL : z ≠ L := fun e => hg.1 (by rw [e]; simp)
        have hzM : z ∉ dm d c g := fun e => hg.1 (List.mem_cons_of_mem _ e)
        have hd := Dat.get hg.2
        have hz4 : H4 z = some o := k4 _ _ (by rw [Ct.out hzM]; exact hg.2) hn
        rw [Ct.out (fun e => ?_)]
        · refine Dat.put ?_ hd.2
          rw [upd_ne hzL]
          exact hz4
        · rcases List.mem_cons.mp e with e | e
          · exact hzL e
          · rcases m4 z e with e | e
            · exact hzM e
            · rw [hd.1] at e; cases e
      refine ⟨_, _, c', g', (IhFiling.step k y0).1, outs ++ [FlNeutral.numbers (IhFiling.step k y0).2], rfl, ?_, hgs, tab_upd t4 hL4 trivial, hLM', upd_same, keep hp' (fun _ => nofun), hA.mono (CallAt.kp fun z o hz hn => keep hz hn), hpl2⟩
      rw [St.hid (by simp)]
      exact dk4
    · rintro σ H' ⟨v3, v4, c, g, k, outs, rfl, _, _, _, _, hL, _, _, hpl'⟩
      rw [refs_len, hpl, List.drop_length] at hpl'
      have e : PyFlat.played FlNeutral.step FlNeutral.start (cs.map Fn.toR) = outs := by
        rw [hpl']
        show outs ++ [] = outs
        rw [List.append_nil]
      refine ⟨_, rfl, q _ L ?_⟩
      rw [e]
      exact hL
end
end Fp
end

section
namespace Fe
open PySem PySem.Spec PyProof.Rows L2
open PySem.W (WData Codec OpenSpec Well WellAll ReadsW ReadsAllW)
open LamX (TabB)
/-- a call while one def's table of code objects is tracked -/
theorem callT {P : Program} {w : World} {K : PySem.W.Frag} {mg mb : Str → Option Value} {k : Nat} {fa c Pt : Addr} {fd : FuncData} {ps : List Str} {sp : Sp} {s1 : Shared} {vals : List Value} {ds : List WData} {R : PySem.W.WRecords} {cl : Str → Option Addr} {d0 : WData}
    (KX : K.In s1.heap) (hns : s1.heap.Ns mainGlobals mg) (hb : s1.heap.Ns builtinsNs mb) (hbb : ∀ x : Str, x ≠ "__name__" → mb x = bootBuiltins x) (hlim : s1.heap.NoLimit) (hg : s1.gens = #[])
    (hT : s1.heap.get? Pt = some { cls := .none, data := .fields #[] }) (nT : K.lookup Pt = none) (hC : PySem.W.CodeHd s1.heap c Pt)
    (hbm : ∃ (bm : Addr) (ob : Obj), mg "__builtins__" = some (.ref bm) ∧ bm ≠ builtinsNs ∧ s1.heap.get? bm = some ob ∧ ob.cls = .type "module" ∧ ob.dict = some builtinsNs ∧ ob.data = .plain)
    (hwl : WellAll w.params s1.heap vals ds) (hpl : plWs ds = true) (hwt : ∀ d ∈ ds, d.weight ≤ 1048576) (hr : Room k callerA)
    (F : ∀ base : Heap, K.In base → base.Ns mainGlobals mg → TabB base mg c Pt → FnOk P w K mg base CX0 k fa fd ps sp) (hbind : ∀ (s : Shared) (us : List Value), us.length = ps.length → BindsTo s fd ⟨us, []⟩ (ps.zip us)) (hlen : ds.length = ps.length)
    (hsp : ∀ (H0 H : Hp) (xs : List V), Same H0 H → H Pt = some (.tbl #[]) → DwAll K H0 xs ds → sp xs H (fun v H' => Dw K H' v d0) fun _ _ _ => False) :
    codeAny (model P w) callerA (.call (.ref fa) ⟨vals, []⟩) (fun r s' => ∃ u as, r = .ok (.ret u) ∧ ReadsW R cl s'.heap u d0 as ∧ OldK s1.heap s'.heap ∧ s'.os = s1.os ∧ AllBare s'.gens) s1 := by
  obtain ⟨A, ho, ar⟩ := area_all ds vals hwl hpl hwt
  -- what is tracked: the arguments, and the table
  have nA : argH K s1.heap A Pt = none := by
    cases q : argH K s1.heap A Pt with
    | none => rfl
    | some u =>
      exfalso
      obtain ⟨_, vs, _, _, ⟨e, _⟩ | ⟨e, _⟩⟩ := argH_is ar q
      · rw [hT] at e
        injection e with e
        injection e with e
        cases e
      · rw [hT] at e
        injection e with e
        injection e with e
        cases e
  let H : Hp := upd (argH K s1.heap A) Pt (.tbl #[])
  have hHP : H Pt = some (.tbl #[]) := upd_same
  have hHn : ∀ {b : Addr}, b ≠ Pt → H b = argH K s1.heap A b := fun hb => upd_ne hb
  have sA : Same (argH K s1.heap A) H := fun b o e => by
    rw [hHn (ne_of_none e nA)]
    exact e
  have cases3 : ∀ b u, H b = some u → (b = Pt ∧ u = .tbl #[]) ∨ (argH K s1.heap A b = some u ∧ b ≠ Pt) := fun b u e => by
    by_cases z : b = Pt
    · subst z
      rw [hHP] at e
      exact .inl ⟨rfl, (Option.some.inj e).symm⟩
    · rw [hHn z] at e
      exact .inr ⟨e, z⟩
  have okA : HOk P w (argH K s1.heap A) s1.heap := argH_ok ar
  have hok : HOk P w H s1.heap := fun b u e => by
    rcases cases3 b u e with ⟨rfl, rfl⟩ | ⟨e2, _⟩
    · exact hT
    · obtain ⟨_, vs, h1, h2, ⟨e3, rfl⟩ | ⟨e3, rfl⟩⟩ := argH_is ar e2
      · exact ⟨e3, by rw [List.length_map]; exact h1, vs, _, vals_toV h2, e3⟩
      · exact ⟨e3, by rw [List.length_map]; exact h1, vs, vals_toV h2, _, e3, rfl, _, rfl⟩
  have hnK : ∀ b u, H b = some u → K.lookup b = none := fun b u e => by
    rcases cases3 b u e with ⟨rfl, rfl⟩ | ⟨e2, _⟩
    · exact nT
    · exact (argH_is ar e2).1
  have noD : ∀ {b : Addr} {o : Obj}, s1.heap.get? b = some o → (∀ vs n, o.data ≠ .seq vs n) → o.data ≠ .fields #[] → H b = none := fun {b o} e h1 h2 => by
    cases q : H b with
    | none => rfl
    | some u =>
      exfalso
      rcases cases3 b u q with ⟨rfl, _⟩ | ⟨e2, _⟩
      · rw [hT] at e
        cases e
        exact h2 rfl
      · obtain ⟨_, vs, _, _, ⟨e3, _⟩ | ⟨e3, _⟩⟩ := argH_is ar e2
        · rw [e3] at e
          cases e
          exact h1 _ _ rfl
        · rw [e3] at e
          cases e
          exact h1 _ _ rfl
  have below : ∀ {b : Addr} {o : Obj}, s1.heap.get? b = some o → H b = none → (hidT s1.heap H).get? b = some o := fun e n => hidT_get e n
  have nsB : ∀ {b : Addr} {m : Str → Option Value}, s1.heap.Ns b m → (hidT s1.heap H).Ns b m := fun {b m} ⟨o, es, ep, e, d, r⟩ => ⟨o, es, ep, below e (noD e (fun vs n z => by rw [d] at z; cases z) (fun z => by rw [d] at z; cases z)), d, r⟩
  have hKb : K.In (hidT s1.heap H) := fun b o e => below (KX b o e) (by
    cases q : H b with
    | none => rfl
    | some u => rw [hnK b u q] at e; cases e)
  have hM : L2.Mod K mg (hidT s1.heap H) := ⟨hKb, nsB hns, ⟨mb, nsB hb, hbb⟩, let ⟨mc, h1, h2⟩ := hlim; ⟨mc, nsB h1, h2⟩⟩
  have TB : TabB (hidT s1.heap H) mg c Pt := by
    refine ⟨?_, ?_, fun z => ?_⟩
    · obtain ⟨o, us, file, tf, flags, tg, inF, text, tt, e1, r1, r2, r3, r4, r5, r6, r7, r8, hne⟩ := hC
      refine ⟨o, us, file, tf, flags, tg, inF, text, tt, below e1 (noD e1 (fun vs n z => ?_) fun z => ?_), r1, r2, r3, r4, r5, r6, r7, r8, hne⟩
      · rw [r2] at z; cases z
      · rw [r2] at z
        cases z
        simp at r3
    · obtain ⟨bm, ob, b1, b2, b3, b4, b5, b6⟩ := hbm
      refine ⟨bm, ob, b1, b2, fun q => ?_, fun q => ?_, below b3 (noD b3 (fun vs n z => ?_) fun z => ?_), b4, b5, b6⟩
      · obtain ⟨o, es, ep, e, hd, _⟩ := hns
        rw [q, e] at b3
        cases b3
        rw [hd] at b6; cases b6
      · rw [q, hT] at b3
        cases b3
        cases b6
      · rw [b6] at z; cases z
      · rw [b6] at z; cases z
    · obtain ⟨o, es, ep, e, hd, _⟩ := hns
      rw [z, hT] at e
      cases e
      cases hd
  have e0 : Env0 P w K mg (hidT s1.heap H) callerA [] s1 H := ⟨rfl, hM, fun b o e => of_hidT e, Nat.le_of_eq (hidT_size _ _), trivial, fun b hb => absurd (show b ∈ ([] : List Addr) from hb) (by simp), hok, .of_eq hg⟩
  have hl : vals.length = ps.length := by rw [wellAll_len hwl]; exact hlen
  have hS := dw_all KX ar ds vals hwl hpl ho
  refine codeAny_mono ((F _ hKb (nsB hns) TB).run callerA [] s1 H ⟨vals, []⟩ vals (vals.map toV) _ _ hr e0 (hbind s1 vals hl) (vals_toV ho) (hsp _ H _ sA hHP hS)) fun r s' x => ?_
  cases r with
  | error e => exact False.elim x
  | ok fl =>
    cases fl with
    | next => exact False.elim x
    | brk => exact False.elim x
    | cont => exact False.elim x
    | ret u =>
      obtain ⟨v, H', os, bare, un, hok', r', q⟩ := x
      have kept : ∀ b o, b ≠ Pt → s1.heap.get? b = some o → s'.heap.get? b = some o := fun b o hbP e => by
        cases q2 : H b with
        | none => exact un.keep b o e q2 (by intro z; exact absurd (show b ∈ ([] : List Addr) from z) (by simp)) (by simp)
        | some u2 =>
          rcases cases3 b u2 q2 with ⟨rfl, _⟩ | ⟨e2, _⟩
          · exact absurd rfl hbP
          · rcases argH_only ar b with z | ⟨ob, u3, z⟩
            · rw [e2] at z; cases z
            · have z1 : H b = some (.frz ob u3) := sA _ _ z
              have z2 := un.frzs b ob _ z1
              obtain ⟨f1, _⟩ := hok b _ z1
              obtain ⟨f2, _⟩ := hok' b _ z2
              rw [e] at f1
              cases f1
              exact f2
      have KX' : K.In s'.heap := fun b o e => kept b o (fun z => by rw [z, nT] at e; cases e) (KX b o e)
      obtain ⟨more, gm⟩ := un.tbls Pt #[] hHP
      have grown : s'.heap.get? Pt = some { cls := .none, data := .fields (#[] ++ more) } := hok' Pt _ gm
      rw [Array.empty_append] at grown
      obtain ⟨as, hrd⟩ := Dw.reads (R := R) (cl := cl) hok' KX' d0 v u q r'
      refine ⟨u, as, rfl, hrd, ⟨fun b o e => ?_, fun b o e => ?_⟩, os, bare⟩
      · by_cases z : b = Pt
        · subst z
          rw [hT] at e
          cases e
          exact .inr (.inl ⟨(hC.tab hT).isCodeTable, rfl, #[], more, rfl, by rw [Array.empty_append]; exact grown⟩)
        · exact .inl (kept b o z e)
      · by_cases z : b = Pt
        · subst z
          exact ⟨_, grown⟩
        · exact ⟨o, kept b o z e⟩
/-- what the head leaves, from the promise of the row's def -/
theorem walkT {r : OpenSpec} {k : Nat} {q : Program} {loose : List Str} {XP : (Str → Option Value) → Heap → Prop} {YP : World → Heap → Prop} {d : DefRec} {K : Params → PySem.W.Frag} {ps : List Str} {c Pt : Addr} {sp : PySem.W.Frag → Sp}
    (hwell : r.wellSaid = true) (hdf : d.params.defaults = []) (hlen : r.args.length = ps.length) (hr : Room k callerA)
    (hY : ∀ (w : World) (h : Heap), YP w h → (K w.params).In h ∧ h.get? Pt = some { cls := .none, data := .fields #[] })
    (hK : ∀ w : World, (K w.params).lookup Pt = none ∧ PySem.W.codeHdIn (K w.params) c Pt = true)
    (F : ∀ (w : World) (mg : Str → Option Value) (fa : Addr) (h : Heap), (K w.params).In h → h.Ns mainGlobals mg → mg d.name = some (.ref fa) →
      ∃ fd : FuncData, (∀ (s : Shared) (us : List Value), us.length = ps.length → BindsTo s fd ⟨us, []⟩ (ps.zip us)) ∧
        ∀ base : Heap, (K w.params).In base → base.Ns mainGlobals mg → TabB base mg c Pt → FnOk r.prog w (K w.params) mg base CX0 k fa fd ps (sp (K w.params)))
    (hsp : ∀ (K : PySem.W.Frag) (H0 H : Hp) (xs : List V) (a : Codec.denoteAll r.args), Same H0 H → H Pt = some (.tbl #[]) → Codec.withinAll r.args a = true → Codec.app r.args r.asked a = true → DwAll K H0 xs (Codec.encAll r.args a) →
      sp K xs H (fun v H' => Dw K H' v (r.ret.enc (Codec.app r.args r.f a))) fun _ _ _ => False) :
    PySem.W.WalkOS q loose XP YP r d [] (fun f vs => PySem.call f vs) := by
  intro w s₀ s₁ mg mb G Y fa o pm cd doc dV kV ho hd hcd hD hmg hg args vals as hpre hlay hrd hwl hlo
  obtain ⟨a, e1, e2⟩ := PySem.W.os_pre_some hpre
  obtain ⟨e3, hwi⟩ := Codec.encAll_of_decAll r.args args a e1
  subst e3
  obtain ⟨KX, hT⟩ := hY w _ Y
  obtain ⟨k1, k2⟩ := hK w
  obtain ⟨fd, hb, hF⟩ := F w mg fa _ KX G.T.g hmg
  refine PySem.W.enter_call (codeAny_mono (callT (R := []) (cl := classAt s₀.heap) (d0 := r.ret.enc (Codec.app r.args r.f a)) KX G.T.g G.T.b G.T.builtins G.T.nolimit hg hT k1 (PySem.W.codeHd_of_K KX k2) G.T.bmain hwl (pl_encAll _ _) (layable_weight hlay) hr hF hb
    (by rw [encAll_len]; exact hlen) (fun H0 H xs h1 h2 h3 => hsp _ H0 H xs a h1 h2 hwi e2 h3)) fun r' s' hq => ?_)
  obtain ⟨u, as', rfl, h1, h2, h3, h4⟩ := hq
  exact ⟨.inl ⟨u, _, as', rfl, fun _ => rfl, h1, (OpenSpec.post_iff hwell hwi _ _).mpr rfl, fun z => Bool.noConfusion (show false = true from z)⟩, h2, h3, h4⟩
end Fe
end

section
namespace Fe
open PySem PySem.Spec PyProof.Rows L2
theorem ask_of {l : List Int} (h0 : ∀ z ∈ l, 0 ≤ z) (h : PyWqakbb.answers_asked l = true) : ∃ (ns : List Nat) (cs : List Fn.CallN), l = Fn.zs ns ∧ Fn.calls ns.length ns = some cs ∧ (∀ c ∈ cs, FlNeutral.asked1 (Fn.toR c) = true) ∧
    PyWqakbb.answers l = PyFlat.told (PyFlat.played FlNeutral.step FlNeutral.start (cs.map Fn.toR)) ∧ (PyFlat.told (PyFlat.played FlNeutral.step FlNeutral.start (cs.map Fn.toR))).length ≤ 10000000 := by
  obtain ⟨ns, rfl⟩ : ∃ ns, l = Fn.zs ns := by
    refine ⟨l.map Int.toNat, ?_⟩
    unfold Fn.zs
    rw [List.map_map]
    refine ((List.map_congr_left (g := id) fun z hz => ?_).trans (List.map_id l)).symm
    show ((z.toNat : Nat) : Int) = z
    have := h0 z hz
    omega
  have hl : (Fn.zs ns).length = ns.length := List.length_map ..
  have hc : PyWqakbb.calls (Fn.zs ns) = (Fn.calls ns.length ns).map fun cs => cs.map Fn.toR := by
    unfold PyWqakbb.calls
    rw [hl, Fn.calls_eq]
  unfold PyWqakbb.answers_asked at h
  rw [hc] at h
  cases e : Fn.calls ns.length ns with
  | none =>
    rw [e] at h
    cases h
  | some cs =>
    rw [e] at h hc
    have ha : PyWqakbb.answers (Fn.zs ns) = PyFlat.told (PyFlat.played FlNeutral.step FlNeutral.start (cs.map Fn.toR)) := by
      unfold PyWqakbb.answers
      rw [hc]
      rfl
    have h' : (PyFlat.atMost 300 (cs.map Fn.toR) && FlNeutral.asked (cs.map Fn.toR) && PyFlat.short 10000000 (PyWqakbb.answers (Fn.zs ns))) = true := h
    rw [Bool.and_eq_true, Bool.and_eq_true] at h'
    obtain ⟨⟨_, h2⟩, h3⟩ := h'
    refine ⟨ns, cs, rfl, e, fun c hcm => ?_, ha, ?_⟩
    · unfold FlNeutral.asked at h2
      rw [Bool.and_eq_true] at h2
      exact List.all_eq_true.mp h2.2 _ (List.mem_map_of_mem hcm)
    · rw [← ha]
      unfold PyFlat.short at h3
      simpa using h3
theorem zs_vi (ns : List Nat) : (Fn.zs ns).map V.int = Fp.vi ns := by
  unfold Fn.zs Fp.vi
  rw [List.map_map]
  rfl
/-- the promise at the row's arguments -/
theorem row_asks {K : PySem.W.Frag} {H0 H : Hp} {xs : List V} {Pt : Addr} {l : List Int} (s : Same H0 H) (hP : H Pt = some (.tbl #[])) (hlen : l.length ≤ 100000) (hin : ∀ z ∈ l, 0 ≤ z) (ha : PyWqakbb.answers_asked l = true)
    (hx : DwAll K H0 xs [.list (l.map PySem.W.WData.int)]) : Fp.spAnswers K Pt xs H (fun v H' => Dw K H' v (.list ((PyWqakbb.answers l).map PySem.W.WData.int))) fun _ _ _ => False := by
  cases hx with
  | cons h1 h2 =>
    cases h2
    cases h1 with
    | lst hs hd =>
      have e := ints_dw l _ hd
      subst e
      obtain ⟨ns, cs, rfl, h3, h4, h5, h6⟩ := ask_of hin ha
      rw [zs_vi] at hs
      have hl : (Fn.zs ns).length = ns.length := List.length_map ..
      refine ⟨_, ns, ns.length, cs, rfl, s.seq hs, by omega, h3, h4, h6, NdefX.TabN.nil hP, fun H' p hp => ?_⟩
      rw [h5]
      exact .lst (.of hp) (dw_ints _)
end Fe
end

namespace Fe
open PySem PySem.W PyProof.Rows L2
section
variable {K : Frag} {h : Heap} {mg : PySem.Str → Option Value}
theorem ciM {x : PySem.Str} {n : Nat} {t : Tok} (X : K.In h) (G : h.Ns mainGlobals mg) (e : nsIn K mainGlobals x = some (some (.int (n : Int) t))) : Fp.CI mg x n := ⟨_, mg_of X G e, t, rfl⟩
theorem dfM {x : PySem.Str} {st : Stmt} {f : Addr} {oc kV doc pm cdv ct : Value} {od an : Option Addr} {osl : Array (Option Value)} (X : K.In h) (G : h.Ns mainGlobals mg) (n : nsIn K mainGlobals x = some (some (.ref f)))
    (l : List.lookup f K = some ⟨oc, od, .func (fnOf x x (C8.fnArgs st) (C8.fnBody st) (C8.fnScope st) .none kV doc pm an cdv ct), osl⟩) (c : codeIn K cdv x = true) (kp : keepIn K (.ref f) = true) : C8.Def K mg x st f (fnOf x x (C8.fnArgs st) (C8.fnBody st) (C8.fnScope st) .none kV doc pm an cdv ct) :=
  ⟨⟨oc, od, .none, kV, doc, pm, an, cdv, ct, osl, rfl, l, c⟩, mg_of X G n, kp⟩
theorem mtM {C f : Addr} {m qual : PySem.Str} {st : Stmt} {oc kV doc pm cdv ct : Value} {od an : Option Addr} {osl : Array (Option Value)} (a : findIn K (.ref C) m = some (some (.ref f))) (i : isFn K (.ref f) = true)
    (l : List.lookup f K = some ⟨oc, od, .func (fnOf m qual (C8.fnArgs st) (C8.fnBody st) (C8.fnScope st) .none kV doc pm an cdv ct), osl⟩) (c : codeIn K cdv qual = true) (kp : keepIn K (.ref f) = true) :
    Meth K C m f ∧ C8.Fun K m qual st f (fnOf m qual (C8.fnArgs st) (C8.fnBody st) (C8.fnScope st) .none kV doc pm an cdv ct) := ⟨⟨a, i, kp⟩, ⟨oc, od, .none, kV, doc, pm, an, cdv, ct, osl, rfl, l, c⟩⟩
theorem mkM {C f : Addr} {qual : PySem.Str} {st : Stmt} {oc kV doc pm cdv ct : Value} {od an : Option Addr} {osl : Array (Option Value)} (mk : makesIn K C = true) (a : findIn K (.ref C) "__init__" = some (some (.ref f))) (i : isFn K (.ref f) = true) (kc : keepIn K (.ref C) = true)
    (l : List.lookup f K = some ⟨oc, od, .func (fnOf "__init__" qual (C8.fnArgs st) (C8.fnBody st) (C8.fnScope st) .none kV doc pm an cdv ct), osl⟩) (c : codeIn K cdv qual = true) :
    Mk K C f ∧ C8.Fun K "__init__" qual st f (fnOf "__init__" qual (C8.fnArgs st) (C8.fnBody st) (C8.fnScope st) .none kV doc pm an cdv ct) := ⟨⟨mk, a, i, kc⟩, ⟨oc, od, .none, kV, doc, pm, an, cdv, ct, osl, rfl, l, c⟩⟩
theorem kiM {a f : Addr} {i : Int} {es : Array DictEntry} {n : Nat} (l : List.lookup a K = some ⟨.type "dict", none, .dict es n, #[]⟩) (k : Fr.IntKeys es.toList = true) (e : findBy Value.isInt es i = some (.ref f)) : Fr.KInt K a i (.ref f) := ⟨es, n, _, l, k, e, rfl⟩
theorem finM {P : Program} {w : World} {f : Addr} {fd : FuncData} {k : Nat} {ps : List PySem.Str} {x : PySem.Str} {st : Stmt} {sp : L2.Sp} {Z : Heap → Prop} (D : C8.Def K mg x st f fd) (b : ∀ (s : Shared) (us : List Value), us.length = ps.length → BindsTo s fd ⟨us, []⟩ (ps.zip us))
    (F : ∀ base : Heap, K.In base → base.Ns mainGlobals mg → Z base → L2.FnOk P w K mg base L2.CX0 k f fd ps sp) : ∃ fd : FuncData, (∀ (s : Shared) (us : List Value), us.length = ps.length → BindsTo s fd ⟨us, []⟩ (ps.zip us)) ∧ ∀ base : Heap, K.In base → base.Ns mainGlobals mg → Z base → L2.FnOk P w K mg base L2.CX0 k f fd ps sp := ⟨fd, b, F⟩
end
end Fe
local macro_rules | `(tactic| o_headS ($f $k $a $e)) => `(tactic| o_headS (PySem.W.kmHook $k $a $e [321]))
open PySem PySem.W PyProof.Rows L2 Fe
set_option maxRecDepth 100000 in
set_option maxHeartbeats 8000000 in
theorem PySem.Challenge.cw_indexfile_s01_answers_holds : PySem.Challenge.rw_indexfile_s01_answers.Holds := by
  w_on; k_headS; (case hw => exact ⟨[.list [.int 8, .int 0, .int 1, .int 0]], by decide +kernel, by decide +kernel⟩)
  k_fillS
  refine Fe.walkT (r := PySem.Challenge.rw_indexfile_s01_answers) (k := 11) (c := 325) (Pt := 321) (ps := ["calls"]) (K := PySem.Challenge.cw_indexfile_s01_answers_holds.heap_1) (sp := fun K => Fp.spAnswers K 321) (by decide +kernel) rfl rfl ⟨rfl, by decide, by decide⟩ (fun w h Y => ⟨km_in_of Y, km_tabs_of Y 321 (List.mem_singleton.mpr rfl)⟩) (fun w => ⟨by kernel_rfl, by kernel_rfl⟩) ?F ?S
  case F =>
    intro w mg fa h KX G hfa
    have c_rule : Cls (PySem.Challenge.cw_indexfile_s01_answers_holds.heap_1 w.params) 38 := ⟨by k_is, by k_is, by k_is, by k_is⟩
    have n_rule : ∀ x ∈ (["first", "last", "kind", "rise", "mark", "accent", "weight"] : List PySem.Str), NoAttr (PySem.Challenge.cw_indexfile_s01_answers_holds.heap_1 w.params) 38 x := (List.forall_mem_cons.mpr ⟨(show findIn (PySem.Challenge.cw_indexfile_s01_answers_holds.heap_1 w.params) (.ref 38) "first" = some none by k_is), (List.forall_mem_cons.mpr ⟨(show findIn (PySem.Challenge.cw_indexfile_s01_answers_holds.heap_1 w.params) (.ref 38) "last" = some none by k_is), (List.forall_mem_cons.mpr ⟨(show findIn (PySem.Challenge.cw_indexfile_s01_answers_holds.heap_1 w.params) (.ref 38) "kind" = some none by k_is), (List.forall_mem_cons.mpr ⟨(show findIn (PySem.Challenge.cw_indexfile_s01_answers_holds.heap_1 w.params) (.ref 38) "rise" = some none by k_is), (List.forall_mem_cons.mpr ⟨(show findIn (PySem.Challenge.cw_indexfile_s01_answers_holds.heap_1 w.params) (.ref 38) "mark" = some none by k_is), (List.forall_mem_cons.mpr ⟨(show findIn (PySem.Challenge.cw_indexfile_s01_answers_holds.heap_1 w.params) (.ref 38) "accent" = some none by k_is), (List.forall_mem_cons.mpr ⟨(show findIn (PySem.Challenge.cw_indexfile_s01_answers_holds.heap_1 w.params) (.ref 38) "weight" = some none by k_is), (fun _ hx => nomatch hx)⟩)⟩)⟩)⟩)⟩)⟩)⟩)
    have c_part : Cls (PySem.Challenge.cw_indexfile_s01_answers_holds.heap_1 w.params) 59 := ⟨by k_is, by k_is, by k_is, by k_is⟩
    have n_part : ∀ x ∈ (["kind", "weight", "accent", "mark"] : List PySem.Str), NoAttr (PySem.Challenge.cw_indexfile_s01_answers_holds.heap_1 w.params) 59 x := (List.forall_mem_cons.mpr ⟨(show findIn (PySem.Challenge.cw_indexfile_s01_answers_holds.heap_1 w.params) (.ref 59) "kind" = some none by k_is), (List.forall_mem_cons.mpr ⟨(show findIn (PySem.Challenge.cw_indexfile_s01_answers_holds.heap_1 w.params) (.ref 59) "weight" = some none by k_is), (List.forall_mem_cons.mpr ⟨(show findIn (PySem.Challenge.cw_indexfile_s01_answers_holds.heap_1 w.params) (.ref 59) "accent" = some none by k_is), (List.forall_mem_cons.mpr ⟨(show findIn (PySem.Challenge.cw_indexfile_s01_answers_holds.heap_1 w.params) (.ref 59) "mark" = some none by k_is), (fun _ hx => nomatch hx)⟩)⟩)⟩)⟩)
    have c_book : Cls (PySem.Challenge.cw_indexfile_s01_answers_holds.heap_1 w.params) 106 := ⟨by k_is, by k_is, by k_is, by k_is⟩
    have n_book : ∀ x ∈ (["rules", "spellings", "starts", "owners", "known"] : List PySem.Str), NoAttr (PySem.Challenge.cw_indexfile_s01_answers_holds.heap_1 w.params) 106 x := (List.forall_mem_cons.mpr ⟨(show findIn (PySem.Challenge.cw_indexfile_s01_answers_holds.heap_1 w.params) (.ref 106) "rules" = some none by k_is), (List.forall_mem_cons.mpr ⟨(show findIn (PySem.Challenge.cw_indexfile_s01_answers_holds.heap_1 w.params) (.ref 106) "spellings" = some none by k_is), (List.forall_mem_cons.mpr ⟨(show findIn (PySem.Challenge.cw_indexfile_s01_answers_holds.heap_1 w.params) (.ref 106) "starts" = some none by k_is), (List.forall_mem_cons.mpr ⟨(show findIn (PySem.Challenge.cw_indexfile_s01_answers_holds.heap_1 w.params) (.ref 106) "owners" = some none by k_is), (List.forall_mem_cons.mpr ⟨(show findIn (PySem.Challenge.cw_indexfile_s01_answers_holds.heap_1 w.params) (.ref 106) "known" = some none by k_is), (fun _ hx => nomatch hx)⟩)⟩)⟩)⟩)⟩)
    have c_turn : Cls (PySem.Challenge.cw_indexfile_s01_answers_holds.heap_1 w.params) 179 := ⟨by k_is, by k_is, by k_is, by k_is⟩
    have n_turn : ∀ x ∈ (["front", "brought", "whole"] : List PySem.Str), NoAttr (PySem.Challenge.cw_indexfile_s01_answers_holds.heap_1 w.params) 179 x := (List.forall_mem_cons.mpr ⟨(show findIn (PySem.Challenge.cw_indexfile_s01_answers_holds.heap_1 w.params) (.ref 179) "front" = some none by k_is), (List.forall_mem_cons.mpr ⟨(show findIn (PySem.Challenge.cw_indexfile_s01_answers_holds.heap_1 w.params) (.ref 179) "brought" = some none by k_is), (List.forall_mem_cons.mpr ⟨(show findIn (PySem.Challenge.cw_indexfile_s01_answers_holds.heap_1 w.params) (.ref 179) "whole" = some none by k_is), (fun _ hx => nomatch hx)⟩)⟩)⟩)
    have c_code : Cls (PySem.Challenge.cw_indexfile_s01_answers_holds.heap_1 w.params) 200 := ⟨by k_is, by k_is, by k_is, by k_is⟩
    have n_code : ∀ x ∈ (["way", "spellings", "turns", "articles", "book"] : List PySem.Str), NoAttr (PySem.Challenge.cw_indexfile_s01_answers_holds.heap_1 w.params) 200 x := (List.forall_mem_cons.mpr ⟨(show findIn (PySem.Challenge.cw_indexfile_s01_answers_holds.heap_1 w.params) (.ref 200) "way" = some none by k_is), (List.forall_mem_cons.mpr ⟨(show findIn (PySem.Challenge.cw_indexfile_s01_answers_holds.heap_1 w.params) (.ref 200) "spellings" = some none by k_is), (List.forall_mem_cons.mpr ⟨(show findIn (PySem.Challenge.cw_indexfile_s01_answers_holds.heap_1 w.params) (.ref 200) "turns" = some none by k_is), (List.forall_mem_cons.mpr ⟨(show findIn (PySem.Challenge.cw_indexfile_s01_answers_holds.heap_1 w.params) (.ref 200) "articles" = some none by k_is), (List.forall_mem_cons.mpr ⟨(show findIn (PySem.Challenge.cw_indexfile_s01_answers_holds.heap_1 w.params) (.ref 200) "book" = some none by k_is), (fun _ hx => nomatch hx)⟩)⟩)⟩)⟩)⟩)
    have c_filed : Cls (PySem.Challenge.cw_indexfile_s01_answers_holds.heap_1 w.params) 221 := ⟨by k_is, by k_is, by k_is, by k_is⟩
    have n_filed : ∀ x ∈ (["words", "accents", "marks"] : List PySem.Str), NoAttr (PySem.Challenge.cw_indexfile_s01_answers_holds.heap_1 w.params) 221 x := (List.forall_mem_cons.mpr ⟨(show findIn (PySem.Challenge.cw_indexfile_s01_answers_holds.heap_1 w.params) (.ref 221) "words" = some none by k_is), (List.forall_mem_cons.mpr ⟨(show findIn (PySem.Challenge.cw_indexfile_s01_answers_holds.heap_1 w.params) (.ref 221) "accents" = some none by k_is), (List.forall_mem_cons.mpr ⟨(show findIn (PySem.Challenge.cw_indexfile_s01_answers_holds.heap_1 w.params) (.ref 221) "marks" = some none by k_is), (fun _ hx => nomatch hx)⟩)⟩)⟩)
    have c_call : Cls (PySem.Challenge.cw_indexfile_s01_answers_holds.heap_1 w.params) 397 := ⟨by k_is, by k_is, by k_is, by k_is⟩
    have n_call : ∀ x ∈ (["number", "numbers", "rows"] : List PySem.Str), NoAttr (PySem.Challenge.cw_indexfile_s01_answers_holds.heap_1 w.params) 397 x := (List.forall_mem_cons.mpr ⟨(show findIn (PySem.Challenge.cw_indexfile_s01_answers_holds.heap_1 w.params) (.ref 397) "number" = some none by k_is), (List.forall_mem_cons.mpr ⟨(show findIn (PySem.Challenge.cw_indexfile_s01_answers_holds.heap_1 w.params) (.ref 397) "numbers" = some none by k_is), (List.forall_mem_cons.mpr ⟨(show findIn (PySem.Challenge.cw_indexfile_s01_answers_holds.heap_1 w.params) (.ref 397) "rows" = some none by k_is), (fun _ hx => nomatch hx)⟩)⟩)⟩)
    have c_reader : Cls (PySem.Challenge.cw_indexfile_s01_answers_holds.heap_1 w.params) 446 := ⟨by k_is, by k_is, by k_is, by k_is⟩
    have n_reader : ∀ x ∈ (["calls", "place"] : List PySem.Str), NoAttr (PySem.Challenge.cw_indexfile_s01_answers_holds.heap_1 w.params) 446 x := (List.forall_mem_cons.mpr ⟨(show findIn (PySem.Challenge.cw_indexfile_s01_answers_holds.heap_1 w.params) (.ref 446) "calls" = some none by k_is), (List.forall_mem_cons.mpr ⟨(show findIn (PySem.Challenge.cw_indexfile_s01_answers_holds.heap_1 w.params) (.ref 446) "place" = some none by k_is), (fun _ hx => nomatch hx)⟩)⟩)
    have c_desk : Cls (PySem.Challenge.cw_indexfile_s01_answers_holds.heap_1 w.params) 474 := ⟨by k_is, by k_is, by k_is, by k_is⟩
    have n_desk : ∀ x ∈ (["code"] : List PySem.Str), NoAttr (PySem.Challenge.cw_indexfile_s01_answers_holds.heap_1 w.params) 474 x := (List.forall_mem_cons.mpr ⟨(show findIn (PySem.Challenge.cw_indexfile_s01_answers_holds.heap_1 w.params) (.ref 474) "code" = some none by k_is), (fun _ hx => nomatch hx)⟩)
    have b_len : mg "len" = none := mg_none_of KX G (show nsIn (PySem.Challenge.cw_indexfile_s01_answers_holds.heap_1 w.params) mainGlobals "len" = some none by k_is)
    have b_range : mg "range" = none := mg_none_of KX G (show nsIn (PySem.Challenge.cw_indexfile_s01_answers_holds.heap_1 w.params) mainGlobals "range" = some none by k_is)
    have b_sorted : mg "sorted" = none := mg_none_of KX G (show nsIn (PySem.Challenge.cw_indexfile_s01_answers_holds.heap_1 w.params) mainGlobals "sorted" = some none by k_is)
    have b_list : mg "list" = none := mg_none_of KX G (show nsIn (PySem.Challenge.cw_indexfile_s01_answers_holds.heap_1 w.params) mainGlobals "list" = some none by k_is)
    have b_tuple : mg "tuple" = none := mg_none_of KX G (show nsIn (PySem.Challenge.cw_indexfile_s01_answers_holds.heap_1 w.params) mainGlobals "tuple" = some none by k_is)
    have b_any : mg "any" = none := mg_none_of KX G (show nsIn (PySem.Challenge.cw_indexfile_s01_answers_holds.heap_1 w.params) mainGlobals "any" = some none by k_is)
    have b_enumerate : mg "enumerate" = none := mg_none_of KX G (show nsIn (PySem.Challenge.cw_indexfile_s01_answers_holds.heap_1 w.params) mainGlobals "enumerate" = some none by k_is)
    have k_LETTER : Fp.CI mg "LETTER" 0 := ciM (n := 0) KX G (by k_is)
    have k_DIGIT : Fp.CI mg "DIGIT" 1 := ciM (n := 1) KX G (by k_is)
    have k_SIGN : Fp.CI mg "SIGN" 2 := ciM (n := 2) KX G (by k_is)
    have k_GAP : Fp.CI mg "GAP" 3 := ciM (n := 3) KX G (by k_is)
    have k_SPELLED : Fp.CI mg "SPELLED" 5 := ciM (n := 5) KX G (by k_is)
    have k_NUMBERS_OF_A_RULE : Fp.CI mg "NUMBERS_OF_A_RULE" 7 := ciM (n := 7) KX G (by k_is)
    have k_GREATEST_WEIGHT : Fp.CI mg "GREATEST_WEIGHT" 65535 := ciM (n := 65535) KX G (by k_is)
    have k_GREATEST_DIGIT : Fp.CI mg "GREATEST_DIGIT" 9 := ciM (n := 9) KX G (by k_is)
    have k_WORD_BY_WORD : Fp.CI mg "WORD_BY_WORD" 0 := ciM (n := 0) KX G (by k_is)
    have k_RIGHT_THROUGH : Fp.CI mg "RIGHT_THROUGH" 1 := ciM (n := 1) KX G (by k_is)
    have k_RANK_OF_SIGN : Fp.CI mg "RANK_OF_SIGN" 0 := ciM (n := 0) KX G (by k_is)
    have k_RANK_OF_NUMBER : Fp.CI mg "RANK_OF_NUMBER" 1 := ciM (n := 1) KX G (by k_is)
    have k_RANK_OF_LETTER : Fp.CI mg "RANK_OF_LETTER" 2 := ciM (n := 2) KX G (by k_is)
    have k_GROUP_OF_NOTHING : Fp.CI mg "GROUP_OF_NOTHING" 0 := ciM (n := 0) KX G (by k_is)
    have k_GROUP_OF_SIGNS : Fp.CI mg "GROUP_OF_SIGNS" 1 := ciM (n := 1) KX G (by k_is)
    have k_GROUP_OF_NUMBERS : Fp.CI mg "GROUP_OF_NUMBERS" 2 := ciM (n := 2) KX G (by k_is)
    have k_GROUPS_BEFORE_LETTERS : Fp.CI mg "GROUPS_BEFORE_LETTERS" 2 := ciM (n := 2) KX G (by k_is)
    have k_LONGEST_TEXT : Fp.CI mg "LONGEST_TEXT" 256 := ciM (n := 256) KX G (by k_is)
    have k_LONGEST_SPELLING : Fp.CI mg "LONGEST_SPELLING" 4 := ciM (n := 4) KX G (by k_is)
    have k_LONGEST_FRONT : Fp.CI mg "LONGEST_FRONT" 8 := ciM (n := 8) KX G (by k_is)
    have k_LONGEST_BROUGHT : Fp.CI mg "LONGEST_BROUGHT" 12 := ciM (n := 12) KX G (by k_is)
    have k_LONGEST_ARTICLE : Fp.CI mg "LONGEST_ARTICLE" 16 := ciM (n := 16) KX G (by k_is)
    have k_MOST_SPELLINGS : Fp.CI mg "MOST_SPELLINGS" 256 := ciM (n := 256) KX G (by k_is)
    have k_MOST_TURNS : Fp.CI mg "MOST_TURNS" 64 := ciM (n := 64) KX G (by k_is)
    have k_MOST_ARTICLES : Fp.CI mg "MOST_ARTICLES" 32 := ciM (n := 32) KX G (by k_is)
    have k_MOST_RULES : Fp.CI mg "MOST_RULES" 1024 := ciM (n := 1024) KX G (by k_is)
    have k_MOST_TEXTS : Fp.CI mg "MOST_TEXTS" 4096 := ciM (n := 4096) KX G (by k_is)
    have T : Fp.Tx (PySem.Challenge.cw_indexfile_s01_answers_holds.heap_1 w.params) mg ⟨38, 59, 106, 179, 200, 221, 397, 446, 474⟩ := ⟨c_rule, c_part, c_book, c_turn, c_code, c_filed, c_call, c_reader, c_desk, n_rule, n_part, n_book, n_turn, n_code, n_filed, n_call, n_reader, n_desk, b_len, b_range, b_sorted, b_list, b_tuple, b_any, b_enumerate, k_LETTER, k_DIGIT, k_SIGN, k_GAP, k_SPELLED, k_NUMBERS_OF_A_RULE, k_GREATEST_WEIGHT, k_GREATEST_DIGIT, k_WORD_BY_WORD, k_RIGHT_THROUGH, k_RANK_OF_SIGN, k_RANK_OF_NUMBER, k_RANK_OF_LETTER, k_GROUP_OF_NOTHING, k_GROUP_OF_SIGNS, k_GROUP_OF_NUMBERS, k_GROUPS_BEFORE_LETTERS, k_LONGEST_TEXT, k_LONGEST_SPELLING, k_LONGEST_FRONT, k_LONGEST_BROUGHT, k_LONGEST_ARTICLE, k_MOST_SPELLINGS, k_MOST_TURNS, k_MOST_ARTICLES, k_MOST_RULES, k_MOST_TEXTS⟩
    obtain ⟨mk_rule, fk_rule⟩ := mkM (K := (PySem.Challenge.cw_indexfile_s01_answers_holds.heap_1 w.params)) (C := 38) (qual := "Rule.__init__") (st := inClass (Fp.top 9) 0) (by k_is) (by k_is) (by k_is) (by k_is) (by k_is) (by k_is)
    have bk_rule := (fk_rule.binds (ps := ["self", "numbers"]) rfl fun _ _ _ _ _ _ us hl => match us, hl with | [_, _], _ => rfl)
    have g_rule : mg "Rule" = some (.ref 38) := mg_of KX G (by k_is)
    obtain ⟨mk_part, fk_part⟩ := mkM (K := (PySem.Challenge.cw_indexfile_s01_answers_holds.heap_1 w.params)) (C := 59) (qual := "Part.__init__") (st := inClass (Fp.top 10) 0) (by k_is) (by k_is) (by k_is) (by k_is) (by k_is) (by k_is)
    have bk_part := (fk_part.binds (ps := ["self", "kind", "weight", "accent", "mark"]) rfl fun _ _ _ _ _ _ us hl => match us, hl with | [_, _, _, _, _], _ => rfl)
    have g_part : mg "Part" = some (.ref 59) := mg_of KX G (by k_is)
    obtain ⟨mk_book, fk_book⟩ := mkM (K := (PySem.Challenge.cw_indexfile_s01_answers_holds.heap_1 w.params)) (C := 106) (qual := "RuleBook.__init__") (st := inClass (Fp.top 11) 0) (by k_is) (by k_is) (by k_is) (by k_is) (by k_is) (by k_is)
    have bk_book := (fk_book.binds (ps := ["self", "rules", "spellings"]) rfl fun _ _ _ _ _ _ us hl => match us, hl with | [_, _, _], _ => rfl)
    have g_book : mg "RuleBook" = some (.ref 106) := mg_of KX G (by k_is)
    obtain ⟨mk_turn, fk_turn⟩ := mkM (K := (PySem.Challenge.cw_indexfile_s01_answers_holds.heap_1 w.params)) (C := 179) (qual := "Turn.__init__") (st := inClass (Fp.top 23) 0) (by k_is) (by k_is) (by k_is) (by k_is) (by k_is) (by k_is)
    have bk_turn := (fk_turn.binds (ps := ["self", "front", "brought", "whole"]) rfl fun _ _ _ _ _ _ us hl => match us, hl with | [_, _, _, _], _ => rfl)
    have g_turn : mg "Turn" = some (.ref 179) := mg_of KX G (by k_is)
    obtain ⟨mk_code, fk_code⟩ := mkM (K := (PySem.Challenge.cw_indexfile_s01_answers_holds.heap_1 w.params)) (C := 200) (qual := "Code.__init__") (st := inClass (Fp.top 24) 0) (by k_is) (by k_is) (by k_is) (by k_is) (by k_is) (by k_is)
    have bk_code := (fk_code.binds (ps := ["self", "way"]) rfl fun _ _ _ _ _ _ us hl => match us, hl with | [_, _], _ => rfl)
    have g_code : mg "Code" = some (.ref 200) := mg_of KX G (by k_is)
    obtain ⟨mk_filed, fk_filed⟩ := mkM (K := (PySem.Challenge.cw_indexfile_s01_answers_holds.heap_1 w.params)) (C := 221) (qual := "Filed.__init__") (st := inClass (Fp.top 29) 0) (by k_is) (by k_is) (by k_is) (by k_is) (by k_is) (by k_is)
    have bk_filed := (fk_filed.binds (ps := ["self"]) rfl fun _ _ _ _ _ _ us hl => match us, hl with | [_], _ => rfl)
    have g_filed : mg "Filed" = some (.ref 221) := mg_of KX G (by k_is)
    obtain ⟨mk_call, fk_call⟩ := mkM (K := (PySem.Challenge.cw_indexfile_s01_answers_holds.heap_1 w.params)) (C := 397) (qual := "Call.__init__") (st := inClass (Fp.top 60) 0) (by k_is) (by k_is) (by k_is) (by k_is) (by k_is) (by k_is)
    have bk_call := (fk_call.binds (ps := ["self", "number", "numbers", "rows"]) rfl fun _ _ _ _ _ _ us hl => match us, hl with | [_, _, _, _], _ => rfl)
    have g_call : mg "Call" = some (.ref 397) := mg_of KX G (by k_is)
    obtain ⟨mk_reader, fk_reader⟩ := mkM (K := (PySem.Challenge.cw_indexfile_s01_answers_holds.heap_1 w.params)) (C := 446) (qual := "Reader.__init__") (st := inClass (Fp.top 61) 0) (by k_is) (by k_is) (by k_is) (by k_is) (by k_is) (by k_is)
    have bk_reader := (fk_reader.binds (ps := ["self", "calls"]) rfl fun _ _ _ _ _ _ us hl => match us, hl with | [_, _], _ => rfl)
    have g_reader : mg "Reader" = some (.ref 446) := mg_of KX G (by k_is)
    obtain ⟨mk_desk, fk_desk⟩ := mkM (K := (PySem.Challenge.cw_indexfile_s01_answers_holds.heap_1 w.params)) (C := 474) (qual := "Desk.__init__") (st := inClass (Fp.top 74) 0) (by k_is) (by k_is) (by k_is) (by k_is) (by k_is) (by k_is)
    have bk_desk := (fk_desk.binds (ps := ["self"]) rfl fun _ _ _ _ _ _ us hl => match us, hl with | [_], _ => rfl)
    have g_desk : mg "Desk" = some (.ref 474) := mg_of KX G (by k_is)
    obtain ⟨me_weight_at, fm_weight_at⟩ := mtM (K := (PySem.Challenge.cw_indexfile_s01_answers_holds.heap_1 w.params)) (C := 38) (m := "weight_at") (qual := "Rule.weight_at") (st := inClass (Fp.top 9) 1) (by k_is) (by k_is) (by k_is) (by k_is) (by k_is)
    have bm_weight_at := (fm_weight_at.binds (ps := ["self", "character"]) rfl fun _ _ _ _ _ _ us hl => match us, hl with | [_, _], _ => rfl)
    obtain ⟨me_rule_of, fm_rule_of⟩ := mtM (K := (PySem.Challenge.cw_indexfile_s01_answers_holds.heap_1 w.params)) (C := 106) (m := "rule_of") (qual := "RuleBook.rule_of") (st := inClass (Fp.top 11) 1) (by k_is) (by k_is) (by k_is) (by k_is) (by k_is)
    have bm_rule_of := (fm_rule_of.binds (ps := ["self", "character"]) rfl fun _ _ _ _ _ _ us hl => match us, hl with | [_, _], _ => rfl)
    obtain ⟨me_is_gap, fm_is_gap⟩ := mtM (K := (PySem.Challenge.cw_indexfile_s01_answers_holds.heap_1 w.params)) (C := 106) (m := "is_gap") (qual := "RuleBook.is_gap") (st := inClass (Fp.top 11) 2) (by k_is) (by k_is) (by k_is) (by k_is) (by k_is)
    have bm_is_gap := (fm_is_gap.binds (ps := ["self", "character"]) rfl fun _ _ _ _ _ _ us hl => match us, hl with | [_, _], _ => rfl)
    obtain ⟨me_parts, fm_parts⟩ := mtM (K := (PySem.Challenge.cw_indexfile_s01_answers_holds.heap_1 w.params)) (C := 106) (m := "parts") (qual := "RuleBook.parts") (st := inClass (Fp.top 11) 3) (by k_is) (by k_is) (by k_is) (by k_is) (by k_is)
    have bm_parts := (fm_parts.binds (ps := ["self", "character"]) rfl fun _ _ _ _ _ _ us hl => match us, hl with | [_, _], _ => rfl)
    obtain ⟨me_find_parts, fm_find_parts⟩ := mtM (K := (PySem.Challenge.cw_indexfile_s01_answers_holds.heap_1 w.params)) (C := 106) (m := "find_parts") (qual := "RuleBook.find_parts") (st := inClass (Fp.top 11) 4) (by k_is) (by k_is) (by k_is) (by k_is) (by k_is)
    have bm_find_parts := (fm_find_parts.binds (ps := ["self", "character"]) rfl fun _ _ _ _ _ _ us hl => match us, hl with | [_, _], _ => rfl)
    obtain ⟨me_has_more, fm_has_more⟩ := mtM (K := (PySem.Challenge.cw_indexfile_s01_answers_holds.heap_1 w.params)) (C := 446) (m := "has_more") (qual := "Reader.has_more") (st := inClass (Fp.top 61) 1) (by k_is) (by k_is) (by k_is) (by k_is) (by k_is)
    have bm_has_more := (fm_has_more.binds (ps := ["self"]) rfl fun _ _ _ _ _ _ us hl => match us, hl with | [_], _ => rfl)
    obtain ⟨me_take_number, fm_take_number⟩ := mtM (K := (PySem.Challenge.cw_indexfile_s01_answers_holds.heap_1 w.params)) (C := 446) (m := "take_number") (qual := "Reader.take_number") (st := inClass (Fp.top 61) 2) (by k_is) (by k_is) (by k_is) (by k_is) (by k_is)
    have bm_take_number := (fm_take_number.binds (ps := ["self"]) rfl fun _ _ _ _ _ _ us hl => match us, hl with | [_], _ => rfl)
    obtain ⟨me_take_row, fm_take_row⟩ := mtM (K := (PySem.Challenge.cw_indexfile_s01_answers_holds.heap_1 w.params)) (C := 446) (m := "take_row") (qual := "Reader.take_row") (st := inClass (Fp.top 61) 3) (by k_is) (by k_is) (by k_is) (by k_is) (by k_is)
    have bm_take_row := (fm_take_row.binds (ps := ["self"]) rfl fun _ _ _ _ _ _ us hl => match us, hl with | [_], _ => rfl)
    obtain ⟨me_take_rows, fm_take_rows⟩ := mtM (K := (PySem.Challenge.cw_indexfile_s01_answers_holds.heap_1 w.params)) (C := 446) (m := "take_rows") (qual := "Reader.take_rows") (st := inClass (Fp.top 61) 4) (by k_is) (by k_is) (by k_is) (by k_is) (by k_is)
    have bm_take_rows := (fm_take_rows.binds (ps := ["self"]) rfl fun _ _ _ _ _ _ us hl => match us, hl with | [_], _ => rfl)
    have d_make_part := dfM (x := "make_part") (st := Fp.top 12) KX G (by k_is) (by k_is) (by k_is) (by k_is)
    have b_make_part := (d_make_part.fn.binds (ps := ["rule", "character", "dress"]) rfl fun _ _ _ _ _ _ us hl => match us, hl with | [_, _, _], _ => rfl)
    have d_read_rules := dfM (x := "read_rules") (st := Fp.top 13) KX G (by k_is) (by k_is) (by k_is) (by k_is)
    have b_read_rules := (d_read_rules.fn.binds (ps := ["numbers"]) rfl fun _ _ _ _ _ _ us hl => match us, hl with | [_], _ => rfl)
    have d_stretch_starts := dfM (x := "stretch_starts") (st := Fp.top 14) KX G (by k_is) (by k_is) (by k_is) (by k_is)
    have b_stretch_starts := (d_stretch_starts.fn.binds (ps := ["rules"]) rfl fun _ _ _ _ _ _ us hl => match us, hl with | [_], _ => rfl)
    have d_stretch_owners := dfM (x := "stretch_owners") (st := Fp.top 15) KX G (by k_is) (by k_is) (by k_is) (by k_is)
    have b_stretch_owners := (d_stretch_owners.fn.binds (ps := ["starts", "rules"]) rfl fun _ _ _ _ _ _ us hl => match us, hl with | [_, _], _ => rfl)
    have d_next_free := dfM (x := "next_free") (st := Fp.top 16) KX G (by k_is) (by k_is) (by k_is) (by k_is)
    have b_next_free := (d_next_free.fn.binds (ps := ["free", "place"]) rfl fun _ _ _ _ _ _ us hl => match us, hl with | [_, _], _ => rfl)
    have d_first_wrong_rule := dfM (x := "first_wrong_rule") (st := Fp.top 17) KX G (by k_is) (by k_is) (by k_is) (by k_is)
    have b_first_wrong_rule := (d_first_wrong_rule.fn.binds (ps := ["book"]) rfl fun _ _ _ _ _ _ us hl => match us, hl with | [_], _ => rfl)
    have d_is_right := dfM (x := "is_right") (st := Fp.top 18) KX G (by k_is) (by k_is) (by k_is) (by k_is)
    have b_is_right := (d_is_right.fn.binds (ps := ["book", "rule"]) rfl fun _ _ _ _ _ _ us hl => match us, hl with | [_, _], _ => rfl)
    have d_can_be_spelled := dfM (x := "can_be_spelled") (st := Fp.top 19) KX G (by k_is) (by k_is) (by k_is) (by k_is)
    have b_can_be_spelled := (d_can_be_spelled.fn.binds (ps := ["book", "number"]) rfl fun _ _ _ _ _ _ us hl => match us, hl with | [_, _], _ => rfl)
    have d_file_text := dfM (x := "file_text") (st := Fp.top 30) KX G (by k_is) (by k_is) (by k_is) (by k_is)
    have b_file_text := (d_file_text.fn.binds (ps := ["code", "text"]) rfl fun _ _ _ _ _ _ us hl => match us, hl with | [_, _], _ => rfl)
    have d_words_of := dfM (x := "words_of") (st := Fp.top 31) KX G (by k_is) (by k_is) (by k_is) (by k_is)
    have b_words_of := (d_words_of.fn.binds (ps := ["book", "text"]) rfl fun _ _ _ _ _ _ us hl => match us, hl with | [_, _], _ => rfl)
    have d_without_article := dfM (x := "without_article") (st := Fp.top 32) KX G (by k_is) (by k_is) (by k_is) (by k_is)
    have b_without_article := (d_without_article.fn.binds (ps := ["articles", "words"]) rfl fun _ _ _ _ _ _ us hl => match us, hl with | [_, _], _ => rfl)
    have d_turned := dfM (x := "turned") (st := Fp.top 33) KX G (by k_is) (by k_is) (by k_is) (by k_is)
    have b_turned := (d_turned.fn.binds (ps := ["turns", "word"]) rfl fun _ _ _ _ _ _ us hl => match us, hl with | [_, _], _ => rfl)
    have d_fits := dfM (x := "fits") (st := Fp.top 34) KX G (by k_is) (by k_is) (by k_is) (by k_is)
    have b_fits := (d_fits.fn.binds (ps := ["turn", "word"]) rfl fun _ _ _ _ _ _ us hl => match us, hl with | [_, _], _ => rfl)
    have d_parts_of := dfM (x := "parts_of") (st := Fp.top 35) KX G (by k_is) (by k_is) (by k_is) (by k_is)
    have b_parts_of := (d_parts_of.fn.binds (ps := ["book", "word"]) rfl fun _ _ _ _ _ _ us hl => match us, hl with | [_, _], _ => rfl)
    have d_add_word := dfM (x := "add_word") (st := Fp.top 36) KX G (by k_is) (by k_is) (by k_is) (by k_is)
    have b_add_word := (d_add_word.fn.binds (ps := ["filed", "parts"]) rfl fun _ _ _ _ _ _ us hl => match us, hl with | [_, _], _ => rfl)
    have d_units_of := dfM (x := "units_of") (st := Fp.top 37) KX G (by k_is) (by k_is) (by k_is) (by k_is)
    have b_units_of := (d_units_of.fn.binds (ps := ["parts"]) rfl fun _ _ _ _ _ _ us hl => match us, hl with | [_], _ => rfl)
    have d_rank_of := dfM (x := "rank_of") (st := Fp.top 38) KX G (by k_is) (by k_is) (by k_is) (by k_is)
    have b_rank_of := (d_rank_of.fn.binds (ps := ["kind"]) rfl fun _ _ _ _ _ _ us hl => match us, hl with | [_], _ => rfl)
    have d_order_of := dfM (x := "order_of") (st := Fp.top 40) KX G (by k_is) (by k_is) (by k_is) (by k_is)
    have b_order_of := (d_order_of.fn.binds (ps := ["code", "one", "other"]) rfl fun _ _ _ _ _ _ us hl => match us, hl with | [_, _, _], _ => rfl)
    have d_levels_of := dfM (x := "levels_of") (st := Fp.top 41) KX G (by k_is) (by k_is) (by k_is) (by k_is)
    have b_levels_of := (d_levels_of.fn.binds (ps := ["code", "text"]) rfl fun _ _ _ _ _ _ us hl => match us, hl with | [_, _], _ => rfl)
    have d_levels_of_all := dfM (x := "levels_of_all") (st := Fp.top 42) KX G (by k_is) (by k_is) (by k_is) (by k_is)
    have b_levels_of_all := (d_levels_of_all.fn.binds (ps := ["code", "texts"]) rfl fun _ _ _ _ _ _ us hl => match us, hl with | [_, _], _ => rfl)
    have d_first_level := dfM (x := "first_level") (st := Fp.top 43) KX G (by k_is) (by k_is) (by k_is) (by k_is)
    have b_first_level := (d_first_level.fn.binds (ps := ["way", "words"]) rfl fun _ _ _ _ _ _ us hl => match us, hl with | [_, _], _ => rfl)
    have d_joined := dfM (x := "joined") (st := Fp.top 44) KX G (by k_is) (by k_is) (by k_is) (by k_is)
    have b_joined := (d_joined.fn.binds (ps := ["words"]) rfl fun _ _ _ _ _ _ us hl => match us, hl with | [_], _ => rfl)
    have d_is_filed := dfM (x := "is_filed") (st := Fp.top 46) KX G (by k_is) (by k_is) (by k_is) (by k_is)
    have b_is_filed := (d_is_filed.fn.binds (ps := ["levels"]) rfl fun _ _ _ _ _ _ us hl => match us, hl with | [_], _ => rfl)
    have d_begins_as := dfM (x := "begins_as") (st := Fp.top 52) KX G (by k_is) (by k_is) (by k_is) (by k_is)
    have b_begins_as := (d_begins_as.fn.binds (ps := ["code", "question", "text"]) rfl fun _ _ _ _ _ _ us hl => match us, hl with | [_, _, _], _ => rfl)
    have d_begins_at_first_level := dfM (x := "begins_at_first_level") (st := Fp.top 53) KX G (by k_is) (by k_is) (by k_is) (by k_is)
    have b_begins_at_first_level := (d_begins_at_first_level.fn.binds (ps := ["way", "asked", "told"]) rfl fun _ _ _ _ _ _ us hl => match us, hl with | [_, _, _], _ => rfl)
    have d_begins_word_by_word := dfM (x := "begins_word_by_word") (st := Fp.top 54) KX G (by k_is) (by k_is) (by k_is) (by k_is)
    have b_begins_word_by_word := (d_begins_word_by_word.fn.binds (ps := ["asked", "told"]) rfl fun _ _ _ _ _ _ us hl => match us, hl with | [_, _], _ => rfl)
    have d_begins_with := dfM (x := "begins_with") (st := Fp.top 55) KX G (by k_is) (by k_is) (by k_is) (by k_is)
    have b_begins_with := (d_begins_with.fn.binds (ps := ["row", "front"]) rfl fun _ _ _ _ _ _ us hl => match us, hl with | [_, _], _ => rfl)
    have d_stretch_of := dfM (x := "stretch_of") (st := Fp.top 56) KX G (by k_is) (by k_is) (by k_is) (by k_is)
    have b_stretch_of := (d_stretch_of.fn.binds (ps := ["way", "question", "levels"]) rfl fun _ _ _ _ _ _ us hl => match us, hl with | [_, _, _], _ => rfl)
    have d_group_of := dfM (x := "group_of") (st := Fp.top 57) KX G (by k_is) (by k_is) (by k_is) (by k_is)
    have b_group_of := (d_group_of.fn.binds (ps := ["code", "text"]) rfl fun _ _ _ _ _ _ us hl => match us, hl with | [_, _], _ => rfl)
    have d_group_of_unit := dfM (x := "group_of_unit") (st := Fp.top 58) KX G (by k_is) (by k_is) (by k_is) (by k_is)
    have b_group_of_unit := (d_group_of_unit.fn.binds (ps := ["unit"]) rfl fun _ _ _ _ _ _ us hl => match us, hl with | [_], _ => rfl)
    have d_single_calls := dfM (x := "single_calls") (st := Fp.top 62) KX G (by k_is) (by k_is) (by k_is) (by k_is)
    have b_single_calls := (d_single_calls.fn.binds (ps := ["calls"]) rfl fun _ _ _ _ _ _ us hl => match us, hl with | [_], _ => rfl)
    have d_refused := dfM (x := "refused") (st := Fp.top 75) KX G (by k_is) (by k_is) (by k_is) (by k_is)
    have b_refused := (d_refused.fn.binds (ps := ["number"]) rfl fun _ _ _ _ _ _ us hl => match us, hl with | [_], _ => rfl)
    have d_has_length := dfM (x := "has_length") (st := Fp.top 76) KX G (by k_is) (by k_is) (by k_is) (by k_is)
    have b_has_length := (d_has_length.fn.binds (ps := ["row", "most"]) rfl fun _ _ _ _ _ _ us hl => match us, hl with | [_, _], _ => rfl)
    have d_has_long_text := dfM (x := "has_long_text") (st := Fp.top 77) KX G (by k_is) (by k_is) (by k_is) (by k_is)
    have b_has_long_text := (d_has_long_text.fn.binds (ps := ["texts"]) rfl fun _ _ _ _ _ _ us hl => match us, hl with | [_], _ => rfl)
    have d_keep_one_more := dfM (x := "keep_one_more") (st := Fp.top 78) KX G (by k_is) (by k_is) (by k_is) (by k_is)
    have b_keep_one_more := (d_keep_one_more.fn.binds (ps := ["kept", "fresh", "most"]) rfl fun _ _ _ _ _ _ us hl => match us, hl with | [_, _, _], _ => rfl)
    have d_answer_begin := dfM (x := "answer_begin") (st := Fp.top 79) KX G (by k_is) (by k_is) (by k_is) (by k_is)
    have b_answer_begin := (d_answer_begin.fn.binds (ps := ["desk", "numbers", "rows"]) rfl fun _ _ _ _ _ _ us hl => match us, hl with | [_, _, _], _ => rfl)
    have d_answer_spell := dfM (x := "answer_spell") (st := Fp.top 80) KX G (by k_is) (by k_is) (by k_is) (by k_is)
    have b_answer_spell := (d_answer_spell.fn.binds (ps := ["desk", "numbers", "rows"]) rfl fun _ _ _ _ _ _ us hl => match us, hl with | [_, _, _], _ => rfl)
    have d_answer_turn := dfM (x := "answer_turn") (st := Fp.top 81) KX G (by k_is) (by k_is) (by k_is) (by k_is)
    have b_answer_turn := (d_answer_turn.fn.binds (ps := ["desk", "numbers", "rows"]) rfl fun _ _ _ _ _ _ us hl => match us, hl with | [_, _, _], _ => rfl)
    have d_answer_article := dfM (x := "answer_article") (st := Fp.top 82) KX G (by k_is) (by k_is) (by k_is) (by k_is)
    have b_answer_article := (d_answer_article.fn.binds (ps := ["desk", "numbers", "rows"]) rfl fun _ _ _ _ _ _ us hl => match us, hl with | [_, _, _], _ => rfl)
    have d_answer_rules := dfM (x := "answer_rules") (st := Fp.top 83) KX G (by k_is) (by k_is) (by k_is) (by k_is)
    have b_answer_rules := (d_answer_rules.fn.binds (ps := ["desk", "numbers", "rows"]) rfl fun _ _ _ _ _ _ us hl => match us, hl with | [_, _, _], _ => rfl)
    have d_answer_order := dfM (x := "answer_order") (st := Fp.top 84) KX G (by k_is) (by k_is) (by k_is) (by k_is)
    have b_answer_order := (d_answer_order.fn.binds (ps := ["desk", "numbers", "rows"]) rfl fun _ _ _ _ _ _ us hl => match us, hl with | [_, _, _], _ => rfl)
    have d_answer_begins := dfM (x := "answer_begins") (st := Fp.top 85) KX G (by k_is) (by k_is) (by k_is) (by k_is)
    have b_answer_begins := (d_answer_begins.fn.binds (ps := ["desk", "numbers", "rows"]) rfl fun _ _ _ _ _ _ us hl => match us, hl with | [_, _, _], _ => rfl)
    have d_answer_group := dfM (x := "answer_group") (st := Fp.top 86) KX G (by k_is) (by k_is) (by k_is) (by k_is)
    have b_answer_group := (d_answer_group.fn.binds (ps := ["desk", "numbers", "rows"]) rfl fun _ _ _ _ _ _ us hl => match us, hl with | [_, _, _], _ => rfl)
    have d_answer_file := dfM (x := "answer_file") (st := Fp.top 87) KX G (by k_is) (by k_is) (by k_is) (by k_is)
    have b_answer_file := (d_answer_file.fn.binds (ps := ["desk", "numbers", "rows"]) rfl fun _ _ _ _ _ _ us hl => match us, hl with | [_, _, _], _ => rfl)
    have d_answer_seek := dfM (x := "answer_seek") (st := Fp.top 88) KX G (by k_is) (by k_is) (by k_is) (by k_is)
    have b_answer_seek := (d_answer_seek.fn.binds (ps := ["desk", "numbers", "rows"]) rfl fun _ _ _ _ _ _ us hl => match us, hl with | [_, _, _], _ => rfl)
    have d_answers := dfM (x := "answers") (st := Fp.top 90) KX G (by k_is) (by k_is) (by k_is) (by k_is)
    have l_nio := (show List.lookup 326 (PySem.Challenge.cw_indexfile_s01_answers_holds.heap_1 w.params) = some ⟨_, _, .func (fnOf "numbers_in_order" "numbers_in_order" (C8.fnArgs (Fp.top 45)) (C8.fnBody (Fp.top 45)) (C8.fnScope (Fp.top 45)) .none _ _ _ _ (.ref 325) _), _⟩ by k_is)
    have q_nio : codeIn (PySem.Challenge.cw_indexfile_s01_answers_holds.heap_1 w.params) (.ref 325) "numbers_in_order" = true := by k_is
    have g_nio : mg "numbers_in_order" = some (.ref 326) := mg_of KX G (by k_is)
    have p_nio : keepIn (PySem.Challenge.cw_indexfile_s01_answers_holds.heap_1 w.params) (.ref 326) = true := by k_is
    have f_nio := dfM (x := "numbers_in_order") (st := Fp.top 45) KX G (by k_is) l_nio q_nio p_nio
    have b_nio := (f_nio.fn.binds (ps := ["levels"]) rfl fun _ _ _ _ _ _ us hl => match us, hl with | [_], _ => rfl)
    have g_CALLS : mg "CALLS" = some (.ref 575) := mg_of KX G (by k_is)
    have l_CALLS := (show List.lookup 575 (PySem.Challenge.cw_indexfile_s01_answers_holds.heap_1 w.params) = some ⟨.type "dict", none, .dict _ _, #[]⟩ by k_is)
    have e := hfa.symm.trans d_answers.mgf
    cases e
    refine finM d_answers (fun s us hu => match us, hu with | [_], _ => .of_eq rfl) (fun base _ _ TB => ?_)
    have K_rule := Fp.mak_rule (P := PySem.Challenge.rw_indexfile_s01_answers.prog) (w := w) (base := base) T mk_rule g_rule fk_rule bk_rule 
    have M_wat := Fp.met_wat (P := PySem.Challenge.rw_indexfile_s01_answers.prog) (w := w) (base := base) T me_weight_at fm_weight_at bm_weight_at 
    have K_part := Fp.mak_part (P := PySem.Challenge.rw_indexfile_s01_answers.prog) (w := w) (base := base) T mk_part g_part fk_part bk_part 
    have C_mkpart := Fp.cal_mkpart (P := PySem.Challenge.rw_indexfile_s01_answers.prog) (w := w) (base := base) T d_make_part b_make_part K_part M_wat
    have M_ruleof := Fp.met_ruleof (P := PySem.Challenge.rw_indexfile_s01_answers.prog) (w := w) (base := base) T me_rule_of fm_rule_of bm_rule_of 
    have M_isgap := Fp.met_isgap (P := PySem.Challenge.rw_indexfile_s01_answers.prog) (w := w) (base := base) T me_is_gap fm_is_gap bm_is_gap M_ruleof
    have C_readrules := Fp.cal_readrules (P := PySem.Challenge.rw_indexfile_s01_answers.prog) (w := w) (base := base) T d_read_rules b_read_rules K_rule
    have C_starts := Fp.cal_starts (P := PySem.Challenge.rw_indexfile_s01_answers.prog) (w := w) (base := base) T d_stretch_starts b_stretch_starts 
    have C_nextfree := Fp.cal_nextfree (P := PySem.Challenge.rw_indexfile_s01_answers.prog) (w := w) (base := base) d_next_free b_next_free 
    have C_owners := Fp.cal_owners (P := PySem.Challenge.rw_indexfile_s01_answers.prog) (w := w) (base := base) T d_stretch_owners b_stretch_owners C_nextfree
    have K_book := Fp.mak_book (P := PySem.Challenge.rw_indexfile_s01_answers.prog) (w := w) (base := base) T mk_book g_book fk_book bk_book C_starts C_owners
    have C_spell := Fp.cal_spell (P := PySem.Challenge.rw_indexfile_s01_answers.prog) (w := w) (base := base) T d_can_be_spelled b_can_be_spelled M_ruleof
    have C_right := Fp.cal_right (P := PySem.Challenge.rw_indexfile_s01_answers.prog) (w := w) (base := base) T d_is_right b_is_right M_wat C_spell
    have C_wrong := Fp.cal_wrong (P := PySem.Challenge.rw_indexfile_s01_answers.prog) (w := w) (base := base) T d_first_wrong_rule b_first_wrong_rule C_right
    have M_find := Fp.met_find (P := PySem.Challenge.rw_indexfile_s01_answers.prog) (w := w) (base := base) T me_find_parts fm_find_parts bm_find_parts M_ruleof C_mkpart
    have M_parts := Fp.met_parts (P := PySem.Challenge.rw_indexfile_s01_answers.prog) (w := w) (base := base) T me_parts fm_parts bm_parts M_find
    have K_turn := Fp.mak_turn (P := PySem.Challenge.rw_indexfile_s01_answers.prog) (w := w) (base := base) T mk_turn g_turn fk_turn bk_turn 
    have K_filed := Fp.mak_filed (P := PySem.Challenge.rw_indexfile_s01_answers.prog) (w := w) (base := base) T mk_filed g_filed fk_filed bk_filed 
    have K_code := Fp.mak_code (P := PySem.Challenge.rw_indexfile_s01_answers.prog) (w := w) (base := base) T mk_code g_code fk_code bk_code K_book
    have C_wordsof := Fp.cal_wordsof (P := PySem.Challenge.rw_indexfile_s01_answers.prog) (w := w) (base := base) T d_words_of b_words_of M_isgap
    have C_art := Fp.cal_art (P := PySem.Challenge.rw_indexfile_s01_answers.prog) (w := w) (base := base) T d_without_article b_without_article 
    have C_fits := Fp.cal_fits (P := PySem.Challenge.rw_indexfile_s01_answers.prog) (w := w) (base := base) T d_fits b_fits 
    have C_turned := Fp.cal_turned (P := PySem.Challenge.rw_indexfile_s01_answers.prog) (w := w) (base := base) T d_turned b_turned C_fits
    have C_partsof := Fp.cal_partsof (P := PySem.Challenge.rw_indexfile_s01_answers.prog) (w := w) (base := base) T d_parts_of b_parts_of M_parts
    have C_rank := Fp.cal_rank (P := PySem.Challenge.rw_indexfile_s01_answers.prog) (w := w) (base := base) T d_rank_of b_rank_of 
    have C_units := Fp.cal_units (P := PySem.Challenge.rw_indexfile_s01_answers.prog) (w := w) (base := base) T d_units_of b_units_of C_rank
    have C_add := Fp.cal_add (P := PySem.Challenge.rw_indexfile_s01_answers.prog) (w := w) (base := base) T d_add_word b_add_word C_units
    have C_file := Fp.cal_file (P := PySem.Challenge.rw_indexfile_s01_answers.prog) (w := w) (base := base) T d_file_text b_file_text K_filed C_wordsof C_art C_turned C_partsof C_add
    have C_joined := Fp.cal_joined (P := PySem.Challenge.rw_indexfile_s01_answers.prog) (w := w) (base := base) T d_joined b_joined 
    have C_first := Fp.cal_first (P := PySem.Challenge.rw_indexfile_s01_answers.prog) (w := w) (base := base) T d_first_level b_first_level C_joined
    have C_levels := Fp.cal_levels (P := PySem.Challenge.rw_indexfile_s01_answers.prog) (w := w) (base := base) T d_levels_of b_levels_of C_file C_first
    have C_all := Fp.cal_all (P := PySem.Challenge.rw_indexfile_s01_answers.prog) (w := w) (base := base) T d_levels_of_all b_levels_of_all C_levels
    have C_order := Fp.cal_order (P := PySem.Challenge.rw_indexfile_s01_answers.prog) (w := w) (base := base) T d_order_of b_order_of C_levels
    have C_isfiled := Fp.cal_isfiled (P := PySem.Challenge.rw_indexfile_s01_answers.prog) (w := w) (base := base) T d_is_filed b_is_filed 
    have C_sorted := Fp.cal_sorted (P := PySem.Challenge.rw_indexfile_s01_answers.prog) (w := w) (base := base) T TB l_nio q_nio g_nio p_nio b_nio
    have C_begwith := Fp.cal_begwith (P := PySem.Challenge.rw_indexfile_s01_answers.prog) (w := w) (base := base) T d_begins_with b_begins_with 
    have C_wbw := Fp.cal_wbw (P := PySem.Challenge.rw_indexfile_s01_answers.prog) (w := w) (base := base) T d_begins_word_by_word b_begins_word_by_word C_begwith
    have C_begf := Fp.cal_begf (P := PySem.Challenge.rw_indexfile_s01_answers.prog) (w := w) (base := base) T d_begins_at_first_level b_begins_at_first_level C_begwith C_wbw
    have C_begas := Fp.cal_begas (P := PySem.Challenge.rw_indexfile_s01_answers.prog) (w := w) (base := base) T d_begins_as b_begins_as C_levels C_begf
    have C_groupu := Fp.cal_groupu (P := PySem.Challenge.rw_indexfile_s01_answers.prog) (w := w) (base := base) T d_group_of_unit b_group_of_unit 
    have C_group := Fp.cal_group (P := PySem.Challenge.rw_indexfile_s01_answers.prog) (w := w) (base := base) T d_group_of b_group_of C_file C_groupu
    have C_stretch := Fp.cal_stretch (P := PySem.Challenge.rw_indexfile_s01_answers.prog) (w := w) (base := base) T d_stretch_of b_stretch_of C_begf
    have K_call := Fp.mak_call (P := PySem.Challenge.rw_indexfile_s01_answers.prog) (w := w) (base := base) T mk_call g_call fk_call bk_call 
    have K_reader := Fp.mak_reader (P := PySem.Challenge.rw_indexfile_s01_answers.prog) (w := w) (base := base) T mk_reader g_reader fk_reader bk_reader 
    have M_more := Fp.met_more (P := PySem.Challenge.rw_indexfile_s01_answers.prog) (w := w) (base := base) T me_has_more fm_has_more bm_has_more 
    have M_taken := Fp.met_taken (P := PySem.Challenge.rw_indexfile_s01_answers.prog) (w := w) (base := base) T me_take_number fm_take_number bm_take_number 
    have M_taker := Fp.met_taker (P := PySem.Challenge.rw_indexfile_s01_answers.prog) (w := w) (base := base) T me_take_row fm_take_row bm_take_row M_taken
    have M_takers := Fp.met_takers (P := PySem.Challenge.rw_indexfile_s01_answers.prog) (w := w) (base := base) T me_take_rows fm_take_rows bm_take_rows M_taken M_taker
    have C_singles := Fp.cal_singles (P := PySem.Challenge.rw_indexfile_s01_answers.prog) (w := w) (base := base) T d_single_calls b_single_calls K_call K_reader M_more M_taken M_taker M_takers
    have C_refused := Fp.cal_refused (P := PySem.Challenge.rw_indexfile_s01_answers.prog) (w := w) (base := base) d_refused b_refused 
    have C_haslen := Fp.cal_haslen (P := PySem.Challenge.rw_indexfile_s01_answers.prog) (w := w) (base := base) T d_has_length b_has_length 
    have C_long := Fp.cal_long (P := PySem.Challenge.rw_indexfile_s01_answers.prog) (w := w) (base := base) T d_has_long_text b_has_long_text 
    have C_keep := Fp.cal_keep (P := PySem.Challenge.rw_indexfile_s01_answers.prog) (w := w) (base := base) T d_keep_one_more b_keep_one_more C_refused
    have K_desk := Fp.mak_desk (P := PySem.Challenge.rw_indexfile_s01_answers.prog) (w := w) (base := base) T mk_desk g_desk fk_desk bk_desk K_code
    have C_abegin := Fp.cal_abegin (P := PySem.Challenge.rw_indexfile_s01_answers.prog) (w := w) (base := base) (Pt := 321) T d_answer_begin b_answer_begin C_refused K_code
    have C_aspell := Fp.cal_aspell (P := PySem.Challenge.rw_indexfile_s01_answers.prog) (w := w) (base := base) (Pt := 321) T d_answer_spell b_answer_spell C_haslen C_refused C_keep
    have C_aturn := Fp.cal_aturn (P := PySem.Challenge.rw_indexfile_s01_answers.prog) (w := w) (base := base) (Pt := 321) T d_answer_turn b_answer_turn C_haslen C_refused C_keep K_turn
    have C_aarticle := Fp.cal_aarticle (P := PySem.Challenge.rw_indexfile_s01_answers.prog) (w := w) (base := base) (Pt := 321) T d_answer_article b_answer_article C_haslen C_refused C_keep
    have C_arules := Fp.cal_arules (P := PySem.Challenge.rw_indexfile_s01_answers.prog) (w := w) (base := base) (Pt := 321) T d_answer_rules b_answer_rules C_refused C_readrules K_book C_wrong
    have C_aorder := Fp.cal_aorder (P := PySem.Challenge.rw_indexfile_s01_answers.prog) (w := w) (base := base) (Pt := 321) T d_answer_order b_answer_order C_long C_refused C_order
    have C_abegins := Fp.cal_abegins (P := PySem.Challenge.rw_indexfile_s01_answers.prog) (w := w) (base := base) (Pt := 321) T d_answer_begins b_answer_begins C_long C_refused C_begas
    have C_agroup := Fp.cal_agroup (P := PySem.Challenge.rw_indexfile_s01_answers.prog) (w := w) (base := base) (Pt := 321) T d_answer_group b_answer_group C_long C_refused C_group
    have C_afile := Fp.cal_afile (P := PySem.Challenge.rw_indexfile_s01_answers.prog) (w := w) (base := base) (Pt := 321) T d_answer_file b_answer_file C_long C_refused C_all C_sorted
    have C_aseek := Fp.cal_aseek (P := PySem.Challenge.rw_indexfile_s01_answers.prog) (w := w) (base := base) (Pt := 321) T d_answer_seek b_answer_seek C_long C_refused C_all C_isfiled C_levels C_stretch
    exact Fp.ok_answers T d_answers g_CALLS K_desk C_singles ⟨_, kiM l_CALLS rfl rfl, Fp.calAt_of C_abegin d_answer_begin.mgf⟩ ⟨_, kiM l_CALLS rfl rfl, Fp.calAt_of C_aspell d_answer_spell.mgf⟩ ⟨_, kiM l_CALLS rfl rfl, Fp.calAt_of C_aturn d_answer_turn.mgf⟩ ⟨_, kiM l_CALLS rfl rfl, Fp.calAt_of C_aarticle d_answer_article.mgf⟩ ⟨_, kiM l_CALLS rfl rfl, Fp.calAt_of C_arules d_answer_rules.mgf⟩ ⟨_, kiM l_CALLS rfl rfl, Fp.calAt_of C_aorder d_answer_order.mgf⟩ ⟨_, kiM l_CALLS rfl rfl, Fp.calAt_of C_abegins d_answer_begins.mgf⟩ ⟨_, kiM l_CALLS rfl rfl, Fp.calAt_of C_agroup d_answer_group.mgf⟩ ⟨_, kiM l_CALLS rfl rfl, Fp.calAt_of C_afile d_answer_file.mgf⟩ ⟨_, kiM l_CALLS rfl rfl, Fp.calAt_of C_aseek d_answer_seek.mgf⟩
  case S =>
    intro K H0 H xs a hs hP hwi hask hx
    have q : ((Codec.inLen 0 30000 a.1 && a.1.all (Codec.inInt 0 4294967295)) && true) = true := hwi
    rw [Bool.and_eq_true, Bool.and_eq_true] at q
    exact row_asks hs hP (Nat.le_trans (Codec.inNat_iff.mp q.1.1).2 (by decide)) (fun z hz => (Codec.inInt_iff.mp (List.all_eq_true.mp q.1.2 z hz)).1) hask hx
#print axioms PySem.Challenge.cw_indexfile_s01_answers_holds
