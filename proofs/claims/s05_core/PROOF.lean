import PyProof.Rows.All
import Wide.All
import OpenK.AllK
import Wide.FinOn
import Open.SpecLaws
import KE.OsGo
import HandS.Base
import HandS.Call
import HandS.List
import HandS.Comp
import HandS.Ends
import HandS.Spec
import HandS.Text
import HandS.Words
import HandS.WordsList
import PySem.Challenge.RW_ringsheld_s05_core
set_option Elab.async false
set_option linter.all false
set_option maxRecDepth 100000
set_option maxHeartbeats 2000000
namespace Rh
/-! ## numbering of groups: F sends each person to the least one of their group -/
/-- those that are the least of their group, among the first m -/
def reps (F : Nat → Nat) (m : Nat) : List Nat := (List.range m).filter fun j => F j == j
theorem reps_pos {F : Nat → Nat} {m : Nat} (h : F m = m) : reps F (m + 1) = reps F m ++ [m] := by
  unfold reps
  rw [List.range_succ, List.filter_append]
  simp [h]
theorem reps_neg {F : Nat → Nat} {m : Nat} (h : F m ≠ m) : reps F (m + 1) = reps F m := by
  unfold reps
  rw [List.range_succ, List.filter_append]
  simp [h]
theorem mem_reps {F : Nat → Nat} {m x : Nat} : x ∈ reps F m ↔ x < m ∧ F x = x := by
  unfold reps
  simp
theorem reps_mono {F : Nat → Nat} {a b : Nat} (h : a ≤ b) : (reps F a).length ≤ (reps F b).length := by
  induction h with
  | refl => exact Nat.le_refl _
  | @step m _ ih =>
    by_cases e : F m = m
    · rw [Nat.succ_eq_add_one, reps_pos e, List.length_append]
      omega
    · rw [Nat.succ_eq_add_one, reps_neg e]
      exact ih
/-- F as it must be, below n -/
structure Least (F : Nat → Nat) (n : Nat) : Prop where
  le : ∀ i, i < n → F i ≤ i
  idem : ∀ i, i < n → F (F i) = F i
theorem reps_lt {F : Nat → Nat} {n m : Nat} (L : Least F n) (hm : m < n) (h : F m ≠ m) : (reps F (F m)).length + 1 ≤ (reps F m).length := by
  have h1 : F m < m := Nat.lt_of_le_of_ne (L.le m hm) h
  have h2 := reps_pos (F := F) (m := F m) (L.idem m hm)
  have h3 := reps_mono (F := F) (a := F m + 1) (b := m) h1
  rw [h2, List.length_append] at h3
  exact h3
/-- the numbers of the groups of the first m -/
def nums (F : Nat → Nat) (m : Nat) : List Nat := (List.range m).map fun i => (reps F (F i)).length
theorem nums_succ {F : Nat → Nat} {m : Nat} : nums F (m + 1) = nums F m ++ [(reps F (F m)).length] := by
  unfold nums
  rw [List.range_succ, List.map_append]
  rfl
theorem nums_length {F : Nat → Nat} {m : Nat} : (nums F m).length = m := by
  unfold nums
  simp
theorem nums_get {F : Nat → Nat} {m i : Nat} (h : i < m) : (nums F m)[i]? = some (reps F (F i)).length := by
  unfold nums
  rw [List.getElem?_map, List.getElem?_range h]
  rfl
theorem firsts_eq {F : Nat → Nat} {n : Nat} (L : Least F n) : ∀ m, m ≤ n → ((List.range m).map F).foldl (fun l x => if l.contains x then l else l ++ [x]) [] = reps F m
  | 0, _ => rfl
  | m + 1, h => by
    rw [List.range_succ, List.map_append, List.foldl_append, firsts_eq L m (by omega)]
    show (if (reps F m).contains (F m) then reps F m else reps F m ++ [F m]) = reps F (m + 1)
    by_cases e : F m = m
    · have hn : ¬ (reps F m).contains (F m) = true := by
        rw [List.contains_iff_mem, mem_reps]
        omega
      rw [if_neg hn, reps_pos e, e]
    · have hp : (reps F m).contains (F m) = true := by
        rw [List.contains_iff_mem, mem_reps]
        have := L.le m (by omega)
        exact ⟨by omega, L.idem m (by omega)⟩
      rw [if_pos hp, reps_neg e]
theorem reps_split {F : Nat → Nat} {x : Nat} (h : F x = x) : ∀ n, x < n → ∃ r, reps F n = reps F x ++ x :: r
  | 0, hx => by omega
  | n + 1, hx => by
    by_cases e : x = n
    · subst e
      exact ⟨[], reps_pos h⟩
    · obtain ⟨r, hr⟩ := reps_split h n (by omega)
      by_cases e2 : F n = n
      · exact ⟨r ++ [n], by rw [reps_pos e2, hr]; simp⟩
      · exact ⟨r, by rw [reps_neg e2, hr]⟩
theorem takeWhile_at {x : Nat} : ∀ (l r : List Nat), (∀ y ∈ l, y ≠ x) → (l ++ x :: r).takeWhile (fun y => y != x) = l
  | [], r, _ => by simp
  | a :: l, r, h => by
    have ha : (a != x) = true := by
      have := h a (by simp)
      simp [this]
    rw [List.cons_append, List.takeWhile_cons, if_pos ha, takeWhile_at l r fun y hy => h y (by simp [hy])]
theorem tidy_eq {F : Nat → Nat} {n : Nat} (L : Least F n) : Ks565.tidy ((List.range n).map F) = nums F n := by
  unfold Ks565.tidy
  show ((List.range n).map F).map (fun x => ((((List.range n).map F).foldl (fun l x => if l.contains x then l else l ++ [x]) []).takeWhile fun y => y != x).length) = nums F n
  rw [firsts_eq L n (Nat.le_refl _), List.map_map]
  unfold nums
  refine List.map_congr_left fun i hi => ?_
  have hi' : i < n := List.mem_range.mp hi
  obtain ⟨r, hr⟩ := reps_split (L.idem i hi') n (Nat.lt_of_le_of_lt (L.le i hi') hi')
  show ((reps F n).takeWhile fun y => y != F i).length = _
  rw [hr, takeWhile_at _ _ fun y hy => by
    have := (mem_reps.mp hy).1
    omega]
theorem max_eq {F : Nat → Nat} {n : Nat} (L : Least F n) : ∀ m, m + 1 ≤ n → (nums F (m + 1)).foldl max 0 + 1 = (reps F (m + 1)).length
  | 0, h => by
    have e : F 0 = 0 := by
      have := L.le 0 (by omega)
      omega
    rw [reps_pos e, nums_succ, e]
    rfl
  | m + 1, h => by
    have ih := max_eq L m (by omega)
    rw [nums_succ, List.foldl_append]
    show max ((nums F (m + 1)).foldl max 0) (reps F (F (m + 1))).length + 1 = _
    by_cases e : F (m + 1) = m + 1
    · rw [reps_pos e, e, List.length_append]
      show _ = _ + 1
      omega
    · have := reps_lt L (by omega : m + 1 < n) e
      rw [reps_neg e]
      omega
theorem groups_eq {F : Nat → Nat} {n : Nat} (L : Least F n) (h : 1 ≤ n) : Ks565.groups (nums F n) = (reps F n).length := by
  obtain ⟨m, rfl⟩ : ∃ m, n = m + 1 := ⟨n - 1, by omega⟩
  exact max_eq L m (Nat.le_refl _)
end Rh
namespace Rh
open Ks569 (Ties friend)
/-! ## sets as numbers and as lists -/
theorem mem_set {n s i : Nat} : i ∈ Ks566.set n s ↔ i < n ∧ s.testBit i = true := by
  unfold Ks566.set
  simp
theorem set_contains {n s i : Nat} (h : i < n) : (Ks566.set n s).contains i = s.testBit i := by
  rw [Bool.eq_iff_iff, List.contains_iff_mem, mem_set]
  simp [h]
theorem set_congr {n s t : Nat} (h : ∀ i, i < n → s.testBit i = t.testBit i) : Ks566.set n s = Ks566.set n t := by
  unfold Ks566.set
  exact List.filter_congr fun i hi => h i (List.mem_range.mp hi)
/-! ## the set with all friends -/
def withFr (fs : List Nat) (s : Nat) : Nat := (List.range fs.length).foldl (fun w i => if s.testBit i then w ||| fs.getD i 0 else w) s
theorem wf_bits (fs : List Nat) (s j : Nat) : ∀ (l : List Nat) (w : Nat), (l.foldl (fun w i => if s.testBit i then w ||| fs.getD i 0 else w) w).testBit j = (w.testBit j || l.any fun i => s.testBit i && (fs.getD i 0).testBit j)
  | [], w => by simp
  | a :: l, w => by
    rw [List.foldl_cons, wf_bits fs s j l, List.any_cons]
    by_cases h : s.testBit a = true
    · rw [if_pos h, Nat.testBit_or, h, Bool.true_and, Bool.or_assoc]
    · rw [if_neg h]
      rw [Bool.not_eq_true] at h
      rw [h, Bool.false_and, Bool.false_or]
theorem withFr_bit (fs : List Nat) (s j : Nat) : (withFr fs s).testBit j = (s.testBit j || (List.range fs.length).any fun i => s.testBit i && (fs.getD i 0).testBit j) := wf_bits fs s j _ s
/-- so many steps -/
def it (fs : List Nat) (s : Nat) : Nat → Nat
  | 0 => s
  | k + 1 => withFr fs (it fs s k)
def reach (fs : List Nat) (i : Nat) : Nat := it fs (2 ^ i) (fs.length - 1)
theorem applied_succ {α : Type} (f : α → α) : ∀ (k : Nat) (x : α), Ks569.applied f (k + 1) x = f (Ks569.applied f k x)
  | 0, _ => rfl
  | k + 1, x => by
    show Ks569.applied f (k + 1) (f x) = _
    rw [applied_succ f k (f x)]
    rfl
theorem step_set {n : Nat} {fs : List Nat} (hn : fs.length = n) (s : Nat) : Ks569.step ⟨n, fs⟩ (Ks566.set n s) = Ks566.set n (withFr fs s) := by
  unfold Ks569.step
  show (List.range n).filter (fun j => (Ks566.set n s).contains j || (Ks566.set n s).any fun i => friend ⟨n, fs⟩ i j) = (List.range n).filter fun i => (withFr fs s).testBit i
  refine List.filter_congr fun j hj => ?_
  have hj' : j < n := List.mem_range.mp hj
  rw [set_contains hj', withFr_bit, hn]
  congr 1
  unfold Ks566.set
  rw [List.any_filter]
  rfl
theorem set_one {n i : Nat} (h : i < n) : Ks566.set n (2 ^ i) = [i] := by
  have e : ∀ n, i < n → (List.range n).filter (fun j => (2 ^ i).testBit j) = [i] := by
    intro n
    induction n with
    | zero =>
      intro h
      omega
    | succ m ih =>
      intro h
      rw [List.range_succ, List.filter_append]
      by_cases e : i = m
      · subst e
        have z : (List.range i).filter (fun j => (2 ^ i).testBit j) = [] := by
          rw [List.filter_eq_nil_iff]
          intro a ha
          have := List.mem_range.mp ha
          rw [Nat.testBit_two_pow]
          simp
          omega
        rw [z]
        simp
      · rw [ih (by omega)]
        have : (2 ^ i).testBit m = false := by
          rw [Nat.testBit_two_pow]
          simp [e]
        simp [this]
  exact e n h
/-- the lists of the specification, step by step -/
def way (t : Ties) (i k : Nat) : List Nat := Ks569.applied (Ks569.step t) k [i]
theorem way_succ (t : Ties) (i k : Nat) : way t i (k + 1) = Ks569.step t (way t i k) := applied_succ _ _ _
theorem way_set {n : Nat} {fs : List Nat} (hn : fs.length = n) {i : Nat} (hi : i < n) : ∀ k, way ⟨n, fs⟩ i k = Ks566.set n (it fs (2 ^ i) k)
  | 0 => (set_one hi).symm
  | k + 1 => by
    rw [way_succ, way_set hn hi k, step_set hn]
    rfl
/-! ## it comes to rest -/
theorem filter_le {p q : Nat → Bool} : ∀ (l : List Nat), (∀ x ∈ l, p x = true → q x = true) → (l.filter p).length ≤ (l.filter q).length
  | [], _ => Nat.le_refl _
  | a :: l, h => by
    have ih := filter_le l fun x hx => h x (by simp [hx])
    have ha := h a (by simp)
    by_cases hp : p a = true
    · rw [List.filter_cons_of_pos hp, List.filter_cons_of_pos (ha hp)]
      simp only [List.length_cons]
      omega
    · rw [List.filter_cons_of_neg hp]
      by_cases hq : q a = true
      · rw [List.filter_cons_of_pos hq]
        simp only [List.length_cons]
        omega
      · rw [List.filter_cons_of_neg hq]
        exact ih
theorem filter_eq_of {p q : Nat → Bool} : ∀ (l : List Nat), (∀ x ∈ l, p x = true → q x = true) → (l.filter q).length ≤ (l.filter p).length → ∀ x ∈ l, p x = q x
  | [], _, _ => by simp
  | a :: l, h, hl => by
    have hle := filter_le l fun x hx => h x (by simp [hx])
    have ha := h a (by simp)
    by_cases hp : p a = true
    · rw [List.filter_cons_of_pos hp, List.filter_cons_of_pos (ha hp)] at hl
      simp only [List.length_cons] at hl
      have ih := filter_eq_of l (fun x hx => h x (by simp [hx])) (by omega)
      intro x hx
      rcases List.mem_cons.mp hx with rfl | hx
      · rw [hp, ha hp]
      · exact ih x hx
    · rw [List.filter_cons_of_neg hp] at hl
      by_cases hq : q a = true
      · rw [List.filter_cons_of_pos hq] at hl
        simp only [List.length_cons] at hl
        omega
      · rw [List.filter_cons_of_neg hq] at hl
        have ih := filter_eq_of l (fun x hx => h x (by simp [hx])) hl
        intro x hx
        rcases List.mem_cons.mp hx with rfl | hx
        · rw [Bool.not_eq_true] at hp hq
          rw [hp, hq]
        · exact ih x hx
theorem grows (fs : List Nat) (s j : Nat) (h : s.testBit j = true) : (withFr fs s).testBit j = true := by
  rw [withFr_bit, h, Bool.true_or]
theorem rest_or (n : Nat) (fs : List Nat) (s : Nat) : Ks566.set n (withFr fs s) = Ks566.set n s ∨ (Ks566.set n s).length + 1 ≤ (Ks566.set n (withFr fs s)).length := by
  by_cases h : (Ks566.set n (withFr fs s)).length ≤ (Ks566.set n s).length
  · left
    have e := filter_eq_of (p := fun i => s.testBit i) (q := fun i => (withFr fs s).testBit i) (List.range n) (fun x _ => grows fs s x) h
    exact set_congr fun i hi => (e i (List.mem_range.mpr hi)).symm
  · right
    omega
theorem set_len (n s : Nat) : (Ks566.set n s).length ≤ n := by
  unfold Ks566.set
  have := List.length_filter_le (fun i => s.testBit i) (List.range n)
  rwa [List.length_range] at this
/-- at rest, or k more than at the start -/
theorem rest_at {n : Nat} {fs : List Nat} (hn : fs.length = n) {i : Nat} (hi : i < n) : ∀ k, way ⟨n, fs⟩ i (k + 1) = way ⟨n, fs⟩ i k ∨ k + 2 ≤ (way ⟨n, fs⟩ i (k + 1)).length
  | 0 => by
    have h := rest_or n fs (it fs (2 ^ i) 0)
    rw [way_set hn hi, way_set hn hi]
    rcases h with h | h
    · exact .inl h
    · right
      have e : (Ks566.set n (it fs (2 ^ i) 0)).length = 1 := by
        show (Ks566.set n (2 ^ i)).length = 1
        rw [set_one hi]
        rfl
      rw [e] at h
      exact h
  | k + 1 => by
    rcases rest_at hn hi k with h | h
    · left
      rw [way_succ, way_succ _ _ k, ← way_succ, h, ← way_succ, h]
    · have h2 := rest_or n fs (it fs (2 ^ i) (k + 1))
      rw [way_set hn hi] at h
      rw [way_set hn hi, way_set hn hi]
      rcases h2 with h2 | h2
      · exact .inl h2
      · right
        show k + 1 + 2 ≤ (Ks566.set n (withFr fs (it fs (2 ^ i) (k + 1)))).length
        omega
theorem rest {n : Nat} {fs : List Nat} (hn : fs.length = n) {i : Nat} (hi : i < n) : way ⟨n, fs⟩ i n = way ⟨n, fs⟩ i (n - 1) := by
  obtain ⟨m, rfl⟩ : ∃ m, n = m + 1 := ⟨n - 1, by omega⟩
  rcases rest_at hn hi m with h | h
  · exact h
  · rw [way_set hn hi] at h
    have := set_len (m + 1) (it fs (2 ^ i) (m + 1))
    omega
theorem reach_from {n : Nat} {fs : List Nat} (hn : fs.length = n) {i j : Nat} (hi : i < n) (hj : j < n) : (Ks569.from_ ⟨n, fs⟩ i).contains j = (reach fs i).testBit j := by
  show (way ⟨n, fs⟩ i n).contains j = _
  rw [rest hn hi, way_set hn hi, set_contains hj]
  unfold reach
  rw [hn]
/-! ## ways lead on -/
theorem reach_self {n : Nat} {fs : List Nat} (i : Nat) : (reach fs i).testBit i = true := by
  unfold reach
  generalize fs.length - 1 = k
  induction k with
  | zero =>
    show (2 ^ i).testBit i = true
    exact Nat.testBit_two_pow_self
  | succ k ih => exact grows fs _ _ ih
theorem reach_step {n : Nat} {fs : List Nat} (hn : fs.length = n) {i : Nat} (hi : i < n) {a b : Nat} (ha : a < n) (hb : b < n) (h : (reach fs i).testBit a = true) (hf : (fs.getD a 0).testBit b = true) : (reach fs i).testBit b = true := by
  have e : Ks566.set n (withFr fs (reach fs i)) = Ks566.set n (reach fs i) := by
    have r := rest hn hi
    obtain ⟨m, rfl⟩ : ∃ m, n = m + 1 := ⟨n - 1, by omega⟩
    rw [way_set hn hi, way_set hn hi] at r
    unfold reach
    rw [hn]
    exact r
  have h2 : (withFr fs (reach fs i)).testBit b = true := by
    rw [withFr_bit, Bool.or_eq_true, List.any_eq_true]
    right
    exact ⟨a, List.mem_range.mpr (by omega), by rw [h, hf]; rfl⟩
  have h3 : b ∈ Ks566.set n (withFr fs (reach fs i)) := mem_set.mpr ⟨hb, h2⟩
  rw [e] at h3
  exact (mem_set.mp h3).2
theorem reach_trans {n : Nat} {fs : List Nat} (hn : fs.length = n) {i j : Nat} (hi : i < n) (hj : j < n) (h : (reach fs i).testBit j = true) : ∀ (k b : Nat), b < n → (it fs (2 ^ j) k).testBit b = true → (reach fs i).testBit b = true
  | 0, b, hb, hk => by
    have hk' : (2 ^ j).testBit b = true := hk
    rw [Nat.testBit_two_pow, decide_eq_true_eq] at hk'
    rw [← hk']
    exact h
  | k + 1, b, hb, hk => by
    have hk' : (withFr fs (it fs (2 ^ j) k)).testBit b = true := hk
    rw [withFr_bit, Bool.or_eq_true, List.any_eq_true] at hk'
    rcases hk' with hk' | ⟨a, ha, hab⟩
    · exact reach_trans hn hi hj h k b hb hk'
    · rw [Bool.and_eq_true] at hab
      have ha' : a < n := by
        have := List.mem_range.mp ha
        omega
      exact reach_step hn hi ha' hb (reach_trans hn hi hj h k a ha' hab.1) hab.2
/-! ## rings -/
/-- ways both ways -/
def bothWays (R : List Nat) (i j : Nat) : Bool := (R.getD i 0).testBit j && (R.getD j 0).testBit i
def firstOf (R : List Nat) (i : Nat) : Nat := ((List.range i).find? fun j => bothWays R i j).getD i
def reaches (n : Nat) (fs : List Nat) : List Nat := (List.range n).map (reach fs)
theorem reaches_get {n : Nat} {fs : List Nat} {i : Nat} (h : i < n) : (reaches n fs).getD i 0 = reach fs i := by
  unfold reaches
  simp [h]
theorem firstOf_le (R : List Nat) (i : Nat) : firstOf R i ≤ i := by
  unfold firstOf
  cases e : (List.range i).find? fun j => bothWays R i j with
  | none => exact Nat.le_refl _
  | some j =>
    have := List.mem_range.mp (List.mem_of_find?_eq_some e)
    show j ≤ i
    omega
theorem firstOf_least {R : List Nat} {i k : Nat} (h : k < firstOf R i) : bothWays R i k = false := by
  unfold firstOf at h
  cases e : (List.range i).find? fun j => bothWays R i j with
  | none =>
    rw [e] at h
    have h : k < i := h
    rw [List.find?_eq_none] at e
    have := e k (List.mem_range.mpr h)
    simpa using this
  | some j =>
    rw [e] at h
    have h : k < j := h
    rw [List.find?_range_eq_some] at e
    have := e.2.2 k h
    simpa using this
theorem firstOf_mut {R : List Nat} {i : Nat} (hr : bothWays R i i = true) : bothWays R i (firstOf R i) = true := by
  unfold firstOf
  cases e : (List.range i).find? fun j => bothWays R i j with
  | none => exact hr
  | some j => exact List.find?_some (p := fun j => bothWays R i j) e
theorem mut_self {n : Nat} {fs : List Nat} {i : Nat} (h : i < n) : bothWays (reaches n fs) i i = true := by
  unfold bothWays
  rw [reaches_get h, reach_self (n := n)]
  rfl
theorem mut_symm {R : List Nat} {i j : Nat} (h : bothWays R i j = true) : bothWays R j i = true := by
  unfold bothWays at h ⊢
  rw [Bool.and_comm]
  exact h
theorem mut_trans {n : Nat} {fs : List Nat} (hn : fs.length = n) {i j k : Nat} (hi : i < n) (hj : j < n) (hk : k < n) (h1 : bothWays (reaches n fs) i j = true) (h2 : bothWays (reaches n fs) j k = true) : bothWays (reaches n fs) i k = true := by
  unfold bothWays at h1 h2 ⊢
  rw [reaches_get hi, reaches_get hj, Bool.and_eq_true] at h1
  rw [reaches_get hj, reaches_get hk, Bool.and_eq_true] at h2
  rw [reaches_get hi, reaches_get hk, Bool.and_eq_true]
  exact ⟨reach_trans hn hi hj h1.1 _ k hk h2.1, reach_trans hn hk hj h2.2 _ i hi h1.2⟩
theorem least_rings {n : Nat} {fs : List Nat} (hn : fs.length = n) : Least (firstOf (reaches n fs)) n where
  le i _ := firstOf_le _ i
  idem i hi := by
    have hj : firstOf (reaches n fs) i < n := Nat.lt_of_le_of_lt (firstOf_le _ i) hi
    have m1 := firstOf_mut (mut_self (n := n) (fs := fs) hi)
    have m2 := firstOf_mut (mut_self (n := n) (fs := fs) hj)
    have hk := firstOf_le (reaches n fs) (firstOf (reaches n fs) i)
    by_cases e : firstOf (reaches n fs) (firstOf (reaches n fs) i) = firstOf (reaches n fs) i
    · exact e
    · have z := firstOf_least (R := reaches n fs) (i := i) (k := firstOf (reaches n fs) (firstOf (reaches n fs) i)) (by omega)
      rw [mut_trans hn hi hj (by omega) m1 m2] at z
      cases z
theorem find_range {n i : Nat} (hi : i < n) {p : Nat → Bool} (hp : p i = true) : ((List.range n).find? p).getD i = ((List.range i).find? p).getD i := by
  cases e : (List.range i).find? p with
  | some j =>
    rw [List.find?_range_eq_some] at e
    have : (List.range n).find? p = some j := by
      rw [List.find?_range_eq_some]
      have := List.mem_range.mp e.2.1
      exact ⟨e.1, List.mem_range.mpr (by omega), e.2.2⟩
    rw [this]
  | none =>
    rw [List.find?_eq_none] at e
    have : (List.range n).find? p = some i := by
      rw [List.find?_range_eq_some]
      refine ⟨hp, List.mem_range.mpr hi, fun j hj => ?_⟩
      have := e j (List.mem_range.mpr hj)
      simpa using this
    rw [this]
    rfl
theorem rings_eq {n : Nat} {fs : List Nat} (hn : fs.length = n) : Ks569.rings ⟨n, fs⟩ = nums (firstOf (reaches n fs)) n := by
  rw [← tidy_eq (least_rings hn)]
  unfold Ks569.rings
  congr 1
  refine List.map_congr_left fun i hi => ?_
  have hi' : i < n := List.mem_range.mp hi
  have e : (List.range n).find? (fun j => (Ks569.from_ ⟨n, fs⟩ i).contains j && (Ks569.from_ ⟨n, fs⟩ j).contains i) = (List.range n).find? (fun j => bothWays (reaches n fs) i j) := by
    have : ∀ l : List Nat, (∀ x ∈ l, x < n) → l.find? (fun j => (Ks569.from_ ⟨n, fs⟩ i).contains j && (Ks569.from_ ⟨n, fs⟩ j).contains i) = l.find? (fun j => bothWays (reaches n fs) i j) := by
      intro l
      induction l with
      | nil =>
        intro _
        rfl
      | cons a l ih =>
        intro h
        have ha : a < n := h a (by simp)
        rw [List.find?_cons, List.find?_cons, ih fun x hx => h x (by simp [hx])]
        have : ((Ks569.from_ ⟨n, fs⟩ i).contains a && (Ks569.from_ ⟨n, fs⟩ a).contains i) = bothWays (reaches n fs) i a := by
          rw [reach_from hn hi' ha, reach_from hn ha hi']
          unfold bothWays
          rw [reaches_get hi', reaches_get ha]
        rw [this]
    exact this _ fun x hx => List.mem_range.mp hx
  show ((List.range n).find? (fun j => (Ks569.from_ ⟨n, fs⟩ i).contains j && (Ks569.from_ ⟨n, fs⟩ j).contains i)).getD i = _
  rw [e, find_range hi' (mut_self hi')]
  rfl
end Rh
namespace Rh
/-! ## what is handed in -/
def good (n : Nat) (fs : List Nat) (i : Nat) : Bool := !(decide (2 ^ n ≤ fs.getD i 0) || (fs.getD i 0).testBit i)
def told (n : Nat) (fs : List Nat) : Bool := decide (1 ≤ n ∧ n ≤ 5 ∧ fs.length = n ∧ ∀ i, i < n → good n fs i = true)
theorem told_iff {n : Nat} {fs : List Nat} : told n fs = true ↔ 1 ≤ n ∧ n ≤ 5 ∧ fs.length = n ∧ ∀ i, i < n → good n fs i = true := by
  unfold told
  rw [decide_eq_true_eq]
theorem ties_told {n : Nat} {fs : List Nat} : Ks569.tiesOf n fs = if told n fs = true then some ⟨n, fs⟩ else none := by
  unfold Ks569.tiesOf
  by_cases h : told n fs = true
  · rw [if_pos h, if_neg]
    rw [told_iff] at h
    obtain ⟨h1, h2, h3, h4⟩ := h
    rintro (z | z | z | z)
    · omega
    · have z : 5 < n := z
      omega
    · exact z h3
    · rw [List.any_eq_true] at z
      obtain ⟨i, hi, z⟩ := z
      have := h4 i (List.mem_range.mp hi)
      unfold good at this
      rw [z] at this
      cases this
  · rw [if_neg h, if_pos]
    by_cases h1 : n < 1
    · exact .inl h1
    by_cases h2 : Ks565.PEOPLE < n
    · exact .inr (.inl h2)
    by_cases h3 : fs.length = n
    · right; right; right
      rw [told_iff] at h
      have h2' : ¬ 5 < n := h2
      have h4 : ¬ ∀ i, i < n → good n fs i = true := fun z => h ⟨by omega, by omega, h3, z⟩
      rw [List.any_eq_true]
      refine Classical.byContradiction fun z => h4 fun i hi => ?_
      unfold good
      rw [Bool.not_eq_true', ← Bool.not_eq_true]
      exact fun y => z ⟨i, List.mem_range.mpr hi, y⟩
    · exact .inr (.inr (.inl h3))
/-- numbers of the document as Python's -/
def asInts (l : List Nat) : List Int := l.map fun (x : Nat) => (x : Int)
theorem nats_asInts (l : List Nat) : Ks569Neutral.nats (asInts l) = l := by
  unfold Ks569Neutral.nats asInts
  rw [List.map_map]
  conv => rhs; rw [← List.map_id l]
  refine List.map_congr_left fun x _ => ?_
  exact Int.toNat_natCast x
theorem ties_due {n : Nat} {fs : List Nat} {g : Ks569.Ties → Ks569.Ans} : Ks569.ties n fs g = if told n fs = true then g ⟨n, fs⟩ else Ks569.no (-22) := by
  unfold Ks569.ties
  rw [ties_told]
  by_cases h : told n fs = true
  · rw [if_pos h, if_pos h]
  · rw [if_neg h, if_neg h]
theorem rings_due {n : Nat} {fs : List Nat} : PyKs569.rings (n : Int) (asInts fs) = if told n fs = true then ((reps (firstOf (reaches n fs)) n).length : Int) :: asInts (nums (firstOf (reaches n fs)) n) else [-22] := by
  show Ks569Neutral.out (Ks569.answer (.rings (Int.toNat (n : Int)) (Ks569Neutral.nats (asInts fs)))) = _
  rw [nats_asInts, Int.toNat_natCast]
  show Ks569Neutral.out (Ks569.ties n fs _) = _
  rw [ties_due]
  by_cases h : told n fs = true
  · rw [if_pos h, if_pos h]
    obtain ⟨h1, _, h3, _⟩ := told_iff.mp h
    show (Ks565.groups (Ks569.rings ⟨n, fs⟩) : Int) :: Ks565.ints (Ks569.rings ⟨n, fs⟩) = _
    rw [rings_eq h3, groups_eq (least_rings h3) h1]
    rfl
  · rw [if_neg h, if_neg h]
    rfl
theorem peeled_due {n : Nat} {fs : List Nat} : PyKs569.peeled (n : Int) (asInts fs) = if told n fs = true then ((Ks569.peeled ⟨n, fs⟩).length : Int) :: asInts (Ks569.peeled ⟨n, fs⟩) else [-22] := by
  show Ks569Neutral.out (Ks569.answer (.peeled (Int.toNat (n : Int)) (Ks569Neutral.nats (asInts fs)))) = _
  rw [nats_asInts, Int.toNat_natCast]
  show Ks569Neutral.out (Ks569.ties n fs _) = _
  rw [ties_due]
  by_cases h : told n fs = true
  · rw [if_pos h, if_pos h]
    rfl
  · rw [if_neg h, if_neg h]
    rfl
end Rh
namespace Rh
open Ks569 (Ties friend)
/-! ## sizes -/
theorem size_zero (w : Nat) : Ks569.size w 0 = 0 := by
  unfold Ks569.size Ks566.set
  simp
theorem size_half (w s : Nat) : Ks569.size (w + 1) s = s % 2 + Ks569.size w (s / 2) := by
  unfold Ks569.size Ks566.set
  rw [List.range_succ_eq_map, List.filter_cons]
  have e : ((List.range w).map Nat.succ).filter (fun i => s.testBit i) = ((List.range w).filter fun i => (s / 2).testBit i).map Nat.succ := by
    rw [List.filter_map]
    congr 1
    refine List.filter_congr fun i _ => ?_
    show s.testBit (i + 1) = _
    rw [Nat.testBit_succ]
  rw [e]
  by_cases h : s.testBit 0 = true
  · rw [if_pos h, List.length_cons, List.length_map]
    rw [Nat.testBit_zero, decide_eq_true_eq] at h
    omega
  · rw [if_neg h, List.length_map]
    rw [Nat.testBit_zero, decide_eq_true_eq] at h
    omega
/-! ## close -/
def isClose (fs : List Nat) (s : Nat) : Bool := (List.range fs.length).all fun i => !(s.testBit i && (s &&& (fs.getD i 0 ||| 2 ^ i) != s))
theorem and_eq_iff {s t : Nat} : s &&& t = s ↔ ∀ j, s.testBit j = true → t.testBit j = true := by
  constructor
  · intro h j hj
    rw [← h, Nat.testBit_and, Bool.and_eq_true] at hj
    exact hj.2
  · intro h
    refine Nat.eq_of_testBit_eq fun j => ?_
    rw [Nat.testBit_and]
    cases e : s.testBit j with
    | false => rfl
    | true => rw [h j e]; rfl
theorem bit_lt {n s j : Nat} (h : s < 2 ^ n) (hj : s.testBit j = true) : j < n := by
  refine Classical.byContradiction fun z => ?_
  have : s.testBit j = false := Nat.testBit_lt_two_pow (Nat.lt_of_lt_of_le h (Nat.pow_le_pow_right (by omega) (by omega)))
  rw [this] at hj
  cases hj
theorem close_iff {n : Nat} {fs : List Nat} {s : Nat} : Ks569.close ⟨n, fs⟩ s = true ↔ ∀ i, i < n → s.testBit i = true → ∀ j, j < n → s.testBit j = true → i = j ∨ (fs.getD i 0).testBit j = true := by
  unfold Ks569.close
  rw [List.all_eq_true]
  constructor
  · intro h i hi si j hj sj
    have h1 := h i (mem_set.mpr ⟨hi, si⟩)
    rw [List.all_eq_true] at h1
    have h2 := h1 j (mem_set.mpr ⟨hj, sj⟩)
    rw [Bool.or_eq_true, beq_iff_eq] at h2
    exact h2
  · intro h i hi
    obtain ⟨hi, si⟩ := mem_set.mp hi
    rw [List.all_eq_true]
    intro j hj
    obtain ⟨hj, sj⟩ := mem_set.mp hj
    rw [Bool.or_eq_true, beq_iff_eq]
    exact h i hi si j hj sj
theorem close_eq {n : Nat} {fs : List Nat} (hn : fs.length = n) {s : Nat} (hs : s < 2 ^ n) : isClose fs s = Ks569.close ⟨n, fs⟩ s := by
  rw [Bool.eq_iff_iff, close_iff]
  unfold isClose
  rw [List.all_eq_true, hn]
  constructor
  · intro h i hi si j hj sj
    have h1 := h i (List.mem_range.mpr hi)
    rw [si, Bool.true_and, Bool.not_eq_true', bne_eq_false_iff_eq, and_eq_iff] at h1
    have h2 := h1 j sj
    rw [Nat.testBit_or, Nat.testBit_two_pow, Bool.or_eq_true, decide_eq_true_eq] at h2
    rcases h2 with h2 | h2
    · exact .inr h2
    · exact .inl h2
  · intro h i hi
    have hi := List.mem_range.mp hi
    cases si : s.testBit i with
    | false => rfl
    | true =>
      rw [Bool.true_and, Bool.not_eq_true', bne_eq_false_iff_eq, and_eq_iff]
      intro j sj
      rw [Nat.testBit_or, Nat.testBit_two_pow, Bool.or_eq_true, decide_eq_true_eq]
      rcases h i hi si j (bit_lt hs sj) sj with h2 | h2
      · exact .inr h2
      · exact .inl h2
/-! ## the greatest -/
/-- one turn -/
def better (t : Ties) (left b s : Nat) : Nat := if (s &&& left) == s && Ks569.close t s && decide (Ks569.size t.n b < Ks569.size t.n s) then s else b
/-- the best of those below m -/
def best (t : Ties) (left m : Nat) : Nat := (List.range m).foldl (better t left) 0
theorem best_succ (t : Ties) (left m : Nat) : best t left (m + 1) = better t left (best t left m) m := by
  unfold best
  rw [List.range_succ, List.foldl_append]
  rfl
theorem best_past (t : Ties) (left : Nat) : ∀ k, best t left (left + 1 + k) = best t left (left + 1)
  | 0 => rfl
  | k + 1 => by
    rw [← Nat.add_assoc, best_succ, best_past t left k]
    unfold better
    rw [if_neg]
    intro z
    rw [Bool.and_eq_true, Bool.and_eq_true, beq_iff_eq] at z
    have h1 := z.1.1
    have h2 : (left + 1 + k) &&& left ≤ left := Nat.and_le_right
    omega
theorem greatest_eq {t : Ties} {left : Nat} (h : left < 2 ^ t.n) : Ks569.greatest t left = best t left (left + 1) := by
  have e : best t left (2 ^ t.n) = best t left (left + 1) := by
    have : 2 ^ t.n = left + 1 + (2 ^ t.n - (left + 1)) := by omega
    rw [this]
    exact best_past t left _
  rw [← e]
  rfl
/-- what may be taken -/
def fits (t : Ties) (left s : Nat) : Prop := s &&& left = s ∧ Ks569.close t s = true
theorem close_zero (t : Ties) : Ks569.close t 0 = true := by
  cases t with
  | mk n fs =>
    rw [close_iff]
    intro i _ z
    simp at z
theorem best_fits (t : Ties) (left : Nat) : ∀ m, fits t left (best t left m)
  | 0 => ⟨Nat.zero_and _, close_zero t⟩
  | m + 1 => by
    rw [best_succ]
    unfold better
    split
    · next h =>
      rw [Bool.and_eq_true, Bool.and_eq_true, beq_iff_eq] at h
      exact h.1
    · exact best_fits t left m
theorem best_most (t : Ties) (left : Nat) {s : Nat} (h : fits t left s) : ∀ m, s < m → Ks569.size t.n s ≤ Ks569.size t.n (best t left m)
  | 0, z => by omega
  | m + 1, hm => by
    rw [best_succ]
    unfold better
    by_cases e : s = m
    · subst e
      split
      · exact Nat.le_refl _
      · next z =>
        rw [h.1, h.2, beq_self_eq_true, Bool.true_and, Bool.true_and, decide_eq_true_eq] at z
        omega
    · have ih := best_most t left h m (by omega)
      split
      · next z =>
        rw [Bool.and_eq_true, decide_eq_true_eq] at z
        omega
      · exact ih
theorem sub_le {s left : Nat} (h : s &&& left = s) : s ≤ left := by
  rw [← h]
  exact Nat.and_le_right
theorem size_one {n i : Nat} (h : i < n) : Ks569.size n (2 ^ i) = 1 := by
  unfold Ks569.size
  rw [set_one h]
  rfl
theorem close_one {t : Ties} {i : Nat} : Ks569.close t (2 ^ i) = true := by
  cases t with
  | mk n fs =>
    rw [close_iff]
    intro a _ ha b _ hb
    rw [Nat.testBit_two_pow, decide_eq_true_eq] at ha hb
    omega
theorem exists_bit {n s : Nat} (h : s < 2 ^ n) (h0 : s ≠ 0) : ∃ i, i < n ∧ s.testBit i = true := by
  obtain ⟨i, hi⟩ := Nat.exists_testBit_of_ne_zero h0
  exact ⟨i, bit_lt h hi, hi⟩
theorem best_pos {t : Ties} {left : Nat} (h : left < 2 ^ t.n) (h0 : left ≠ 0) : 1 ≤ Ks569.size t.n (best t left (left + 1)) := by
  obtain ⟨i, hi, hb⟩ := exists_bit h h0
  have f : fits t left (2 ^ i) := by
    refine ⟨?_, close_one⟩
    rw [and_eq_iff]
    intro j hj
    rw [Nat.testBit_two_pow, decide_eq_true_eq] at hj
    rw [← hj]
    exact hb
  have := best_most t left f (left + 1) (by have := sub_le f.1; omega)
  rw [size_one hi] at this
  exact this
theorem size_sub {n s left : Nat} (h : s &&& left = s) : Ks569.size n (left ^^^ s) + Ks569.size n s = Ks569.size n left := by
  unfold Ks569.size Ks566.set
  induction n with
  | zero => rfl
  | succ n ih =>
    rw [List.range_succ, List.filter_append, List.filter_append, List.filter_append, List.length_append, List.length_append, List.length_append]
    have e : ([n].filter fun i => (left ^^^ s).testBit i).length + ([n].filter fun i => s.testBit i).length = ([n].filter fun i => left.testBit i).length := by
      have h1 : s.testBit n = true → left.testBit n = true := and_eq_iff.mp h n
      cases e1 : s.testBit n with
      | true =>
        have e2 := h1 e1
        simp [e1, e2]
      | false =>
        cases e2 : left.testBit n with
        | true => simp [e1, e2]
        | false => simp [e1, e2]
    omega
theorem xor_lt {n s left : Nat} (hs : s < 2 ^ n) (hl : left < 2 ^ n) : left ^^^ s < 2 ^ n := Nat.xor_lt_two_pow hl hs
/-- one more is peeled -/
theorem peel_step {t : Ties} {left f : Nat} (h : left < 2 ^ t.n) (h0 : left ≠ 0) (hf : Ks569.size t.n left ≤ f) : ∃ f', Ks569.peel t f left = best t left (left + 1) :: Ks569.peel t f' (left ^^^ best t left (left + 1)) ∧ left ^^^ best t left (left + 1) < 2 ^ t.n ∧ Ks569.size t.n (left ^^^ best t left (left + 1)) ≤ f' ∧ Ks569.size t.n (left ^^^ best t left (left + 1)) < Ks569.size t.n left ∧ f = f' + 1 := by
  have b1 := best_pos h h0
  have b2 := best_fits t left (left + 1)
  have b3 := size_sub (n := t.n) b2.1
  obtain ⟨f', rfl⟩ : ∃ f', f = f' + 1 := ⟨f - 1, by omega⟩
  refine ⟨f', ?_, xor_lt (Nat.lt_of_le_of_lt (sub_le b2.1) h) h, by omega, by omega, rfl⟩
  show (if left = 0 then [] else Ks569.greatest t left :: Ks569.peel t f' (left ^^^ Ks569.greatest t left)) = _
  rw [if_neg h0, greatest_eq h]
theorem peel_zero (t : Ties) : ∀ f, Ks569.peel t f 0 = []
  | 0 => rfl
  | f + 1 => by
    show (if 0 = 0 then [] else _) = []
    rw [if_pos rfl]
theorem peel_len (t : Ties) : ∀ f left, (Ks569.peel t f left).length ≤ f
  | 0, _ => Nat.le_refl _
  | f + 1, left => by
    show (if left = 0 then [] else Ks569.greatest t left :: Ks569.peel t f (left ^^^ Ks569.greatest t left)).length ≤ f + 1
    split
    · exact Nat.zero_le _
    · have := peel_len t f (left ^^^ Ks569.greatest t left)
      rw [List.length_cons]
      omega
theorem size_le (n s : Nat) : Ks569.size n s ≤ n := set_len n s
end Rh
namespace Rh
open Ks569 (Ties friend)
/-! ## what one has -/
/-- what j is worth to i -/
def val (n k : Nat) (fs : List Nat) (i j : Nat) : Int := if (fs.getD i 0).testBit j then (if k = 0 then (n : Int) else 1) else (if k = 0 then -1 else -(n : Int))
theorem rows_get {α : Type} {d : α} {n : Nat} (f : Nat → Nat → α) : ∀ (m i j : Nat), i < m → j < n → ((List.range m).flatMap fun i => (List.range n).map (f i)).getD (i * n + j) d = f i j := by
  intro m
  induction m with
  | zero =>
    intro i j hi
    omega
  | succ m ih =>
    intro i j hi hj
    have hlen : ∀ m, ((List.range m).flatMap fun i => (List.range n).map (f i)).length = m * n := by
      intro m
      induction m with
      | zero => simp
      | succ m ih =>
        rw [List.range_succ, List.flatMap_append, List.length_append, ih, Nat.succ_mul]
        simp
    rw [List.range_succ, List.flatMap_append]
    by_cases e : i = m
    · subst e
      rw [List.getD_eq_getElem?_getD, List.getElem?_append_right (by rw [hlen]; omega), hlen]
      have : i * n + j - i * n = j := by omega
      rw [this]
      simp [hj]
    · rw [List.getD_eq_getElem?_getD, List.getElem?_append_left (by
        rw [hlen]
        have : (i + 1) * n ≤ m * n := Nat.mul_le_mul_right n (by omega)
        rw [Nat.succ_mul] at this
        omega), ← List.getD_eq_getElem?_getD]
      exact ih i j (by omega) hj
theorem likes_eq {n k : Nat} {fs : List Nat} {i j : Nat} (hi : i < n) (hj : j < n) : Ks565.likes (Ks569.first ⟨n, fs⟩ k) i j = if i = j then 0 else val n k fs i j := by
  unfold Ks565.likes
  by_cases e : i = j
  · rw [if_pos e, if_pos e]
  · rw [if_neg e, if_neg e]
    have := rows_get (d := (0 : Int)) (n := n) (fun i j => if i = j then (0 : Int) else if friend ⟨n, fs⟩ i j then (if k = 0 then (n : Int) else 1) else (if k = 0 then -1 else -(n : Int))) n i j hi hj
    refine Eq.trans this ?_
    rw [if_neg e]
    rfl
/-- all that some of the first m are worth to i, together -/
def tot (n k : Nat) (fs : List Nat) (i : Nat) (p : Nat → Bool) : Nat → Int
  | 0 => 0
  | m + 1 => if p m = true ∧ i ≠ m then tot n k fs i p m + val n k fs i m else tot n k fs i p m
theorem tot_succ (n k : Nat) (fs : List Nat) (i : Nat) (p : Nat → Bool) (m : Nat) : tot n k fs i p (m + 1) = if p m = true ∧ i ≠ m then tot n k fs i p m + val n k fs i m else tot n k fs i p m := rfl
theorem fold_filter {n k : Nat} {fs : List Nat} {i : Nat} (hi : i < n) (p : Nat → Bool) : ∀ m, m ≤ n → (((List.range m).filter p).map (Ks565.likes (Ks569.first ⟨n, fs⟩ k) i)).foldl (· + ·) 0 = tot n k fs i p m
  | 0, _ => rfl
  | m + 1, h => by
    have ih := fold_filter (k := k) (fs := fs) hi p m (by omega)
    rw [List.range_succ, List.filter_append, List.map_append, List.foldl_append, ih, tot_succ]
    cases e : p m with
    | false => simp [e]
    | true =>
      have l := likes_eq (k := k) (fs := fs) hi (by omega : m < n)
      have : [m].filter p = [m] := by simp [e]
      rw [this]
      show tot n k fs i p m + Ks565.likes (Ks569.first ⟨n, fs⟩ k) i m = _
      rw [l]
      by_cases e2 : i = m
      · rw [if_pos e2, if_neg (by simp [e2])]
        omega
      · rw [if_neg e2, if_pos ⟨rfl, e2⟩]
theorem with_set {n k : Nat} {fs : List Nat} {i : Nat} (hi : i < n) (s : Nat) : Ks565.with_ (Ks569.first ⟨n, fs⟩ k) i (Ks566.set n s) = tot n k fs i (fun j => s.testBit j) n := fold_filter hi _ n (Nat.le_refl _)
theorem tot_congr {n k : Nat} {fs : List Nat} {i : Nat} {p q : Nat → Bool} : ∀ m, (∀ j, j < m → p j = q j) → tot n k fs i p m = tot n k fs i q m
  | 0, _ => rfl
  | m + 1, h => by
    rw [tot_succ, tot_succ, h m (by omega), tot_congr m fun j hj => h j (by omega)]
/-! ## groups as they are handed in -/
def firstG (gs : List Nat) (i : Nat) : Nat := ((List.range i).find? fun j => gs.getD j 0 == gs.getD i 0).getD i
theorem firstG_le (gs : List Nat) (i : Nat) : firstG gs i ≤ i := by
  unfold firstG
  cases e : (List.range i).find? fun j => gs.getD j 0 == gs.getD i 0 with
  | none => exact Nat.le_refl _
  | some j =>
    have := List.mem_range.mp (List.mem_of_find?_eq_some e)
    show j ≤ i
    omega
theorem firstG_same (gs : List Nat) (i : Nat) : gs.getD (firstG gs i) 0 = gs.getD i 0 := by
  unfold firstG
  cases e : (List.range i).find? fun j => gs.getD j 0 == gs.getD i 0 with
  | none => rfl
  | some j =>
    have := List.find?_some (p := fun j => gs.getD j 0 == gs.getD i 0) e
    exact beq_iff_eq.mp this
theorem firstG_least {gs : List Nat} {i k : Nat} (h : k < firstG gs i) : gs.getD k 0 ≠ gs.getD i 0 := by
  unfold firstG at h
  cases e : (List.range i).find? fun j => gs.getD j 0 == gs.getD i 0 with
  | none =>
    rw [e] at h
    have h : k < i := h
    rw [List.find?_eq_none] at e
    have := e k (List.mem_range.mpr h)
    simpa using this
  | some j =>
    rw [e] at h
    have h : k < j := h
    rw [List.find?_range_eq_some] at e
    have := e.2.2 k h
    simpa using this
theorem firstG_iff {gs : List Nat} {i j : Nat} : firstG gs i = firstG gs j ↔ gs.getD i 0 = gs.getD j 0 := by
  constructor
  · intro h
    rw [← firstG_same gs i, h, firstG_same]
  · intro h
    have a := firstG_same gs i
    have b := firstG_same gs j
    rcases Nat.lt_trichotomy (firstG gs i) (firstG gs j) with z | z | z
    · exact absurd (a.trans h) (firstG_least z)
    · exact z
    · exact absurd (b.trans h.symm) (firstG_least z)
theorem least_groups (gs : List Nat) (n : Nat) : Least (firstG gs) n where
  le i _ := firstG_le gs i
  idem i _ := firstG_iff.mpr (firstG_same gs i)
theorem list_eq_map (gs : List Nat) : gs = (List.range gs.length).map fun i => gs.getD i 0 := by
  refine List.ext_getElem (by simp) fun i h1 h2 => ?_
  simp [h1]
/-- tidy by other names -/
theorem firsts_map {F G : Nat → Nat} : ∀ (m : Nat), (∀ i j, i < m → j < m → (F i = F j ↔ G i = G j)) → ∃ l : List Nat, (∀ x ∈ l, x < m) ∧ ((List.range m).map F).foldl (fun l x => if l.contains x then l else l ++ [x]) [] = l.map F ∧ ((List.range m).map G).foldl (fun l x => if l.contains x then l else l ++ [x]) [] = l.map G
  | 0, _ => ⟨[], by simp, rfl, rfl⟩
  | m + 1, h => by
    obtain ⟨l, hl, e1, e2⟩ := firsts_map (F := F) (G := G) m fun i j hi hj => h i j (by omega) (by omega)
    rw [List.range_succ, List.map_append, List.map_append, List.foldl_append, List.foldl_append, e1, e2]
    have key : (l.map F).contains (F m) = (l.map G).contains (G m) := by
      rw [Bool.eq_iff_iff, List.contains_iff_mem, List.contains_iff_mem, List.mem_map, List.mem_map]
      constructor
      · rintro ⟨x, hx, e⟩
        exact ⟨x, hx, (h x m (by have := hl x hx; omega) (by omega)).mp e⟩
      · rintro ⟨x, hx, e⟩
        exact ⟨x, hx, (h x m (by have := hl x hx; omega) (by omega)).mpr e⟩
    show ∃ l', _ ∧ (if (l.map F).contains (F m) then l.map F else l.map F ++ [F m]) = _ ∧ (if (l.map G).contains (G m) then l.map G else l.map G ++ [G m]) = _
    rw [key]
    cases (l.map G).contains (G m) with
    | true => exact ⟨l, fun x hx => by have := hl x hx; omega, rfl, rfl⟩
    | false =>
      refine ⟨l ++ [m], fun x hx => ?_, ?_, ?_⟩
      · rcases List.mem_append.mp hx with hx | hx
        · have := hl x hx
          omega
        · have := List.mem_singleton.mp hx
          omega
      · rw [List.map_append]
        rfl
      · rw [List.map_append]
        rfl
theorem takeWhile_map {F G : Nat → Nat} {i : Nat} : ∀ (l : List Nat), (∀ x ∈ l, (F x = F i ↔ G x = G i)) → ((l.map F).takeWhile fun y => y != F i).length = ((l.map G).takeWhile fun y => y != G i).length
  | [], _ => rfl
  | a :: l, h => by
    have ih := takeWhile_map l fun x hx => h x (by simp [hx])
    have ha := h a (by simp)
    rw [List.map_cons, List.map_cons, List.takeWhile_cons, List.takeWhile_cons]
    by_cases e : F a = F i
    · have e2 := ha.mp e
      simp [e, e2]
    · have e2 : ¬ G a = G i := fun z => e (ha.mpr z)
      simp only [bne_iff_ne.mpr e, bne_iff_ne.mpr e2, if_true, List.length_cons, ih]
theorem tidy_map {F G : Nat → Nat} {n : Nat} (h : ∀ i j, i < n → j < n → (F i = F j ↔ G i = G j)) : Ks565.tidy ((List.range n).map F) = Ks565.tidy ((List.range n).map G) := by
  obtain ⟨l, hl, e1, e2⟩ := firsts_map n h
  unfold Ks565.tidy
  show ((List.range n).map F).map (fun x => ((((List.range n).map F).foldl (fun l x => if l.contains x then l else l ++ [x]) []).takeWhile fun y => y != x).length) = ((List.range n).map G).map (fun x => ((((List.range n).map G).foldl (fun l x => if l.contains x then l else l ++ [x]) []).takeWhile fun y => y != x).length)
  rw [e1, e2, List.map_map, List.map_map]
  refine List.map_congr_left fun i hi => ?_
  have hi' := List.mem_range.mp hi
  exact takeWhile_map l fun x hx => h x i (hl x hx) hi'
theorem tidy_groups {gs : List Nat} {n : Nat} (hn : gs.length = n) : Ks565.tidy gs = nums (firstG gs) n := by
  rw [← tidy_eq (least_groups gs n)]
  conv => lhs; rw [list_eq_map gs, hn]
  exact tidy_map fun i j _ _ => firstG_iff.symm
/-- two are in one group -/
theorem nums_same {F : Nat → Nat} {n : Nat} (L : Least F n) {i j : Nat} (hi : i < n) (hj : j < n) : (reps F (F i)).length = (reps F (F j)).length ↔ F i = F j := by
  constructor
  · intro h
    rcases Nat.lt_trichotomy (F i) (F j) with z | z | z
    · have a := reps_pos (F := F) (m := F i) (L.idem i hi)
      have b := reps_mono (F := F) (a := F i + 1) (b := F j) z
      rw [a, List.length_append] at b
      simp only [List.length_singleton] at b
      omega
    · exact z
    · have a := reps_pos (F := F) (m := F j) (L.idem j hj)
      have b := reps_mono (F := F) (a := F j + 1) (b := F i) z
      rw [a, List.length_append] at b
      simp only [List.length_singleton] at b
      omega
  · intro h
    rw [h]
theorem nums_getD {F : Nat → Nat} {m i : Nat} (h : i < m) : (nums F m).getD i 0 = (reps F (F i)).length := by
  rw [List.getD_eq_getElem?_getD, nums_get h]
  rfl
theorem worth_eq {n k : Nat} {fs gs : List Nat} (hn : gs.length = n) {i : Nat} (hi : i < n) : Ks565.worth (Ks569.first ⟨n, fs⟩ k) (Ks565.tidy gs) i = tot n k fs i (fun j => gs.getD j 0 == gs.getD i 0) n := by
  rw [tidy_groups hn]
  unfold Ks565.worth Ks565.members Ks565.with_
  rw [nums_length, nums_getD hi]
  rw [fold_filter hi _ n (Nat.le_refl _)]
  refine tot_congr n fun j hj => ?_
  rw [nums_getD hj, Bool.eq_iff_iff, beq_iff_eq, beq_iff_eq, nums_same (least_groups gs n) hj hi, firstG_iff]
theorem groups_count {n : Nat} {gs : List Nat} (hn : gs.length = n) (h : 1 ≤ n) : Ks565.groups (Ks565.tidy gs) = (reps (firstG gs) n).length := by
  rw [tidy_groups hn, groups_eq (least_groups gs n) h]
/-! ## what is due -/
def toldG (n k : Nat) (gs : List Nat) : Bool := decide (k ≤ 1 ∧ gs.length = n ∧ ∀ i, i < n → gs.getD i 0 < n)
theorem toldG_iff {n k : Nat} {gs : List Nat} : toldG n k gs = true ↔ k ≤ 1 ∧ gs.length = n ∧ ∀ i, i < n → gs.getD i 0 < n := by
  unfold toldG
  rw [decide_eq_true_eq]
theorem any_getD {n : Nat} {gs : List Nat} (hn : gs.length = n) : (gs.any fun x => decide (n ≤ x)) = true ↔ ∃ i, i < n ∧ n ≤ gs.getD i 0 := by
  rw [List.any_eq_true]
  constructor
  · rintro ⟨x, hx, h⟩
    obtain ⟨i, hi, e⟩ := List.mem_iff_getElem.mp hx
    refine ⟨i, by omega, ?_⟩
    rw [decide_eq_true_eq] at h
    have : gs.getD i 0 = x := by simp [hi, e]
    omega
  · rintro ⟨i, hi, h⟩
    have hi' : i < gs.length := by omega
    refine ⟨gs[i], List.getElem_mem hi', ?_⟩
    have : gs.getD i 0 = gs[i] := by simp [hi']
    rw [decide_eq_true_eq]
    omega
theorem both_due {n k : Nat} {fs gs : List Nat} {g : Ks565.Folk → Ks565.Groups → Ks569.Ans} : Ks569.both n k fs gs g = if told n fs = true ∧ toldG n k gs = true then g (Ks569.first ⟨n, fs⟩ k) (Ks565.tidy gs) else Ks569.no (-22) := by
  unfold Ks569.both
  rw [ties_due]
  by_cases h : told n fs = true
  · rw [if_pos h]
    by_cases h2 : toldG n k gs = true
    · have bad : ¬ (1 < k ∨ gs.length ≠ n ∨ (gs.any fun x => decide (n ≤ x)) = true) := by
        obtain ⟨a, b, c⟩ := toldG_iff.mp h2
        rintro (z | z | z)
        · omega
        · exact z b
        · obtain ⟨i, hi, hz⟩ := (any_getD b).mp z
          have := c i hi
          omega
      rw [if_neg bad, if_pos ⟨h, h2⟩]
    · have n2 : ¬ (told n fs = true ∧ toldG n k gs = true) := fun z => h2 z.2
      rw [if_neg n2, if_pos]
      by_cases a : 1 < k
      · exact .inl a
      by_cases b : gs.length = n
      · right; right
        rw [any_getD b]
        refine Classical.byContradiction fun z => h2 (toldG_iff.mpr ⟨by omega, b, fun i hi => ?_⟩)
        refine Classical.byContradiction fun y => z ⟨i, hi, by omega⟩
      · exact .inr (.inl b)
  · rw [if_neg h, if_neg (fun z => h z.1)]
theorem worths_due {n k : Nat} {fs gs : List Nat} : PyKs569.worths (n : Int) (k : Int) (asInts fs) (asInts gs) = if told n fs = true ∧ toldG n k gs = true then ((reps (firstG gs) n).length : Int) :: (List.range n).map (fun i => tot n k fs i (fun j => gs.getD j 0 == gs.getD i 0) n) else [-22] := by
  show Ks569Neutral.out (Ks569.answer (.worths (Int.toNat (n : Int)) (Int.toNat (k : Int)) (Ks569Neutral.nats (asInts fs)) (Ks569Neutral.nats (asInts gs)))) = _
  rw [nats_asInts, nats_asInts, Int.toNat_natCast, Int.toNat_natCast]
  show Ks569Neutral.out (Ks569.both n k fs gs _) = _
  rw [both_due]
  by_cases h : told n fs = true ∧ toldG n k gs = true
  · rw [if_pos h, if_pos h]
    obtain ⟨h1, _⟩ := told_iff.mp h.1
    obtain ⟨_, h2, _⟩ := toldG_iff.mp h.2
    show (Ks565.groups (Ks565.tidy gs) : Int) :: (List.range n).map (Ks565.worth (Ks569.first ⟨n, fs⟩ k) (Ks565.tidy gs)) = _
    rw [groups_count h2 h1]
    congr 1
    exact List.map_congr_left fun i hi => worth_eq h2 (List.mem_range.mp hi)
  · rw [if_neg h, if_neg h]
    rfl
/-- whether the set s would leave the groups gs -/
def wants (n k w : Nat) (fs gs : List Nat) (s : Nat) : Bool :=
  if w = 0 then s != 0 && (List.range n).all fun i => !s.testBit i || decide (tot n k fs i (fun j => gs.getD j 0 == gs.getD i 0) n < tot n k fs i (fun j => s.testBit j) n)
  else ((List.range n).all fun i => !s.testBit i || decide (tot n k fs i (fun j => gs.getD j 0 == gs.getD i 0) n ≤ tot n k fs i (fun j => s.testBit j) n)) && (List.range n).any fun i => s.testBit i && decide (tot n k fs i (fun j => gs.getD j 0 == gs.getD i 0) n < tot n k fs i (fun j => s.testBit j) n)
theorem all_filter' {p q r : Nat → Bool} : ∀ (l : List Nat), (∀ x ∈ l, p x = true → q x = r x) → (l.filter p).all q = l.all fun x => !p x || r x
  | [], _ => rfl
  | a :: l, h => by
    have ih := all_filter' (q := q) (r := r) l fun x hx => h x (by simp [hx])
    rw [List.all_cons, ← ih]
    cases e : p a with
    | true =>
      rw [List.filter_cons_of_pos e, List.all_cons, h a (by simp) e]
      rfl
    | false =>
      rw [List.filter_cons_of_neg (by simp [e])]
      rfl
theorem any_filter' {p q r : Nat → Bool} : ∀ (l : List Nat), (∀ x ∈ l, p x = true → q x = r x) → (l.filter p).any q = l.any fun x => p x && r x
  | [], _ => rfl
  | a :: l, h => by
    have ih := any_filter' (q := q) (r := r) l fun x hx => h x (by simp [hx])
    rw [List.any_cons, ← ih]
    cases e : p a with
    | true =>
      rw [List.filter_cons_of_pos e, List.any_cons, h a (by simp) e]
      rfl
    | false =>
      rw [List.filter_cons_of_neg (by simp [e])]
      rfl
theorem by_eq {n k w : Nat} {fs gs : List Nat} (hn : gs.length = n) : Ks566.by_ (Ks569.first ⟨n, fs⟩ k) w (Ks565.tidy gs) = (List.range (2 ^ n)).filter (wants n k w fs gs) := by
  unfold Ks566.by_
  refine List.filter_congr fun s _ => ?_
  unfold wants
  have c1 : ∀ i ∈ List.range n, s.testBit i = true → decide (Ks565.worth (Ks569.first ⟨n, fs⟩ k) (Ks565.tidy gs) i < Ks565.with_ (Ks569.first ⟨n, fs⟩ k) i (Ks566.set n s)) = decide (tot n k fs i (fun j => gs.getD j 0 == gs.getD i 0) n < tot n k fs i (fun j => s.testBit j) n) := fun i hi _ => by
    rw [worth_eq hn (List.mem_range.mp hi), with_set (List.mem_range.mp hi)]
  have c2 : ∀ i ∈ List.range n, s.testBit i = true → decide (Ks565.worth (Ks569.first ⟨n, fs⟩ k) (Ks565.tidy gs) i ≤ Ks565.with_ (Ks569.first ⟨n, fs⟩ k) i (Ks566.set n s)) = decide (tot n k fs i (fun j => gs.getD j 0 == gs.getD i 0) n ≤ tot n k fs i (fun j => s.testBit j) n) := fun i hi _ => by
    rw [worth_eq hn (List.mem_range.mp hi), with_set (List.mem_range.mp hi)]
  by_cases h : w = 0
  · rw [if_pos h, if_pos h]
    show (s != 0 && ((List.range n).filter fun i => s.testBit i).all fun i => decide (Ks565.worth (Ks569.first ⟨n, fs⟩ k) (Ks565.tidy gs) i < Ks565.with_ (Ks569.first ⟨n, fs⟩ k) i (Ks566.set n s))) = _
    rw [all_filter' _ c1]
  · rw [if_neg h, if_neg h]
    show (((List.range n).filter fun i => s.testBit i).all (fun i => decide (Ks565.worth (Ks569.first ⟨n, fs⟩ k) (Ks565.tidy gs) i ≤ Ks565.with_ (Ks569.first ⟨n, fs⟩ k) i (Ks566.set n s))) && ((List.range n).filter fun i => s.testBit i).any fun i => decide (Ks565.worth (Ks569.first ⟨n, fs⟩ k) (Ks565.tidy gs) i < Ks565.with_ (Ks569.first ⟨n, fs⟩ k) i (Ks566.set n s))) = _
    rw [all_filter' _ c2, any_filter' _ c1]
theorem leavers_due {n k w : Nat} {fs gs : List Nat} : PyKs569.leavers (n : Int) (k : Int) (w : Int) (asInts fs) (asInts gs) = if (told n fs = true ∧ toldG n k gs = true) ∧ w ≤ 1 then (((List.range (2 ^ n)).filter (wants n k w fs gs)).length : Int) :: asInts ((List.range (2 ^ n)).filter (wants n k w fs gs)) else [-22] := by
  show Ks569Neutral.out (Ks569.answer (.by_ (Int.toNat (n : Int)) (Int.toNat (k : Int)) (Int.toNat (w : Int)) (Ks569Neutral.nats (asInts fs)) (Ks569Neutral.nats (asInts gs)))) = _
  rw [nats_asInts, nats_asInts, Int.toNat_natCast, Int.toNat_natCast, Int.toNat_natCast]
  show Ks569Neutral.out (Ks569.both n k fs gs _) = _
  rw [both_due]
  by_cases h : told n fs = true ∧ toldG n k gs = true
  · rw [if_pos h]
    obtain ⟨_, h2, _⟩ := toldG_iff.mp h.2
    by_cases hw : w ≤ 1
    · rw [if_pos (show (told n fs = true ∧ toldG n k gs = true) ∧ w ≤ 1 from ⟨h, hw⟩), if_neg (show ¬ 1 < w by omega)]
      show Ks569Neutral.out (Ks569.told (Ks566.by_ (Ks569.first ⟨n, fs⟩ k) w (Ks565.tidy gs))) = _
      rw [by_eq h2]
      rfl
    · rw [if_neg (show ¬ ((told n fs = true ∧ toldG n k gs = true) ∧ w ≤ 1) from fun z => hw z.2), if_pos (show 1 < w by omega)]
      rfl
  · rw [if_neg h, if_neg (fun z => h z.1)]
    rfl
theorem close_due {n s : Nat} {fs : List Nat} : PyKs569.close (n : Int) (s : Int) (asInts fs) = if told n fs = true ∧ s < 2 ^ n then [if isClose fs s = true then 1 else 0, ((best ⟨n, fs⟩ s (s + 1) : Nat) : Int)] else [-22] := by
  show Ks569Neutral.out (Ks569.answer (.close (Int.toNat (n : Int)) (Int.toNat (s : Int)) (Ks569Neutral.nats (asInts fs)))) = _
  rw [nats_asInts, Int.toNat_natCast, Int.toNat_natCast]
  show Ks569Neutral.out (Ks569.ties n fs _) = _
  rw [ties_due]
  by_cases h : told n fs = true
  · rw [if_pos h]
    obtain ⟨_, _, h3, _⟩ := told_iff.mp h
    by_cases hs : s < 2 ^ n
    · rw [if_pos (show told n fs = true ∧ s < 2 ^ n from ⟨h, hs⟩), if_neg (show ¬ 2 ^ n ≤ s by omega), close_eq h3 hs, ← greatest_eq (t := ⟨n, fs⟩) hs]
      rfl
    · rw [if_neg (show ¬ (told n fs = true ∧ s < 2 ^ n) from fun z => hs z.2), if_pos (show 2 ^ n ≤ s by omega)]
      rfl
  · rw [if_neg h, if_neg (fun z => h z.1)]
    rfl
end Rh
namespace Rh
/-! ## what one has, by counting friends and foes -/
theorem size_snoc (m s : Nat) : Ks569.size (m + 1) s = Ks569.size m s + if s.testBit m = true then 1 else 0 := by
  unfold Ks569.size Ks566.set
  rw [List.range_succ, List.filter_append, List.length_append]
  congr 1
  by_cases h : s.testBit m = true
  · rw [if_pos h]
    simp [h]
  · rw [if_neg h]
    simp [h]
/-- what i has with the set s: near friends, the others far, i aside -/
def hasIn (n k : Nat) (fs : List Nat) (s i : Nat) : Int :=
  if k = 0 then (Ks569.size n (s &&& fs.getD i 0) : Int) * (n : Int) - ((Ks569.size n s : Int) - (Ks569.size n (s &&& fs.getD i 0) : Int) - 1)
  else (Ks569.size n (s &&& fs.getD i 0) : Int) - ((Ks569.size n s : Int) - (Ks569.size n (s &&& fs.getD i 0) : Int) - 1) * (n : Int)
theorem tot_count {n k : Nat} {fs : List Nat} {i s : Nat} (hself : (fs.getD i 0).testBit i = false) (hi : s.testBit i = true) : ∀ m : Nat,
    tot n k fs i (fun j => s.testBit j) m = (Ks569.size m (s &&& fs.getD i 0) : Int) * (if k = 0 then (n : Int) else 1) - ((Ks569.size m s : Int) - (Ks569.size m (s &&& fs.getD i 0) : Int) - (if i < m then 1 else 0)) * (if k = 0 then 1 else (n : Int))
  | 0 => by
    rw [show Ks569.size 0 s = 0 from rfl, show Ks569.size 0 (s &&& fs.getD i 0) = 0 from rfl, if_neg (Nat.not_lt_zero i)]
    simp [tot]
  | m + 1 => by
    have ih := tot_count (n := n) (k := k) (fs := fs) (i := i) (s := s) hself hi m
    rw [tot_succ, size_snoc, size_snoc, Nat.testBit_and, ih]
    generalize Ks569.size m s = a at *
    generalize Ks569.size m (s &&& fs.getD i 0) = b at *
    unfold val
    cases e : s.testBit m with
    | false =>
      have hne : i ≠ m := fun z => by rw [z, e] at hi; cases hi
      have h1 : (i < m + 1) = (i < m) := by
        rw [eq_iff_iff]
        omega
      simp [h1]
    | true =>
      by_cases hne : i = m
      · subst hne
        rw [hself, if_neg (fun z => z.2 rfl), if_neg (Nat.lt_irrefl i), if_pos (Nat.lt_succ_self i)]
        simp only [Bool.and_false, if_true, Bool.false_eq_true, if_false, Int.natCast_add, Int.natCast_one, Nat.add_zero]
        congr 2
        omega
      · have h1 : (i < m + 1) = (i < m) := by
          rw [eq_iff_iff]
          omega
        rw [if_pos ⟨rfl, hne⟩, if_pos rfl]
        cases f : (fs.getD i 0).testBit m with
        | true =>
          simp only [h1, Bool.and_self, if_true, Int.natCast_add, Int.natCast_one, Int.add_mul, Int.sub_mul, Int.one_mul]
          omega
        | false =>
          by_cases hk : k = 0
          · simp only [h1, hk, Bool.and_false, if_true, if_false, Bool.false_eq_true, Int.natCast_add, Int.natCast_one, Int.add_mul, Int.sub_mul, Int.one_mul, Int.mul_one, Nat.add_zero]
            omega
          · simp only [h1, hk, Bool.and_false, if_true, if_false, Bool.false_eq_true, Int.natCast_add, Int.natCast_one, Int.add_mul, Int.sub_mul, Int.one_mul, Int.mul_one, Nat.add_zero]
            omega
theorem hasIn_eq {n k : Nat} {fs : List Nat} {i s : Nat} (hn : i < n) (hself : (fs.getD i 0).testBit i = false) (hi : s.testBit i = true) : hasIn n k fs s i = tot n k fs i (fun j => s.testBit j) n := by
  rw [tot_count hself hi n, if_pos hn]
  unfold hasIn
  by_cases hk : k = 0
  · rw [if_pos hk, if_pos hk, if_pos hk, Int.mul_one]
  · rw [if_neg hk, if_neg hk, if_neg hk, Int.mul_one]
/-! ## the set of one's group -/
def gset (gs : List Nat) (i : Nat) : Nat → Nat
  | 0 => 0
  | m + 1 => if gs.getD m 0 = gs.getD i 0 then gset gs i m ||| 2 ^ m else gset gs i m
theorem gset_t {gs : List Nat} {i m : Nat} (h : gs.getD m 0 = gs.getD i 0) : gset gs i (m + 1) = gset gs i m ||| 2 ^ m := if_pos h
theorem gset_f {gs : List Nat} {i m : Nat} (h : ¬ gs.getD m 0 = gs.getD i 0) : gset gs i (m + 1) = gset gs i m := if_neg h
theorem gset_lt (gs : List Nat) (i : Nat) : ∀ m, gset gs i m < 2 ^ m
  | 0 => by
    show 0 < 2 ^ 0
    omega
  | m + 1 => by
    have ih := gset_lt gs i m
    have h2 : gset gs i m < 2 ^ (m + 1) := by
      rw [Nat.pow_succ]
      omega
    by_cases h : gs.getD m 0 = gs.getD i 0
    · rw [gset_t h]
      refine Nat.or_lt_two_pow h2 ?_
      exact Nat.pow_lt_pow_right (by omega) (by omega)
    · rw [gset_f h]
      exact h2
theorem gset_bit (gs : List Nat) (i j : Nat) : ∀ m, (gset gs i m).testBit j = (decide (j < m) && (gs.getD j 0 == gs.getD i 0))
  | 0 => by
    show (0 : Nat).testBit j = _
    simp
  | m + 1 => by
    have ih := gset_bit gs i j m
    by_cases h : gs.getD m 0 = gs.getD i 0
    · rw [gset_t h, Nat.testBit_or, ih, Nat.testBit_two_pow]
      by_cases e : m = j
      · subst e
        rw [beq_iff_eq.mpr h]
        simp
      · have h1 : (j < m + 1) = (j < m) := by
          rw [eq_iff_iff]
          omega
        simp [e, h1]
    · rw [gset_f h, ih]
      by_cases e : m = j
      · subst e
        rw [beq_eq_false_iff_ne.mpr h]
        simp
      · have h1 : (j < m + 1) = (j < m) := by
          rw [eq_iff_iff]
          omega
        simp [h1]
/-- what i has in the group that i is in -/
theorem had_eq {n k : Nat} {fs gs : List Nat} {i : Nat} (hn : i < n) (hself : (fs.getD i 0).testBit i = false) : hasIn n k fs (gset gs i n) i = tot n k fs i (fun j => gs.getD j 0 == gs.getD i 0) n := by
  rw [hasIn_eq hn hself (by rw [gset_bit]; simp [hn])]
  refine tot_congr n fun j hj => ?_
  show (gset gs i n).testBit j = _
  rw [gset_bit]
  simp [hj]
theorem good_self {n : Nat} {fs : List Nat} {i : Nat} (h : good n fs i = true) : (fs.getD i 0).testBit i = false := by
  unfold good at h
  cases e : (fs.getD i 0).testBit i with
  | false => rfl
  | true =>
    rw [e, Bool.or_true] at h
    cases h
theorem good_lt {n : Nat} {fs : List Nat} {i : Nat} (h : good n fs i = true) : fs.getD i 0 < 2 ^ n := by
  unfold good at h
  refine Classical.byContradiction fun z => ?_
  rw [decide_eq_true (by omega), Bool.true_or] at h
  cases h
/-- what each has, person by person -/
def hads (n k : Nat) (fs gs : List Nat) (m : Nat) : List Int := (List.range m).map fun i => hasIn n k fs (gset gs i n) i
theorem hads_succ (n k : Nat) (fs gs : List Nat) (m : Nat) : hads n k fs gs (m + 1) = hads n k fs gs m ++ [hasIn n k fs (gset gs m n) m] := by
  unfold hads
  rw [List.range_succ, List.map_append]
  rfl
theorem hads_length (n k : Nat) (fs gs : List Nat) (m : Nat) : (hads n k fs gs m).length = m := by
  unfold hads
  simp
theorem hads_eq {n k : Nat} {fs gs : List Nat} (h : told n fs = true) : hads n k fs gs n = (List.range n).map fun i => tot n k fs i (fun j => gs.getD j 0 == gs.getD i 0) n := by
  obtain ⟨_, _, _, h4⟩ := told_iff.mp h
  refine List.map_congr_left fun i hi => ?_
  have hi := List.mem_range.mp hi
  exact had_eq hi (good_self (h4 i hi))
theorem hads_get {n k : Nat} {fs gs : List Nat} {m i : Nat} (h : i < m) : (hads n k fs gs m)[i]? = some (hasIn n k fs (gset gs i n) i) := by
  unfold hads
  rw [List.getElem?_map, List.getElem?_range h]
  rfl
/-! ## how many groups -/
theorem firstG_new {gs : List Nat} {i : Nat} (h : i < gs.length) : (gs.take i).contains (gs.getD i 0) = false ↔ firstG gs i = i := by
  have hm : (gs.take i).contains (gs.getD i 0) = true ↔ ∃ j, j < i ∧ gs.getD j 0 = gs.getD i 0 := by
    rw [List.contains_iff_mem, List.mem_take_iff_getElem]
    constructor
    · rintro ⟨j, hj, e⟩
      have : j < gs.length := by omega
      refine ⟨j, by omega, ?_⟩
      rw [← e]
      simp [this]
    · rintro ⟨j, hj, e⟩
      have : j < gs.length := by omega
      refine ⟨j, by omega, ?_⟩
      rw [← e]
      simp [this]
  constructor
  · intro hc
    rcases Nat.lt_or_eq_of_le (firstG_le gs i) with z | z
    · have := hm.mpr ⟨_, z, firstG_same gs i⟩
      rw [this] at hc
      cases hc
    · exact z
  · intro he
    rw [← Bool.not_eq_true, hm]
    rintro ⟨j, hj, e⟩
    exact firstG_least (gs := gs) (i := i) (k := j) (by omega) e
/-! ## leaving -/
/-- what a look at the first m of them tells: one has less (or no more, w 0), one has more -/
def noMore (n k w : Nat) (fs gs : List Nat) (s i : Nat) : Bool := s.testBit i && (decide (hasIn n k fs s i < hasIn n k fs (gset gs i n) i) || (w == 0 && decide (hasIn n k fs s i = hasIn n k fs (gset gs i n) i)))
def gains (n k : Nat) (fs gs : List Nat) (s i : Nat) : Bool := s.testBit i && decide (hasIn n k fs (gset gs i n) i < hasIn n k fs s i)
def anyGain (n k : Nat) (fs gs : List Nat) (s m : Nat) : Bool := (List.range m).any (gains n k fs gs s)
theorem anyGain_succ (n k : Nat) (fs gs : List Nat) (s m : Nat) : anyGain n k fs gs s (m + 1) = (anyGain n k fs gs s m || gains n k fs gs s m) := by
  unfold anyGain
  rw [List.range_succ, List.any_append]
  simp
theorem wants_eq {n k w : Nat} {fs gs : List Nat} {s : Nat} (h : told n fs = true) (hs : s < 2 ^ n) : wants n k w fs gs s = (((List.range n).all fun i => !noMore n k w fs gs s i) && anyGain n k fs gs s n) := by
  obtain ⟨_, _, _, h4⟩ := told_iff.mp h
  have key : ∀ i, i < n → s.testBit i = true → tot n k fs i (fun j => s.testBit j) n = hasIn n k fs s i ∧ tot n k fs i (fun j => gs.getD j 0 == gs.getD i 0) n = hasIn n k fs (gset gs i n) i := fun i hi hb => ⟨(hasIn_eq hi (good_self (h4 i hi)) hb).symm, (had_eq hi (good_self (h4 i hi))).symm⟩
  rw [Bool.eq_iff_iff]
  unfold wants noMore anyGain gains
  by_cases hw : w = 0
  · subst hw
    rw [if_pos rfl]
    simp only [Bool.and_eq_true, bne_iff_ne, List.all_eq_true, List.any_eq_true, List.mem_range, Bool.or_eq_true, Bool.not_eq_true', decide_eq_true_eq, beq_self_eq_true, Bool.true_and, Bool.and_eq_false_iff, Bool.or_eq_false_iff, decide_eq_false_iff_not, Bool.not_eq_true]
    constructor
    · rintro ⟨h0, ha⟩
      obtain ⟨i, hi⟩ : ∃ i, s.testBit i = true := Nat.exists_testBit_of_ne_zero h0
      have hin := bit_lt hs hi
      refine ⟨fun j hj => ?_, i, hin, hi, ?_⟩
      · cases e : s.testBit j with
        | false => exact .inl rfl
        | true =>
          have := ha j hj
          rw [e, (key j hj e).1, (key j hj e).2] at this
          rcases this with z | z
          · cases z
          · right
            omega
      · have := ha i hin
        rw [hi, (key i hin hi).1, (key i hin hi).2] at this
        rcases this with z | z
        · cases z
        · exact z
    · rintro ⟨ha, i, hin, hi, _⟩
      refine ⟨fun z => ?_, fun j hj => ?_⟩
      · rw [z, Nat.zero_testBit] at hi
        cases hi
      · cases e : s.testBit j with
        | false => exact .inl rfl
        | true =>
          rw [(key j hj e).1, (key j hj e).2]
          have := ha j hj
          rw [e] at this
          rcases this with z | z
          · cases z
          · right
            omega
  · rw [if_neg hw]
    have hb : (w == 0) = false := by
      rw [beq_eq_false_iff_ne]
      exact hw
    simp only [hb, Bool.and_eq_true, List.all_eq_true, List.any_eq_true, List.mem_range, Bool.or_eq_true, Bool.not_eq_true', decide_eq_true_eq, Bool.false_and, Bool.or_false, Bool.and_eq_false_iff, decide_eq_false_iff_not]
    refine and_congr ?_ ?_
    · refine forall_congr' fun j => forall_congr' fun hj => ?_
      cases e : s.testBit j with
      | false => simp
      | true =>
        rw [(key j hj e).1, (key j hj e).2]
        simp
    · refine exists_congr fun j => and_congr_right fun hj => and_congr_right fun e => ?_
      rw [(key j hj e).1, (key j hj e).2]
theorem wants_zero {n k w : Nat} {fs gs : List Nat} : wants n k w fs gs 0 = false := by
  unfold wants
  by_cases hw : w = 0
  · rw [if_pos hw]
    rfl
  · rw [if_neg hw]
    have : ((List.range n).any fun i => Nat.testBit 0 i && decide (tot n k fs i (fun j => gs.getD j 0 == gs.getD i 0) n < tot n k fs i (fun j => Nat.testBit 0 j) n)) = false := by
      rw [List.any_eq_false]
      intro i _
      rw [Nat.zero_testBit]
      simp
    rw [this, Bool.and_false]
/-- the sets that would leave, of those below m + 1 -/
def goers (n k w : Nat) (fs gs : List Nat) (m : Nat) : List Nat := (List.range (m + 1)).filter (wants n k w fs gs)
theorem goers_zero (n k w : Nat) (fs gs : List Nat) : goers n k w fs gs 0 = [] := by
  unfold goers
  rw [show List.range (0 + 1) = [0] from rfl, List.filter_cons_of_neg (by rw [wants_zero]; exact Bool.false_ne_true)]
  rfl
theorem goers_t {n k w : Nat} {fs gs : List Nat} {m : Nat} (h : wants n k w fs gs (m + 1) = true) : goers n k w fs gs (m + 1) = goers n k w fs gs m ++ [m + 1] := by
  unfold goers
  rw [List.range_succ (n := m + 1), List.filter_append]
  simp [h]
theorem goers_f {n k w : Nat} {fs gs : List Nat} {m : Nat} (h : wants n k w fs gs (m + 1) = false) : goers n k w fs gs (m + 1) = goers n k w fs gs m := by
  unfold goers
  rw [List.range_succ (n := m + 1), List.filter_append]
  simp [h]
theorem goers_length (n k w : Nat) (fs gs : List Nat) (m : Nat) : (goers n k w fs gs m).length ≤ m + 1 := by
  have := List.length_filter_le (wants n k w fs gs) (List.range (m + 1))
  rw [List.length_range] at this
  exact this
end Rh
namespace Rh
/-! ## all ways to be in groups -/
def firsts (g : List Nat) : List Nat := g.foldl (fun l x => if l.contains x then l else l ++ [x]) []
def cnt (g : List Nat) : Nat := (g.map (· + 1)).foldl max 0
theorem cnt_snoc (g : List Nat) (x : Nat) : cnt (g ++ [x]) = max (cnt g) (x + 1) := by
  unfold cnt
  rw [List.map_append, List.foldl_append]
  rfl
theorem firsts_snoc (g : List Nat) (x : Nat) : firsts (g ++ [x]) = if (firsts g).contains x then firsts g else firsts g ++ [x] := by
  unfold firsts
  rw [List.foldl_append]
  rfl
structure Neat (n : Nat) (g : List Nat) : Prop where
  len : g.length = n
  firsts : firsts g = List.range (cnt g)
  lt : ∀ x ∈ g, x < cnt g
  le : cnt g ≤ n
theorem range_contains {c x : Nat} : (List.range c).contains x = decide (x < c) := by
  rw [Bool.eq_iff_iff, List.contains_iff_mem, List.mem_range, decide_eq_true_eq]
theorem all_neat : ∀ (n : Nat) (g : List Nat), g ∈ Ks565.all n → Neat n g
  | 0, g, h => by
    have : g = [] := List.mem_singleton.mp h
    subst this
    exact ⟨rfl, rfl, by simp, Nat.le_refl _⟩
  | n + 1, g, h => by
    obtain ⟨g', hg', h⟩ := List.mem_flatMap.mp h
    obtain ⟨x, hx, rfl⟩ := List.mem_map.mp h
    have ih := all_neat n g' hg'
    have hx' : x < cnt g' + 1 := List.mem_range.mp hx
    refine ⟨by rw [List.length_append, ih.len]; rfl, ?_, ?_, ?_⟩
    · rw [firsts_snoc, ih.firsts, cnt_snoc, range_contains]
      by_cases e : x < cnt g'
      · rw [decide_eq_true e, if_pos rfl, Nat.max_eq_left (by omega)]
      · rw [decide_eq_false e, if_neg Bool.false_ne_true, Nat.max_eq_right (by omega), List.range_succ]
        have : x = cnt g' := by omega
        rw [this]
    · intro y hy
      rw [cnt_snoc]
      rcases List.mem_append.mp hy with hy | hy
      · have := ih.lt y hy
        omega
      · have := List.mem_singleton.mp hy
        omega
    · rw [cnt_snoc]
      have := ih.le
      omega
theorem takeWhile_range {x : Nat} : ∀ c, x < c → ((List.range c).takeWhile fun y => y != x).length = x := by
  intro c h
  have : List.range c = List.range x ++ x :: (List.range' (x + 1) (c - x - 1)) := by
    rw [List.range_eq_range', List.range_eq_range']
    have e : c = x + (1 + (c - x - 1)) := by omega
    conv => lhs; rw [e]
    rw [← List.range'_append_1, Nat.zero_add, ← List.range'_append_1]
    rfl
  rw [this, takeWhile_at _ _ fun y hy => by
    have := List.mem_range.mp hy
    omega, List.length_range]
theorem neat_tidy {n : Nat} {g : List Nat} (h : Neat n g) : Ks565.tidy g = g := by
  show g.map (fun x => ((firsts g).takeWhile fun y => y != x).length) = g
  rw [h.firsts]
  conv => rhs; rw [← List.map_id g]
  exact List.map_congr_left fun x hx => takeWhile_range _ (h.lt x hx)
/-- whether the groups hold -/
def stays (n k w : Nat) (fs gs : List Nat) : Bool := (List.range (2 ^ n)).all fun s => !wants n k w fs gs s
theorem core_eq {n k w : Nat} {fs : List Nat} : Ks566.core (Ks569.first ⟨n, fs⟩ k) w = (Ks565.all n).filter (stays n k w fs) := by
  unfold Ks566.core
  show (Ks565.all n).filter _ = _
  refine List.filter_congr fun g hg => ?_
  have ng := all_neat n g hg
  unfold Ks566.holds stays
  have e := by_eq (k := k) (w := w) (fs := fs) ng.len
  rw [neat_tidy ng] at e
  rw [e, Bool.eq_iff_iff, List.isEmpty_iff, List.filter_eq_nil_iff, List.all_eq_true]
  constructor
  · intro h x hx
    have := h x hx
    rw [Bool.not_eq_true] at this
    rw [this]
    rfl
  · intro h x hx z
    have := h x hx
    rw [z] at this
    cases this
theorem core_due {n k w : Nat} {fs : List Nat} : PyKs569.core (n : Int) (k : Int) (w : Int) (asInts fs) = if told n fs = true ∧ k ≤ 1 ∧ w ≤ 1 then (((Ks565.all n).filter (stays n k w fs)).length : Int) :: asInts (((Ks565.all n).filter (stays n k w fs)).headD []) else [-22] := by
  show Ks569Neutral.out (Ks569.answer (.core (Int.toNat (n : Int)) (Int.toNat (k : Int)) (Int.toNat (w : Int)) (Ks569Neutral.nats (asInts fs)))) = _
  rw [nats_asInts, Int.toNat_natCast, Int.toNat_natCast, Int.toNat_natCast]
  show Ks569Neutral.out (Ks569.ties n fs _) = _
  rw [ties_due]
  by_cases h : told n fs = true
  · rw [if_pos h]
    by_cases hw : k ≤ 1 ∧ w ≤ 1
    · rw [if_pos (show told n fs = true ∧ k ≤ 1 ∧ w ≤ 1 from ⟨h, hw⟩), if_neg (show ¬ (1 < k ∨ 1 < w) by omega)]
      show ((Ks566.core (Ks569.first ⟨n, fs⟩ k) w).length : Int) :: Ks565.ints ((Ks566.core (Ks569.first ⟨n, fs⟩ k) w).headD []) = _
      rw [core_eq]
      rfl
    · rw [if_neg (show ¬ (told n fs = true ∧ k ≤ 1 ∧ w ≤ 1) from fun z => hw z.2), if_pos (show 1 < k ∨ 1 < w by omega)]
      rfl
  · rw [if_neg h, if_neg (fun z => h z.1)]
    rfl
end Rh
namespace Rh
/-! ## all ways, made one person after another -/
def ext (g : List Nat) (m : Nat) : List (List Nat) := (List.range m).map fun x => g ++ [x]
theorem ext_succ (g : List Nat) (m : Nat) : ext g (m + 1) = ext g m ++ [g ++ [m]] := by
  unfold ext
  rw [List.range_succ, List.map_append]
  rfl
theorem ext_length (g : List Nat) (m : Nat) : (ext g m).length = m := by
  unfold ext
  simp
/-- what is made of the first j ways of i people -/
def part (i j : Nat) : List (List Nat) := ((Ks565.all i).take j).flatMap fun g => ext g (cnt g + 1)
theorem part_zero (i : Nat) : part i 0 = [] := by
  unfold part
  rw [List.take_zero]
  rfl
theorem take_next {α : Type} {l : List α} {j : Nat} {x : α} (h : l[j]? = some x) : l.take (j + 1) = l.take j ++ [x] := by
  rw [List.take_add_one, h]
  rfl
theorem part_succ {i j : Nat} {g : List Nat} (h : (Ks565.all i)[j]? = some g) : part i (j + 1) = part i j ++ ext g (cnt g + 1) := by
  unfold part
  rw [take_next h, List.flatMap_append, List.flatMap_singleton]
theorem part_all (i : Nat) : part i (Ks565.all i).length = Ks565.all (i + 1) := by
  unfold part
  rw [List.take_length]
  rfl
theorem all_len {i : Nat} (h : i ≤ 5) : (Ks565.all i).length ≤ 52 := by
  have : ∀ i, i < 6 → (Ks565.all i).length ≤ 52 := by decide +kernel
  exact this i (by omega)
theorem part_len {i j m : Nat} {g : List Nat} (hi : i < 5) (h : (Ks565.all i)[j]? = some g) (hm : m ≤ cnt g + 1) : (part i j).length + m ≤ 52 := by
  have h1 : (part i (j + 1)).length ≤ (part i (Ks565.all i).length).length := by
    have hj : j < (Ks565.all i).length := (List.getElem?_eq_some_iff.mp h).1
    unfold part
    rw [List.take_length]
    conv => rhs; rw [← List.take_append_drop (j + 1) (Ks565.all i)]
    rw [List.flatMap_append, List.length_append]
    omega
  have h2 := all_len (i := i + 1) (by omega)
  rw [part_all] at h1
  rw [part_succ h, List.length_append, ext_length] at h1
  omega
theorem groups_cnt : ∀ (n : Nat) (g : List Nat), g ∈ Ks565.all (n + 1) → Ks565.groups g = cnt g := by
  intro n g h
  obtain ⟨g', hg', h⟩ := List.mem_flatMap.mp h
  obtain ⟨x, hx, rfl⟩ := List.mem_map.mp h
  rw [cnt_snoc]
  unfold Ks565.groups
  rw [List.foldl_append]
  show max (g'.foldl max 0) x + 1 = _
  have key : ∀ (l : List Nat) (c : Nat), (l.map (· + 1)).foldl max (c + 1) = l.foldl max c + 1 := by
    intro l
    induction l with
    | nil => intro c; rfl
    | cons a l ih =>
      intro c
      show (l.map (· + 1)).foldl max (max (c + 1) (a + 1)) = l.foldl max (max c a) + 1
      rw [← ih]
      congr 1
      omega
  have key2 : cnt g' = 0 ∧ g'.foldl max 0 = 0 ∨ cnt g' = g'.foldl max 0 + 1 := by
    cases g' with
    | nil => exact .inl ⟨rfl, rfl⟩
    | cons a l =>
      right
      show (l.map (· + 1)).foldl max (max 0 (a + 1)) = l.foldl max (max 0 a) + 1
      rw [show max 0 (a + 1) = max 0 a + 1 by omega]
      exact key l _
  omega
theorem many_cnt {n : Nat} {g : List Nat} (h : g ∈ Ks565.all n) : (reps (firstG g) g.length).length = cnt g := by
  have ng := all_neat n g h
  cases n with
  | zero =>
    have : g = [] := List.mem_singleton.mp h
    subst this
    rfl
  | succ n =>
    rw [ng.len, ← groups_count ng.len (by omega), neat_tidy ng]
    exact groups_cnt n g h
/-! ## whether groups hold -/
theorem stays_f {n k w : Nat} {fs gs : List Nat} {s : Nat} (hs : s < 2 ^ n) (h : wants n k w fs gs s = true) : stays n k w fs gs = false := by
  unfold stays
  rw [List.all_eq_false]
  refine ⟨s, List.mem_range.mpr hs, ?_⟩
  rw [h]
  exact Bool.false_ne_true
theorem stays_t {n k w : Nat} {fs gs : List Nat} (h : ∀ s, s < 2 ^ n - 1 → wants n k w fs gs (s + 1) = false) : stays n k w fs gs = true := by
  unfold stays
  rw [List.all_eq_true]
  intro s hs
  have hs := List.mem_range.mp hs
  cases s with
  | zero =>
    rw [wants_zero]
    rfl
  | succ s =>
    rw [h s (by omega)]
    rfl
end Rh
namespace Rh
open PySem PySem.Spec PyProof.Rows L2
def topS (i : Nat) : Stmt := PySem.Challenge.pw_ringsheld_s05_core.main.body.getD i (.Pass ⟨0, 0, 0, 0⟩)
abbrev sHas : Stmt := topS 3
abbrev sTold : Stmt := topS 4
abbrev sSize : Stmt := topS 5
abbrev sMany : Stmt := topS 6
abbrev sGroup : Stmt := topS 7
abbrev sHasIn : Stmt := topS 8
abbrev sEach : Stmt := topS 9
abbrev sLeave : Stmt := topS 10
abbrev sWays : Stmt := topS 11
abbrev sHold : Stmt := topS 12
abbrev sCore : Stmt := topS 13
end Rh
namespace Rh
open PySem PySem.Spec PyProof.Rows L2
/-! ## Python's numbers and lists -/
def vals (l : List Nat) : List V := l.map fun (x : Nat) => V.int (x : Int)
theorem vals_length (l : List Nat) : (vals l).length = l.length := by
  unfold vals
  rw [List.length_map]
theorem vals_get {l : List Nat} {i : Nat} (h : i < l.length) : (vals l)[i]? = some (.int ((l.getD i 0 : Nat) : Int)) := by
  unfold vals
  rw [List.getElem?_map, List.getElem?_eq_getElem h]
  simp [h]
theorem vals_at {l : List Nat} {i : Nat} (h : i < l.length) : atI (vals l) (i : Int) = some (.int ((l.getD i 0 : Nat) : Int)) := atI_nat (vals_get h)
theorem vals_append (l r : List Nat) : vals (l ++ r) = vals l ++ vals r := by
  unfold vals
  rw [List.map_append]
theorem vals_asInts (l : List Nat) : (asInts l).map V.int = vals l := by
  unfold asInts vals
  rw [List.map_map]
  rfl
theorem shr_nat (s i : Nat) : (s : Int) / 2 ^ (i : Int).toNat = ((s / 2 ^ i : Nat) : Int) := by
  rw [Int.toNat_natCast, two_pow_cast]
  exact (Int.natCast_ediv _ _).symm
theorem shl_nat (s i : Nat) : (s : Int) * 2 ^ (i : Int).toNat = ((s * 2 ^ i : Nat) : Int) := by
  rw [Int.toNat_natCast]
  exact Bits.natCast_mul_pow s i
theorem and_nat (a b : Nat) : Builtin.bitAnd (a : Int) (b : Int) = ((a &&& b : Nat) : Int) := by
  rw [bitAnd_pp (Int.natCast_nonneg a) (Int.natCast_nonneg b), Int.toNat_natCast, Int.toNat_natCast]
theorem or_nat (a b : Nat) : Builtin.bitOr (a : Int) (b : Int) = ((a ||| b : Nat) : Int) := by
  rw [Bits.bitOr_pp (Int.natCast_nonneg a) (Int.natCast_nonneg b), Int.toNat_natCast, Int.toNat_natCast]
theorem xor_nat (a b : Nat) : Builtin.bitXor (a : Int) (b : Int) = ((a ^^^ b : Nat) : Int) := by
  rw [Bits.bitXor_pp (Int.natCast_nonneg a) (Int.natCast_nonneg b), Int.toNat_natCast, Int.toNat_natCast]
theorem eq_nat (a b : Nat) : decide (V.int (a : Int) = V.int (b : Int)) = decide (a = b) := by
  rw [Bool.eq_iff_iff, decide_eq_true_eq, decide_eq_true_eq, V.int.injEq]
  omega
theorem bit_py (s i : Nat) : decide (V.int (Builtin.bitAnd ((s : Int) / 2 ^ (i : Int).toNat) 1) = V.int 1) = s.testBit i := by
  rw [shr_nat, show (1 : Int) = ((1 : Nat) : Int) from rfl, and_nat, eq_nat, Nat.testBit_eq_decide_div_mod_eq, Nat.and_one_is_mod]
theorem qv {Q : V → Hp → Prop} {v u : V} {H : Hp} (e : v = u) (h : Q u H) : Q v H := by
  rw [e]
  exact h
theorem if_t {c : Bool} {A B : Prop} (hc : c = true) (h : A) : if c = true then A else B := by
  rw [if_pos hc]
  exact h
theorem if_f {c : Bool} {A B : Prop} (hc : c = false) (h : B) : if c = true then A else B := by
  rw [hc, if_neg Bool.false_ne_true]
  exact h
theorem nn_int {z : Int} (h : PySem.W.Codec.inInt 0 4294967295 z = true) : ∃ n : Nat, z = (n : Int) := Int.eq_ofNat_of_zero_le (PySem.W.Codec.inInt_iff.mp h).1
theorem nn_list : ∀ {l : List Int}, l.all (PySem.W.Codec.inInt 0 4294967295) = true → ∃ fs : List Nat, l = asInts fs
  | [], _ => ⟨[], rfl⟩
  | z :: l, h => by
    rw [List.all_cons, Bool.and_eq_true] at h
    obtain ⟨n, hn⟩ := nn_int h.1
    obtain ⟨fs, hf⟩ := nn_list h.2
    exact ⟨n :: fs, by rw [hn, hf]; rfl⟩
theorem asInts_length (l : List Nat) : (asInts l).length = l.length := by
  unfold asInts
  rw [List.length_map]
theorem same_upd {H : Hp} {p : Addr} {o : HO} (h : H p = none) : Same H (upd H p o) := fun b x e => by
  rw [upd_ne (ne_of_none e h)]
  exact e
end Rh
namespace Rh
open PySem PySem.Spec PyProof.Rows L2
section
variable {P : Program} {w : World} {K : PySem.W.Frag} {mg : Str → Option Value} {base : Heap}
/-! ## has_person -/
theorem scHas : FnScope ["s", "i"] ["s", "i"] (defScope sHas) := ⟨rfl, rfl, rfl, by decide +kernel, rfl, by decide +kernel, by decide +kernel⟩
def spHas : Sp := fun vs H Q _ => ∃ s i : Nat, vs = [.int (s : Int), .int (i : Int)] ∧ Q (.bl (s.testBit i)) H
theorem ok_has {f : Addr} {fd : FuncData} {k : Nat} (F : Fun K "has_person" "has_person" sHas f fd) : FnOk P w K mg base CX0 (k + 1) f fd ["s", "i"] spHas := by
  refine F.ok scHas (fun vs H Q E h => ?_) (fun cdv A outer s H vs Q E hr h => ?_)
  · obtain ⟨s, i, rfl, _⟩ := h
    rfl
  · obtain ⟨s, i, rfl, q⟩ := h
    refine ⟨_, pss_one (ps_ret (pe_cmpR op_eq (pe_op op_and (pe_op op_shr (pv 0) (pv 1)) pe_int) pe_int (nomark _))), ?_⟩
    refine ⟨_, rfl, _, rfl, _, _, rfl, rfl, Int.natCast_nonneg i, _, _, rfl, rfl, rfl, ?_⟩
    rw [bit_py]
    exact q
end
end Rh
namespace Rh
open PySem PySem.Spec PyProof.Rows L2
section
variable {P : Program} {w : World} {K : PySem.W.Frag} {mg : Str → Option Value} {base : Heap}
/-! ## friends_are_told -/
theorem good_py (n x i : Nat) : (!decide (V.int ((x : Int) / 2 ^ (n : Int).toNat) = V.int 0)) = decide (2 ^ n ≤ x) := by
  rw [shr_nat, show (0 : Int) = ((0 : Nat) : Int) from rfl, eq_nat]
  have hp : 0 < 2 ^ n := Nat.two_pow_pos n
  by_cases h : 2 ^ n ≤ x
  · have : x / 2 ^ n ≠ 0 := by
      have := Nat.div_pos h hp
      omega
    simp [h, this]
  · have : x / 2 ^ n = 0 := Nat.div_eq_of_lt (by omega)
    simp [h, this]
theorem scTold : FnScope ["n", "friends", "i"] ["n", "friends"] (defScope sTold) := ⟨rfl, rfl, rfl, by decide +kernel, rfl, by decide +kernel, by decide +kernel⟩
def spTold (K : PySem.W.Frag) : Sp := fun vs H Q _ => ∃ (n : Nat) (a : Addr) (fs : List Nat), vs = [.int (n : Int), .ref a] ∧ SqL K H a (vals fs) ∧ fs.length ≤ 7 ∧ Q (.bl (told n fs)) H
theorem told_short {n : Nat} {fs : List Nat} (h : ¬ (1 ≤ n ∧ n ≤ 5 ∧ fs.length = n)) : told n fs = false := by
  rw [← Bool.not_eq_true, told_iff]
  exact fun z => h ⟨z.1, z.2.1, z.2.2.1⟩
theorem ok_told {f fH : Addr} {fd fdH : FuncData} {tm : Tok} (F : Fun K "friends_are_told" "friends_are_told" sTold f fd) (FH : Fun K "has_person" "has_person" sHas fH fdH) (bH : Binds K fdH ["s", "i"] []) (gH : mg "has_person" = some (.ref fH))
    (gM : mg "MOST_PEOPLE" = some (.int 5 tm)) (ml : mg "len" = none) (mr : mg "range" = none) : FnOk P w K mg base CX0 2 f fd ["n", "friends"] (spTold K) := by
  have GH : FnOk P w K mg base CX0 1 fH fdH ["s", "i"] spHas := ok_has FH
  refine F.ok scTold (fun vs H Q E h => ?_) (fun cdv A outer s H vs Q E hr h => ?_)
  · obtain ⟨n, a, fs, rfl, _⟩ := h
    rfl
  · obtain ⟨n, a, fs, rfl, hS, hlen, q⟩ := h
    refine ⟨_, pss_cons (ps_if (PW.pt (pw_or (pt_cmpR op_lt (pv 0) pe_int (nomark _)) (pw_or (pt_cmpR op_gt (pv 0) (pe_glob (v := .int 5) rfl gM ⟨_, rfl⟩) (nomark _)) (pw_or1 (pt_cmpR op_ne (pe_callB call_len_seq (by rfl) ml PySem.boot_len (pa_cons (pv 1) pa_nil)) (pv 0) (nomark _)))))) (pss_one (ps_ret pe_bl)) pss_nil)
      (pss_cons (ps_for PassesOwn.never rfl (pi_range1 rfl mr (pa_cons (pv 0) pa_nil)) (pg_name (i := 2) scTold.nd rfl (.inl rfl))
        (pss_one (ps_if (PW.pt (pw_or (pt_cmpR op_ne (pe_op op_shr (pe_ix ix_list (pv 1) (pv 2) (fun _ _ => rfl)) (pv 0)) pe_int (nomark _)) (pw_or1 (pt_val (pe_call GH hr rfl gH FH.kp bH .nil pass0 (pa_cons (pe_ix ix_list (pv 1) (pv 2) (fun _ _ => rfl)) (pa_cons (pv 2) pa_nil)))))))
          (pss_one (ps_ret pe_bl)) pss_nil)))
      (pss_one (ps_ret pe_bl))), ?_⟩
    -- n < 1
    refine ⟨_, rfl, _, _, rfl, rfl, _, rfl, ?_⟩
    by_cases c1 : (n : Int) < 1
    · refine if_t (decide_eq_true c1) (iteT ?_)
      have := told_short (n := n) (fs := fs) (by omega)
      rw [this] at q
      exact q
    refine if_f (decide_eq_false c1) ?_
    -- n > MOST_PEOPLE
    refine ⟨_, rfl, _, _, rfl, rfl, _, rfl, ?_⟩
    by_cases c2 : (5 : Int) < (n : Int)
    · refine if_t (decide_eq_true c2) (iteT ?_)
      have := told_short (n := n) (fs := fs) (by omega)
      rw [this] at q
      exact q
    refine if_f (decide_eq_false c2) ?_
    -- len(friends) != n
    refine ⟨_, rfl, a, _, rfl, .inl hS, _, rfl, rfl, _, rfl, ?_⟩
    rw [vals_length, eq_nat]
    by_cases c4 : ¬ fs.length = n
    · have c3 := c4
      refine if_t (by rw [decide_eq_false c3]; rfl) ?_
      have := told_short (n := n) (fs := fs) (by omega)
      rw [this] at q
      exact q
    have c3 : fs.length = n := Classical.not_not.mp c4
    refine if_f (by rw [decide_eq_true c3]; rfl) ?_
    -- for i in range(n)
    refine ⟨_, rfl, (n : Int), rfl, by omega, by omega, for_range (lo := 0) (n := (n : Int).toNat) (fun i σ H' => (∃ y, σ = [some (.int (n : Int)), some (.ref a), y]) ∧ H' = H ∧ ∀ j, j < i → good n fs j = true) ⟨⟨none, rfl⟩, rfl, fun j hj => by omega⟩ ?_ ?_⟩
    · rintro i σ H' hi ⟨⟨y, rfl⟩, rfl, hg⟩
      rw [Int.toNat_natCast] at hi
      have hat := vals_at (l := fs) (i := i) (by omega)
      rw [Int.zero_add]
      refine ⟨_, rfl, _, rfl, a, _, _, _, rfl, rfl, hS, hat, _, rfl, _, _, rfl, rfl, Int.natCast_nonneg n, rfl, _, rfl, ?_⟩
      rw [good_py n _ i]
      by_cases d1 : 2 ^ n ≤ fs.getD i 0
      · refine if_t (decide_eq_true d1) (iteT ?_)
        have hng : good n fs i = false := by
          unfold good
          rw [decide_eq_true d1]
          rfl
        have : told n fs = false := by
          rw [← Bool.not_eq_true, told_iff]
          intro z
          rw [z.2.2.2 i hi] at hng
          cases hng
        rw [this] at q
        exact q
      refine if_f (decide_eq_false d1) ?_
      refine ⟨_, rfl, _, rfl, a, _, _, _, rfl, rfl, hS, hat, _, rfl, _, i, rfl, _, rfl, ?_⟩
      by_cases d2 : (fs.getD i 0).testBit i = true
      · refine if_t d2 ?_
        have hng : good n fs i = false := by
          unfold good
          rw [d2, Bool.or_true]
          rfl
        have : told n fs = false := by
          rw [← Bool.not_eq_true, told_iff]
          intro z
          rw [z.2.2.2 i hi] at hng
          cases hng
        rw [this] at q
        exact q
      · rw [Bool.not_eq_true] at d2
        refine if_f d2 ?_
        refine ⟨⟨_, rfl⟩, rfl, fun j hj => ?_⟩
        by_cases e : j = i
        · subst e
          unfold good
          rw [decide_eq_false d1, d2]
          rfl
        · exact hg j (by omega)
    · rintro σ H' ⟨⟨y, rfl⟩, rfl, hg⟩
      rw [Int.toNat_natCast] at hg
      have : told n fs = true := told_iff.mpr ⟨by omega, by omega, c3, hg⟩
      rw [this] at q
      exact q
end
end Rh
namespace Rh
open PySem PySem.Spec PyProof.Rows L2
section
variable {P : Program} {w : World} {K : PySem.W.Frag} {mg : Str → Option Value} {base : Heap}
theorem zero_nat : (0 : Int) = ((0 : Nat) : Int) := rfl
theorem one_nat : (1 : Int) = ((1 : Nat) : Int) := rfl
theorem one_shl (i : Nat) : (1 : Int) * 2 ^ (i : Int).toNat = ((2 ^ i : Nat) : Int) := by
  rw [one_nat, shl_nat, Nat.one_mul]
/-! ## size -/
theorem scSize : FnScope ["s", "left", "many"] ["s"] (defScope sSize) := ⟨rfl, rfl, rfl, by decide +kernel, rfl, by decide +kernel, by decide +kernel⟩
def spSize : Sp := fun vs H Q _ => ∃ s v : Nat, vs = [.int (s : Int)] ∧ s < 2 ^ v ∧ Q (.int (Ks569.size v s : Nat)) H
theorem ok_size {f : Addr} {fd : FuncData} {k : Nat} (F : Fun K "size" "size" sSize f fd) : FnOk P w K mg base CX0 (k + 1) f fd ["s"] spSize := by
  refine F.ok scSize (fun vs H Q E h => ?_) (fun cdv A outer s H vs Q E hr h => ?_)
  · obtain ⟨s, v, rfl, _⟩ := h
    rfl
  · obtain ⟨s, v0, rfl, hs, q⟩ := h
    refine ⟨_, pss_cons (ps_set (i := 1) scSize.nd rfl (.inl rfl) (pv 0))
      (pss_cons (ps_set (i := 2) scSize.nd rfl (.inl rfl) pe_int)
      (pss_cons (ps_while PassesOwn.never (pt_cmpR op_ne (pv 1) pe_int (nomark _))
        (pss_cons (ps_set (i := 2) scSize.nd rfl (.inl rfl) (pe_op op_add (pv 2) (pe_op op_and (pv 1) pe_int)))
        (pss_one (ps_set (i := 1) scSize.nd rfl (.inl rfl) (pe_op op_shr (pv 1) pe_int)))))
      (pss_one (ps_ret (pv 2))))), ?_⟩
    refine ⟨_, rfl, fun m σ H' => ∃ l c v : Nat, σ = [some (.int (s : Int)), some (.int (l : Int)), some (.int (c : Int))] ∧ H' = H ∧ l = m ∧ l < 2 ^ v ∧ c + Ks569.size v l = Ks569.size v0 s, ⟨s, s, 0, v0, rfl, rfl, rfl, hs, Nat.zero_add _⟩, ?_⟩
    rintro m σ H' ⟨l, c, v, rfl, rfl, rfl, hl, hc⟩
    refine ⟨_, rfl, rfl, _, rfl, ?_⟩
    rw [zero_nat, eq_nat]
    by_cases h0 : l = 0
    · refine if_f (by rw [decide_eq_true h0]; rfl) ?_
      rw [h0, size_zero, Nat.add_zero] at hc
      rw [← hc] at q
      exact ⟨_, rfl, q⟩
    · refine if_t (by rw [decide_eq_false h0]; rfl) ?_
      obtain ⟨v, rfl⟩ : ∃ u, v = u + 1 := by
        cases v with
        | zero =>
          rw [Nat.pow_zero] at hl
          omega
        | succ u => exact ⟨u, rfl⟩
      refine ⟨fun σ H'' => ∃ l' c v : Nat, σ = [some (.int (s : Int)), some (.int (l' : Int)), some (.int (c : Int))] ∧ H'' = H' ∧ l' = l / 2 ∧ l' < 2 ^ v ∧ c + Ks569.size v l' = Ks569.size v0 s, fun σ' H'' hN => ⟨l / 2, by omega, hN⟩, ?_⟩
      refine ⟨_, rfl, _, rfl, _, _, rfl, rfl, _, _, rfl, rfl, ?_⟩
      refine ⟨_, rfl, _, _, rfl, rfl, (by show (0 : Int) ≤ 1; decide), l / 2, c + l % 2, v, ?_, rfl, rfl, ?_, ?_⟩
      · have e1 : (c : Int) + Builtin.bitAnd (l : Int) 1 = ((c + l % 2 : Nat) : Int) := by
          rw [one_nat, and_nat, Nat.and_one_is_mod]
          omega
        have e2 : (l : Int) / 2 ^ (1 : Int).toNat = ((l / 2 : Nat) : Int) := by
          show (l : Int) / 2 = _
          omega
        show [some (V.int (s : Int)), some (V.int ((l : Int) / 2 ^ (1 : Int).toNat)), some (V.int ((c : Int) + Builtin.bitAnd (l : Int) 1))] = _
        rw [e1, e2]
      · rw [Nat.pow_succ] at hl
        omega
      · rw [size_half] at hc
        omega
end
end Rh
namespace Rh
open PySem PySem.Spec PyProof.Rows L2
section
variable {P : Program} {w : World} {K : PySem.W.Frag} {mg : Str → Option Value} {base : Heap}
theorem k_zero (k : Nat) : decide (V.int (k : Int) = V.int 0) = decide (k = 0) := eq_nat k 0
def valsI (l : List Int) : List V := l.map V.int
/-! ## group_of -/
theorem scGroup : FnScope ["groups", "i", "s", "j"] ["groups", "i"] (defScope sGroup) := ⟨rfl, rfl, rfl, by decide +kernel, rfl, by decide +kernel, by decide +kernel⟩
def spGroup (K : PySem.W.Frag) : Sp := fun vs H Q _ => ∃ (a : Addr) (gs : List Nat) (i : Nat), vs = [.ref a, .int (i : Int)] ∧ SqL K H a (vals gs) ∧ gs.length ≤ 7 ∧ i < gs.length ∧ Q (.int (gset gs i gs.length : Nat)) H
theorem ok_group {f : Addr} {fd : FuncData} {k : Nat} (F : Fun K "group_of" "group_of" sGroup f fd) (ml : mg "len" = none) (mr : mg "range" = none) : FnOk P w K mg base CX0 (k + 1) f fd ["groups", "i"] (spGroup K) := by
  refine F.ok scGroup (fun vs H Q E h => ?_) (fun cdv A outer s H vs Q E hr h => ?_)
  · obtain ⟨a, gs, i, rfl, _⟩ := h
    rfl
  · obtain ⟨a, gs, i, rfl, hS, hlen, hi, q⟩ := h
    refine ⟨_, pss_cons (ps_set (i := 2) scGroup.nd rfl (.inl rfl) pe_int)
      (pss_cons (ps_for PassesOwn.never rfl (pi_range1 rfl mr (pa_cons (pe_callB call_len_seq (by rfl) ml PySem.boot_len (pa_cons (pv 0) pa_nil)) pa_nil)) (pg_name (i := 3) scGroup.nd rfl (.inl rfl))
        (pss_one (ps_if (pt_cmpR op_eq (pe_ix ix_list (pv 0) (pv 3) (fun _ _ => rfl)) (pe_ix ix_list (pv 0) (pv 1) (fun _ _ => rfl)) (nomark _))
          (pss_one (ps_set (i := 2) scGroup.nd rfl (.inl rfl) (pe_op op_or (pv 2) (pe_op op_shl pe_int (pv 3))))) pss_nil)))
      (pss_one (ps_ret (pv 2)))), ?_⟩
    refine ⟨_, rfl, a, _, rfl, .inl hS, ?_⟩
    rw [vals_length]
    have hai := vals_at (l := gs) (i := i) hi
    refine ⟨(gs.length : Int), rfl, by omega, by omega, for_range (lo := 0) (n := (gs.length : Int).toNat) (fun j σ H' => ∃ y, σ = [some (.ref a), some (.int (i : Int)), some (.int (gset gs i j : Nat)), y] ∧ H' = H) ⟨none, rfl, rfl⟩ ?_ ?_⟩
    · rintro j σ H' hj ⟨y, rfl, rfl⟩
      rw [Int.toNat_natCast] at hj
      have haj := vals_at (l := gs) (i := j) hj
      rw [Int.zero_add]
      refine ⟨_, rfl, _, rfl, a, _, _, _, rfl, rfl, hS, haj, _, rfl, _, rfl, a, _, _, _, rfl, rfl, hS, hai, rfl, _, rfl, ?_⟩
      have key := eq_nat (gs.getD j 0) (gs.getD i 0)
      by_cases c : gs.getD j 0 = gs.getD i 0
      · refine if_t (key.trans (decide_eq_true c)) ?_
        refine ⟨_, rfl, _, rfl, _, _, rfl, rfl, ⟨by omega, by omega, by decide⟩, _, _, rfl, rfl, some (.int (j : Int)), ?_, rfl⟩
        dsimp only
        rw [one_shl, or_nat, ← gset_t c]
        rfl
      · refine if_f (key.trans (decide_eq_false c)) ?_
        refine ⟨some (.int (j : Int)), ?_, rfl⟩
        rw [gset_f c]
        rfl
    · rintro σ H' ⟨y, rfl, rfl⟩
      rw [Int.toNat_natCast]
      exact ⟨_, rfl, q⟩
/-! ## has_in -/
theorem scHasIn : FnScope ["k", "friends", "s", "i", "n", "near", "far"] ["k", "friends", "s", "i"] (defScope sHasIn) := ⟨rfl, rfl, rfl, by decide +kernel, rfl, by decide +kernel, by decide +kernel⟩
def spHasIn (K : PySem.W.Frag) : Sp := fun vs H Q _ => ∃ (k : Nat) (a : Addr) (fs : List Nat) (s i n : Nat), vs = [.int (k : Int), .ref a, .int (s : Int), .int (i : Int)] ∧ SqL K H a (vals fs) ∧ fs.length = n ∧ n ≤ 7 ∧ i < n ∧ s < 2 ^ n ∧ Q (.int (hasIn n k fs s i)) H
theorem ok_hasin {f fS : Addr} {fd fdS : FuncData} (F : Fun K "has_in" "has_in" sHasIn f fd) (FS : Fun K "size" "size" sSize fS fdS) (bS : Binds K fdS ["s"] []) (gS : mg "size" = some (.ref fS)) (ml : mg "len" = none) : FnOk P w K mg base CX0 2 f fd ["k", "friends", "s", "i"] (spHasIn K) := by
  have GS : FnOk P w K mg base CX0 1 fS fdS ["s"] spSize := ok_size FS
  refine F.ok scHasIn (fun vs H Q E h => ?_) (fun cdv A outer s H vs Q E hr h => ?_)
  · obtain ⟨k, a, fs, s, i, n, rfl, _⟩ := h
    rfl
  · obtain ⟨k, a, fs, s, i, n, rfl, hS, hn, h7, hi, hs, q⟩ := h
    refine ⟨_, pss_cons (ps_set (i := 4) scHasIn.nd rfl (.inl rfl) (pe_callB call_len_seq (by rfl) ml PySem.boot_len (pa_cons (pv 1) pa_nil)))
      (pss_cons (ps_set (i := 5) scHasIn.nd rfl (.inl rfl) (pe_call GS hr rfl gS FS.kp bS .nil pass0 (pa_cons (pe_op op_and (pv 2) (pe_ix ix_list (pv 1) (pv 3) (fun _ _ => rfl))) pa_nil)))
      (pss_cons (ps_set (i := 6) scHasIn.nd rfl (.inl rfl) (pe_op op_sub (pe_op op_sub (pe_call GS hr rfl gS FS.kp bS .nil pass0 (pa_cons (pv 2) pa_nil)) (pv 5)) pe_int))
      (pss_cons (ps_if (pt_cmpR op_eq (pv 0) pe_int (nomark _)) (pss_one (ps_ret (pe_op op_sub (pe_op op_mul (pv 5) (pv 4)) (pv 6)))) pss_nil)
      (pss_one (ps_ret (pe_op op_sub (pv 5) (pe_op op_mul (pv 6) (pv 4)))))))), ?_⟩
    have hat := vals_at (l := fs) (i := i) (by omega)
    have lt2 : s &&& fs.getD i 0 < 2 ^ n := Nat.lt_of_le_of_lt Nat.and_le_left hs
    have z1 := size_le n (s &&& fs.getD i 0)
    have z2 := size_le n s
    refine ⟨_, rfl, a, _, rfl, .inl hS, ?_⟩
    rw [vals_length, hn]
    refine ⟨_, rfl, _, rfl, _, rfl, a, _, _, _, rfl, rfl, hS, hat, _, _, rfl, rfl, s &&& fs.getD i 0, n, by show [V.int (Builtin.bitAnd (s : Int) ((fs.getD i 0 : Nat) : Int))] = _; rw [and_nat], lt2, ?_⟩
    refine ⟨_, rfl, s, n, rfl, hs, _, rfl, _, _, rfl, rfl, _, _, rfl, rfl, ?_⟩
    refine ⟨_, rfl, rfl, _, rfl, ?_⟩
    by_cases hk : k = 0
    · refine if_t ((k_zero k).trans (decide_eq_true hk)) ?_
      refine ⟨_, rfl, _, rfl, _, _, rfl, rfl, .inl ⟨by omega, by omega⟩, _, rfl, _, _, rfl, rfl, ?_⟩
      unfold hasIn at q
      rw [if_pos hk] at q
      exact q
    · refine if_f ((k_zero k).trans (decide_eq_false hk)) ?_
      refine ⟨_, rfl, _, rfl, _, rfl, _, _, rfl, rfl, .inl ⟨by omega, by omega⟩, _, _, rfl, rfl, ?_⟩
      unfold hasIn at q
      rw [if_neg hk] at q
      exact q
/-! ## what_each_has -/
theorem scEach : FnScope ["k", "friends", "groups", "i"] ["k", "friends", "groups"] (defScope sEach) := ⟨rfl, rfl, rfl, by decide +kernel, rfl, by decide +kernel, by decide +kernel⟩
def spEach (K : PySem.W.Frag) : Sp := fun vs H Q _ => ∃ (k : Nat) (a b : Addr) (fs gs : List Nat) (n : Nat), vs = [.int (k : Int), .ref a, .ref b] ∧ SqL K H a (vals fs) ∧ SqL K H b (vals gs) ∧ fs.length = n ∧ gs.length = n ∧ n ≤ 7 ∧
  ∀ (H' : Hp) (p : Addr), H p = none → Same H H' → H' p = some (.lst (valsI (hads n k fs gs n))) → Q (.ref p) H'
theorem ok_each {f fI fG fS : Addr} {fd fdI fdG fdS : FuncData} (F : Fun K "what_each_has" "what_each_has" sEach f fd)
    (FI : Fun K "has_in" "has_in" sHasIn fI fdI) (bI : Binds K fdI ["k", "friends", "s", "i"] []) (gI : mg "has_in" = some (.ref fI))
    (FG : Fun K "group_of" "group_of" sGroup fG fdG) (bG : Binds K fdG ["groups", "i"] []) (gG : mg "group_of" = some (.ref fG))
    (FS : Fun K "size" "size" sSize fS fdS) (bS : Binds K fdS ["s"] []) (gS : mg "size" = some (.ref fS)) (ml : mg "len" = none) (mr : mg "range" = none) : FnOk P w K mg base CX0 3 f fd ["k", "friends", "groups"] (spEach K) := by
  have GI : FnOk P w K mg base CX0 2 fI fdI ["k", "friends", "s", "i"] (spHasIn K) := ok_hasin FI FS bS gS ml
  have GG : FnOk P w K mg base CX0 1 fG fdG ["groups", "i"] (spGroup K) := ok_group FG ml mr
  refine F.ok scEach (fun vs H Q E h => ?_) (fun cdv A outer s H vs Q E hr h => ?_)
  · obtain ⟨k, a, b, fs, gs, n, rfl, _⟩ := h
    rfl
  · obtain ⟨k, a, b, fs, gs, n, rfl, hS, hG, hn, hg, h7, q⟩ := h
    have hr1 := hr.mono (j := 1) (by decide)
    refine ⟨_, pss_one (ps_ret (pe_lc (own := [("i", 3)]) (g := gName 3) (tt := tYes) rfl scEach.nd (pi_range1 rfl mr (pa_cons (pe_callB call_len_seq (by rfl) ml PySem.boot_len (pa_cons (pv 1) pa_nil)) pa_nil))
        (blkOk_by (own := [("i", 3)]) (N := ["k", "friends", "groups", "i"]) (sc := defScope sEach) (by decide +kernel))
        (fun _ _ _ _ _ => pg_name (i := 3) scEach.nd rfl (Or.inl rfl)) (fun _ _ _ _ _ => pts_nil)
        (fun _ _ _ _ _ => pe_call GI hr rfl gI FI.kp bI .nil pass0 (pa_cons (pv 0) (pa_cons (pv 1) (pa_cons (pe_call GG hr1 rfl gG FG.kp bG .nil pass0 (pa_cons (pv 2) (pa_cons (pv 3) pa_nil))) (pa_cons (pv 3) pa_nil))))))), ?_⟩
    refine ⟨_, rfl, a, _, rfl, .inl hS, ?_⟩
    rw [vals_length, hn]
    refine ⟨(n : Int), rfl, by omega, by omega, fun D hD => lc_range (lo := 0) (n := (n : Int).toNat) (fun i H' => Same H H' ∧ H' D = some (.lst (valsI (hads n k fs gs i)))) ⟨same_upd hD, upd_same⟩ ?_ ?_⟩
    · rintro i H' hi ⟨sm, hd⟩
      rw [Int.toNat_natCast] at hi
      rw [Int.zero_add]
      refine ⟨rfl, _, rfl, _, rfl, _, rfl, _, rfl, b, gs, i, rfl, sm.seq hG, by omega, by omega, _, rfl, k, a, fs, gset gs i gs.length, i, n, rfl, sm.seq hS, hn, h7, hi, by rw [hg]; exact gset_lt gs i n, _, hd, ?_, ?_, ?_⟩
      · unfold valsI
        rw [List.length_map, hads_length]
        exact small1000 (by omega)
      · intro c o e
        rw [upd_ne (ne_of_none e hD)]
        exact sm c o e
      · rw [upd_same, hads_succ, hg]
        unfold valsI
        rw [List.map_append]
        rfl
    · rintro H1 ⟨sm1, hd1⟩
      rw [Int.toNat_natCast] at hd1
      exact q _ D hD sm1 hd1
end
end Rh
namespace Rh
open PySem PySem.Spec PyProof.Rows L2
section
variable {P : Program} {w : World} {K : PySem.W.Frag} {mg : Str → Option Value} {base : Heap}
/-! ## how_many_groups -/
theorem cut_take (l : List Nat) (i : Nat) (h : i ≤ l.length) : cutV (vals l) none (some (i : Int)) = vals (l.take i) := by
  unfold cutV
  rw [HT.sIx_none, HT.sIx_nat, vals_length, Nat.min_eq_left h, List.drop_zero, Nat.sub_zero]
  unfold vals
  rw [List.map_take]
theorem in_vals (x : Nat) : ∀ l : List Nat, inV (.int (x : Int)) (vals l) = l.contains x
  | [] => rfl
  | a :: l => by
    have ih := in_vals x l
    show (((a : Int) == (x : Int)) || inV (.int (x : Int)) (vals l)) = _
    rw [ih, List.contains_cons, Bool.eq_iff_iff, Bool.or_eq_true, Bool.or_eq_true, beq_iff_eq, beq_iff_eq]
    refine or_congr ?_ Iff.rfl
    omega
theorem flat_vals : ∀ l : List Nat, (vals l).all flatV = true
  | [] => rfl
  | a :: l => flat_vals l
theorem scMany : FnScope ["groups", "many", "i"] ["groups"] (defScope sMany) := ⟨rfl, rfl, rfl, by decide +kernel, rfl, by decide +kernel, by decide +kernel⟩
def spMany (K : PySem.W.Frag) : Sp := fun vs H Q _ => ∃ (a : Addr) (gs : List Nat), vs = [.ref a] ∧ SqL K H a (vals gs) ∧ gs.length ≤ 7 ∧ ∀ H', Same H H' → Q (.int ((reps (firstG gs) gs.length).length : Nat)) H'
theorem ok_many {f : Addr} {fd : FuncData} {k : Nat} (F : Fun K "how_many_groups" "how_many_groups" sMany f fd) (ml : mg "len" = none) (mr : mg "range" = none) : FnOk P w K mg base CX0 (k + 1) f fd ["groups"] (spMany K) := by
  refine F.ok scMany (fun vs H Q E h => ?_) (fun cdv A outer s H vs Q E hr h => ?_)
  · obtain ⟨a, gs, rfl, _⟩ := h
    rfl
  · obtain ⟨a, gs, rfl, hS, hlen, q⟩ := h
    refine ⟨_, pss_cons (ps_set (i := 1) scMany.nd rfl (.inl rfl) pe_int)
      (pss_cons (ps_for PassesOwn.never rfl (pi_range1 rfl mr (pa_cons (pe_callB call_len_seq (by rfl) ml PySem.boot_len (pa_cons (pv 0) pa_nil)) pa_nil)) (pg_name (i := 2) scMany.nd rfl (.inl rfl))
        (pss_one (ps_if (pt_cmpR op_notIn_seq (pe_ix ix_list (pv 0) (pv 2) (fun _ _ => rfl)) (pe_slice sl_list (pv 0) po_none (po_some (pv 2))) (by rfl))
          (pss_one (ps_set (i := 1) scMany.nd rfl (.inl rfl) (pe_op op_add (pv 1) pe_int))) pss_nil)))
      (pss_one (ps_ret (pv 1)))), ?_⟩
    refine ⟨_, rfl, a, _, rfl, .inl hS, ?_⟩
    rw [vals_length]
    refine ⟨(gs.length : Int), rfl, by omega, by omega, for_range (lo := 0) (n := (gs.length : Int).toNat) (fun i σ H' => (∃ y, σ = [some (.ref a), some (.int ((reps (firstG gs) i).length : Nat)), y]) ∧ Same H H') ⟨⟨none, rfl⟩, fun _ _ e => e⟩ ?_ ?_⟩
    · rintro i σ H' hi ⟨⟨y, rfl⟩, sm⟩
      rw [Int.toNat_natCast] at hi
      have hat := vals_at (l := gs) (i := i) hi
      have hS' := sm.seq hS
      rw [Int.zero_add]
      refine ⟨_, rfl, _, rfl, a, _, _, _, rfl, rfl, hS', hat, _, rfl, _, rfl, _, rfl, a, _, rfl, hS', fun p hp => ?_⟩
      have sm2 : Same H (upd H' p (.lst (cutV (vals gs) none (some (i : Int))))) := fun b o e => by
        rw [upd_ne (ne_of_none (sm b o e) hp)]
        exact sm b o e
      refine ⟨p, vals (gs.take i), rfl, .inl (SqL.of ?_), rfl, flat_vals _, _, rfl, ?_⟩
      · rw [upd_same, cut_take gs i (by omega)]
      have key : (!inV (V.int ((gs.getD i 0 : Nat) : Int)) (vals (gs.take i))) = !(gs.take i).contains (gs.getD i 0) := by
        rw [in_vals]
      by_cases c : firstG gs i = i
      · refine if_t (key.trans (by rw [(firstG_new hi).mpr c]; rfl)) ?_
        refine ⟨_, rfl, _, _, rfl, rfl, ⟨some (.int (i : Int)), ?_⟩, sm2⟩
        rw [reps_pos c, List.length_append]
        rfl
      · have cf : (gs.take i).contains (gs.getD i 0) = true := by
          rw [← Bool.not_eq_false]
          exact fun z => c ((firstG_new hi).mp z)
        refine if_f (key.trans (by rw [cf]; rfl)) ?_
        refine ⟨⟨some (.int (i : Int)), ?_⟩, sm2⟩
        rw [reps_neg c]
        rfl
    · rintro σ H' ⟨⟨y, rfl⟩, sm⟩
      rw [Int.toNat_natCast]
      exact ⟨_, rfl, q _ sm⟩
end
end Rh
namespace Rh
open PySem PySem.Spec PyProof.Rows L2
section
variable {P : Program} {w : World} {K : PySem.W.Frag} {mg : Str → Option Value} {base : Heap}
/-! ## would_leave -/
theorem valsI_at {l : List Int} {i : Nat} {x : Int} (h : l[i]? = some x) : atI (valsI l) (i : Int) = some (.int x) := by
  refine atI_nat ?_
  unfold valsI
  rw [List.getElem?_map, h]
  rfl
theorem scLeave : FnScope ["k", "w", "friends", "had", "s", "one_has_more", "i", "has"] ["k", "w", "friends", "had", "s"] (defScope sLeave) := ⟨rfl, rfl, rfl, by decide +kernel, rfl, by decide +kernel, by decide +kernel⟩
def leaves (n k w : Nat) (fs gs : List Nat) (s : Nat) : Bool := ((List.range n).all fun i => !noMore n k w fs gs s i) && anyGain n k fs gs s n
theorem leaves_t {n k w : Nat} {fs gs : List Nat} {s : Nat} (h : ∀ i, i < n → noMore n k w fs gs s i = false) : leaves n k w fs gs s = anyGain n k fs gs s n := by
  unfold leaves
  have : ((List.range n).all fun i => !noMore n k w fs gs s i) = true := by
    rw [List.all_eq_true]
    intro i hi
    rw [h i (List.mem_range.mp hi)]
    rfl
  rw [this, Bool.true_and]
theorem leaves_f {n k w : Nat} {fs gs : List Nat} {s i : Nat} (hi : i < n) (h : noMore n k w fs gs s i = true) : leaves n k w fs gs s = false := by
  unfold leaves
  have : ((List.range n).all fun i => !noMore n k w fs gs s i) = false := by
    rw [List.all_eq_false]
    refine ⟨i, List.mem_range.mpr hi, ?_⟩
    rw [h]
    exact Bool.false_ne_true
  rw [this, Bool.false_and]
def spLeave (K : PySem.W.Frag) : Sp := fun vs H Q _ => ∃ (k w : Nat) (a b : Addr) (fs gs : List Nat) (s n : Nat), vs = [.int (k : Int), .int (w : Int), .ref a, .ref b, .int (s : Int)] ∧ SqL K H a (vals fs) ∧ SqL K H b (valsI (hads n k fs gs n)) ∧ fs.length = n ∧ n ≤ 7 ∧ s < 2 ^ n ∧ Q (.bl (leaves n k w fs gs s)) H
theorem ok_leave {f fH fI fS : Addr} {fd fdH fdI fdS : FuncData} (F : Fun K "would_leave" "would_leave" sLeave f fd)
    (FH : Fun K "has_person" "has_person" sHas fH fdH) (bH : Binds K fdH ["s", "i"] []) (gH : mg "has_person" = some (.ref fH))
    (FI : Fun K "has_in" "has_in" sHasIn fI fdI) (bI : Binds K fdI ["k", "friends", "s", "i"] []) (gI : mg "has_in" = some (.ref fI))
    (FS : Fun K "size" "size" sSize fS fdS) (bS : Binds K fdS ["s"] []) (gS : mg "size" = some (.ref fS)) (ml : mg "len" = none) (mr : mg "range" = none) : FnOk P w K mg base CX0 3 f fd ["k", "w", "friends", "had", "s"] (spLeave K) := by
  have GH : FnOk P w K mg base CX0 1 fH fdH ["s", "i"] spHas := ok_has FH
  have GI : FnOk P w K mg base CX0 2 fI fdI ["k", "friends", "s", "i"] (spHasIn K) := ok_hasin FI FS bS gS ml
  refine F.ok scLeave (fun vs H Q E h => ?_) (fun cdv A outer s H vs Q E hr h => ?_)
  · obtain ⟨k, w, a, b, fs, gs, s, n, rfl, _⟩ := h
    rfl
  · obtain ⟨k, w, a, b, fs, gs, s, n, rfl, hS, hB, hn, h7, hs, q⟩ := h
    have hr1 := hr.mono (j := 1) (by decide)
    refine ⟨_, pss_cons (ps_set (i := 5) scLeave.nd rfl (.inl rfl) pe_bl)
      (pss_cons (ps_for PassesOwn.never rfl (pi_range1 rfl mr (pa_cons (pe_callB call_len_seq (by rfl) ml PySem.boot_len (pa_cons (pv 2) pa_nil)) pa_nil)) (pg_name (i := 6) scLeave.nd rfl (.inl rfl))
        (pss_one (ps_if (pt_val (pe_call GH hr1 rfl gH FH.kp bH .nil pass0 (pa_cons (pv 4) (pa_cons (pv 6) pa_nil))))
          (pss_cons (ps_set (i := 7) scLeave.nd rfl (.inl rfl) (pe_call GI hr rfl gI FI.kp bI .nil pass0 (pa_cons (pv 0) (pa_cons (pv 2) (pa_cons (pv 4) (pa_cons (pv 6) pa_nil))))))
          (pss_cons (ps_if (PW.pt (pw_or (pt_cmpR op_lt (pv 7) (pe_ix ix_list (pv 3) (pv 6) (fun _ _ => rfl)) (nomark _))
              (pw_or1 (PW.pt (pw_and (pt_cmpR op_eq (pv 1) pe_int (nomark _)) (pw_and1 (pt_cmpR op_eq (pv 7) (pe_ix ix_list (pv 3) (pv 6) (fun _ _ => rfl)) (nomark _))))))))
            (pss_one (ps_ret pe_bl)) pss_nil)
          (pss_one (ps_if (pt_cmpR op_gt (pv 7) (pe_ix ix_list (pv 3) (pv 6) (fun _ _ => rfl)) (nomark _))
            (pss_one (ps_set (i := 5) scLeave.nd rfl (.inl rfl) pe_bl)) pss_nil))))
          pss_nil)))
      (pss_one (ps_ret (pv 5)))), ?_⟩
    refine ⟨_, rfl, a, _, rfl, .inl hS, ?_⟩
    rw [vals_length, hn]
    refine ⟨(n : Int), rfl, by omega, by omega, for_range (lo := 0) (n := (n : Int).toNat) (fun i σ H' => (∃ y6 y7, σ = [some (.int (k : Int)), some (.int (w : Int)), some (.ref a), some (.ref b), some (.int (s : Int)), some (.bl (anyGain n k fs gs s i)), y6, y7]) ∧ H' = H ∧ ∀ j, j < i → noMore n k w fs gs s j = false) ⟨⟨none, none, rfl⟩, rfl, fun j hj => by omega⟩ ?_ ?_⟩
    · rintro i σ H' hi ⟨⟨y6, y7, rfl⟩, rfl, hg⟩
      rw [Int.toNat_natCast] at hi
      rw [Int.zero_add]
      have next : noMore n k w fs gs s i = false → ∀ j, j < i + 1 → noMore n k w fs gs s j = false := by
        intro h j hj
        by_cases e : j = i
        · rw [e]
          exact h
        · exact hg j (by omega)
      have hat := valsI_at (hads_get (n := n) (k := k) (fs := fs) (gs := gs) hi)
      refine ⟨_, rfl, _, rfl, s, i, rfl, _, rfl, ?_⟩
      by_cases c1 : s.testBit i = true
      · refine if_t c1 ?_
        refine ⟨_, rfl, _, rfl, _, rfl, _, rfl, k, a, fs, s, i, n, rfl, hS, hn, h7, hi, hs, ?_⟩
        have hm : noMore n k w fs gs s i = (decide (hasIn n k fs s i < hasIn n k fs (gset gs i n) i) || (w == 0 && decide (hasIn n k fs s i = hasIn n k fs (gset gs i n) i))) := by
          unfold noMore
          rw [c1, Bool.true_and]
        have hgn : gains n k fs gs s i = decide (hasIn n k fs (gset gs i n) i < hasIn n k fs s i) := by
          unfold gains
          rw [c1, Bool.true_and]
        -- has < had[i]
        refine ⟨_, rfl, _, rfl, _, rfl, b, _, _, _, rfl, rfl, hB, hat, _, _, rfl, rfl, _, rfl, ?_⟩
        by_cases c2 : hasIn n k fs s i < hasIn n k fs (gset gs i n) i
        · refine if_t (decide_eq_true c2) (iteT ?_)
          have : leaves n k w fs gs s = false := leaves_f hi (by rw [hm, decide_eq_true c2]; rfl)
          rw [this] at q
          exact q
        refine if_f (decide_eq_false c2) ?_
        -- w == 0
        refine ⟨_, rfl, rfl, _, rfl, ?_⟩
        by_cases c5 : w = 0
        · refine if_t ((k_zero w).trans (decide_eq_true c5)) ?_
          refine ⟨_, rfl, _, rfl, _, rfl, b, _, _, _, rfl, rfl, hB, hat, rfl, _, rfl, ?_⟩
          by_cases c3 : hasIn n k fs s i = hasIn n k fs (gset gs i n) i
          · refine if_t (decide_eq_true (congrArg V.int c3)) ?_
            have : leaves n k w fs gs s = false := leaves_f hi (by rw [hm, decide_eq_true c3, c5, Bool.or_comm]; rfl)
            rw [this] at q
            exact q
          · refine if_f (decide_eq_false fun z => c3 (V.int.inj z)) ?_
            have h1 : noMore n k w fs gs s i = false := by
              rw [hm, decide_eq_false c2, decide_eq_false c3, Bool.and_false]
              rfl
            refine ⟨_, rfl, _, rfl, _, rfl, b, _, _, _, rfl, rfl, hB, hat, _, _, rfl, rfl, _, rfl, ?_⟩
            by_cases c4 : hasIn n k fs (gset gs i n) i < hasIn n k fs s i
            · refine if_t (decide_eq_true c4) ?_
              refine ⟨⟨some (.int (i : Int)), some (.int (hasIn n k fs s i)), ?_⟩, rfl, next h1⟩
              rw [anyGain_succ, hgn, decide_eq_true c4, Bool.or_true]
              rfl
            · refine if_f (decide_eq_false c4) ?_
              refine ⟨⟨some (.int (i : Int)), some (.int (hasIn n k fs s i)), ?_⟩, rfl, next h1⟩
              rw [anyGain_succ, hgn, decide_eq_false c4, Bool.or_false]
              rfl
        · refine if_f ((k_zero w).trans (decide_eq_false c5)) (iteF ?_)
          have h1 : noMore n k w fs gs s i = false := by
            rw [hm, decide_eq_false c2, beq_eq_false_iff_ne.mpr c5]
            rfl
          refine ⟨_, rfl, _, rfl, _, rfl, b, _, _, _, rfl, rfl, hB, hat, _, _, rfl, rfl, _, rfl, ?_⟩
          by_cases c4 : hasIn n k fs (gset gs i n) i < hasIn n k fs s i
          · refine if_t (decide_eq_true c4) ?_
            refine ⟨⟨some (.int (i : Int)), some (.int (hasIn n k fs s i)), ?_⟩, rfl, next h1⟩
            rw [anyGain_succ, hgn, decide_eq_true c4, Bool.or_true]
            rfl
          · refine if_f (decide_eq_false c4) ?_
            refine ⟨⟨some (.int (i : Int)), some (.int (hasIn n k fs s i)), ?_⟩, rfl, next h1⟩
            rw [anyGain_succ, hgn, decide_eq_false c4, Bool.or_false]
            rfl
      · rw [Bool.not_eq_true] at c1
        refine if_f c1 ?_
        have h1 : noMore n k w fs gs s i = false := by
          unfold noMore
          rw [c1, Bool.false_and]
        have h2 : gains n k fs gs s i = false := by
          unfold gains
          rw [c1, Bool.false_and]
        refine ⟨⟨some (.int (i : Int)), y7, ?_⟩, rfl, next h1⟩
        rw [anyGain_succ, h2, Bool.or_false]
        rfl
    · rintro σ H' ⟨⟨y6, y7, rfl⟩, rfl, hg⟩
      rw [Int.toNat_natCast] at hg ⊢
      rw [leaves_t hg] at q
      exact ⟨_, rfl, q⟩
end
end Rh
namespace Rh
open PySem PySem.Spec PyProof.Rows L2
section
variable {P : Program} {w : World} {K : PySem.W.Frag} {mg : Str → Option Value} {base : Heap}
/-! ## lists of lists -/
def Both (R : Addr → List Nat → Prop) : List Addr → List (List Nat) → Prop
  | [], [] => True
  | r :: rs, g :: gs => R r g ∧ Both R rs gs
  | [], _ :: _ => False
  | _ :: _, [] => False
theorem Both.len {R : Addr → List Nat → Prop} : ∀ {rs : List Addr} {gs : List (List Nat)}, Both R rs gs → rs.length = gs.length
  | [], [], _ => rfl
  | _ :: _, _ :: _, h => congrArg (· + 1) (Both.len h.2)
theorem Both.snoc {R : Addr → List Nat → Prop} {r : Addr} {g : List Nat} (z : R r g) : ∀ {rs : List Addr} {gs : List (List Nat)}, Both R rs gs → Both R (rs ++ [r]) (gs ++ [g])
  | [], [], _ => ⟨z, trivial⟩
  | _ :: _, _ :: _, h => ⟨h.1, Both.snoc z h.2⟩
theorem Both.mono {R S : Addr → List Nat → Prop} (z : ∀ r g, R r g → S r g) : ∀ {rs : List Addr} {gs : List (List Nat)}, Both R rs gs → Both S rs gs
  | [], [], _ => trivial
  | _ :: _, _ :: _, h => ⟨z _ _ h.1, Both.mono z h.2⟩
theorem Both.get {R : Addr → List Nat → Prop} {r : Addr} : ∀ {rs : List Addr} {gs : List (List Nat)} {i : Nat}, Both R rs gs → rs[i]? = some r → ∃ g, gs[i]? = some g ∧ R r g
  | _ :: _, g :: _, 0, h, e => by
    cases e
    exact ⟨g, rfl, h.1⟩
  | _ :: rs, _ :: gs, i + 1, h, e => Both.get (rs := rs) (gs := gs) (i := i) h.2 e
def refs (rs : List Addr) : List V := rs.map V.ref
theorem refs_length (rs : List Addr) : (refs rs).length = rs.length := by
  unfold refs
  rw [List.length_map]
theorem refs_snoc (rs : List Addr) (r : Addr) : refs (rs ++ [r]) = refs rs ++ [V.ref r] := by
  unfold refs
  rw [List.map_append]
  rfl
theorem refs_get {rs : List Addr} {i : Nat} {x : V} (h : (refs rs)[i]? = some x) : ∃ r, rs[i]? = some r ∧ x = V.ref r := by
  unfold refs at h
  rw [List.getElem?_map] at h
  cases e : rs[i]? with
  | none =>
    rw [e] at h
    cases h
  | some r =>
    rw [e] at h
    cases h
    exact ⟨r, rfl, rfl⟩
def At (H : Hp) (r : Addr) (g : List Nat) : Prop := H r = some (.lst (vals g))
/-! ## all_ways -/
theorem scWays : FnScope ["n", "ways", "i", "wider", "way", "number"] ["n"] (defScope sWays) := ⟨rfl, rfl, rfl, by decide +kernel, rfl, by decide +kernel, by decide +kernel⟩
def spWays : Sp := fun vs H Q _ => ∃ n : Nat, vs = [.int (n : Int)] ∧ n ≤ 5 ∧
  ∀ (H' : Hp) (p : Addr) (rs : List Addr), Same H H' → H' p = some (.lst (refs rs)) → Both (At H') rs (Ks565.all n) → Q (.ref p) H'
theorem ok_ways {f fM : Addr} {fd fdM : FuncData} (F : Fun K "all_ways" "all_ways" sWays f fd)
    (FM : Fun K "how_many_groups" "how_many_groups" sMany fM fdM) (bM : Binds K fdM ["groups"] []) (gM : mg "how_many_groups" = some (.ref fM)) (ml : mg "len" = none) (mr : mg "range" = none) : FnOk P w K mg base CX0 2 f fd ["n"] spWays := by
  have GM : FnOk P w K mg base CX0 1 fM fdM ["groups"] (spMany K) := ok_many FM ml mr
  refine F.ok scWays (fun vs H Q E h => ?_) (fun cdv A outer s H vs Q E hr h => ?_)
  · obtain ⟨n, rfl, _⟩ := h
    rfl
  · obtain ⟨n, rfl, hn, q⟩ := h
    refine ⟨_, pss_cons (ps_set (i := 1) scWays.nd rfl (.inl rfl) (pe_lst (pa_cons (pe_lst pa_nil) pa_nil)))
      (pss_cons (ps_for PassesOwn.never rfl (pi_range1 rfl mr (pa_cons (pv 0) pa_nil)) (pg_name (i := 2) scWays.nd rfl (.inl rfl))
        (pss_cons (ps_set (i := 3) scWays.nd rfl (.inl rfl) (pe_lst pa_nil))
        (pss_cons (ps_for PassesOwn.never rfl (pi_list (pv 1)) (pg_name (i := 4) scWays.nd rfl (.inl rfl))
          (pss_one (ps_for PassesOwn.never rfl (pi_range1 rfl mr (pa_cons (pe_op op_add (pe_call GM hr rfl gM FM.kp bM .nil pass0 (pa_cons (pv 4) pa_nil)) pe_int) pa_nil)) (pg_name (i := 5) scWays.nd rfl (.inl rfl))
            (pss_one (ps_expr (pe_bm PySem.F.plainAttrs_list PySem.F.slot_list_append PySem.F.type_list_append mt_append (pv 3) (pa_cons (pe_op op_cat (pv 4) (pe_lst (pa_cons (pv 5) pa_nil))) pa_nil)))))))
        (pss_one (ps_set (i := 1) scWays.nd rfl (.inl rfl) (pv 3))))))
      (pss_one (ps_ret (pv 1)))), ?_⟩
    -- ways = [[]]
    refine ⟨Nat.zero_le _, fun e he => ?_⟩
    refine ⟨(by show 1 ≤ sizeLine; decide), fun W0 hW0 => ?_⟩
    have ne0 : e ≠ W0 := ne_of_none (o := .lst []) upd_same hW0
    refine ⟨_, rfl, (n : Int), rfl, by omega, by omega, for_range (lo := 0) (n := (n : Int).toNat) (fun i σ H' => ∃ (W : Addr) (rs : List Addr) (y2 y3 y4 y5 : Option V), σ = [some (.int (n : Int)), some (.ref W), y2, y3, y4, y5] ∧ Same H H' ∧ H' W = some (.lst (refs rs)) ∧ Both (At H') rs (Ks565.all i))
      ⟨W0, [e], none, none, none, none, rfl, ?_, upd_same, ⟨?_, trivial⟩⟩ ?_ ?_⟩
    · intro b o eb
      rw [upd_ne (ne_of_none (same_upd he b o eb) hW0)]
      exact same_upd he b o eb
    · show upd (upd H e (.lst [])) W0 _ e = _
      rw [upd_ne ne0]
      exact upd_same
    · rintro i σ H1 hi ⟨W, rs, y2, y3, y4, y5, rfl, sm, hW, hb⟩
      rw [Int.toNat_natCast] at hi
      -- wider = []
      refine ⟨Nat.zero_le _, fun D hD => ?_⟩
      have s1 : Same H1 (upd H1 D (.lst [])) := same_upd hD
      refine ⟨_, rfl, W, rfl, ⟨_, SqL.of (s1 _ _ hW)⟩, for_list (K := K) (a := W) (xs := refs rs) (fun j σ H' => ∃ (us : List Addr) (y4 y5 : Option V), σ = [some (.int (n : Int)), some (.ref W), some (.int (0 + (i : Int))), some (.ref D), y4, y5] ∧ Same H1 H' ∧ H' D = some (.lst (refs us)) ∧ Both (fun r g => r ≠ D ∧ At H' r g) us (part i j))
        ⟨[], y4, y5, rfl, s1, upd_same, by rw [part_zero]; trivial⟩ ?_ ?_ ?_⟩
      · rintro j σ H' hj ⟨us, y4, y5, rfl, sm2, _⟩
        exact SqL.of (sm2 _ _ hW)
      · rintro j x σ H2 hx ⟨us, y4, y5, rfl, sm2, hD2, hb2⟩
        obtain ⟨r, hr, rfl⟩ := refs_get hx
        obtain ⟨g, hg, hrg⟩ := hb.get hr
        have hgm : g ∈ Ks565.all i := List.mem_of_getElem? hg
        have ng := all_neat i g hgm
        have gl := ng.len
        have gc := ng.le
        -- for number in range(how_many_groups(way) + 1)
        refine ⟨_, rfl, r, g, rfl, SqL.of (sm2 _ _ hrg), by omega, fun H3 sm3 => ?_⟩
        rw [many_cnt hgm]
        refine ⟨_, _, rfl, rfl, ((cnt g + 1 : Nat) : Int), rfl, by omega, by omega, ?_⟩
        rw [Int.toNat_natCast]
        refine for_range (lo := 0) (n := cnt g + 1) (fun m σ H' => ∃ (us : List Addr) (y5 : Option V), σ = [some (.int (n : Int)), some (.ref W), some (.int (0 + (i : Int))), some (.ref D), some (.ref r), y5] ∧ Same H1 H' ∧ H' D = some (.lst (refs us)) ∧ Both (fun r g => r ≠ D ∧ At H' r g) us (part i j ++ ext g m))
          ⟨us, y5, rfl, fun b o e => sm3 _ _ (sm2 _ _ e), sm3 _ _ hD2, ?_⟩ ?_ ?_
        · show Both _ us (part i j ++ [])
          rw [List.append_nil]
          exact hb2.mono fun r g z => ⟨z.1, sm3 _ _ z.2⟩
        · rintro m σ H4 hm ⟨us, y5, rfl, sm4, hD4, hb4⟩
          have hr4 : H4 r = some (.lst (vals g)) := sm4 _ _ hrg
          have ul : us.length ≤ 52 := by
            rw [hb4.len, List.length_append, ext_length]
            exact part_len (by omega) hg (by omega)
          rw [Int.zero_add]
          refine ⟨_, rfl, .inl ⟨rfl, _, SqL.of hD4⟩, _, rfl, _, rfl, (by show 1 ≤ sizeLine; decide), fun p hp => ?_⟩
          have s5 := same_upd (o := .lst [V.int (m : Int)]) hp
          refine ⟨r, p, _, _, rfl, rfl, s5 _ _ hr4, upd_same, ?_, fun t ht => ?_⟩
          · rw [vals_length]
            exact Nat.le_of_lt (small1000 (by show g.length + 1 ≤ 1000; omega))
          have s6 := same_upd (o := .lst (vals g ++ [V.int (m : Int)])) ht
          have hD6 := s6 _ _ (s5 _ _ hD4)
          have tD : t ≠ D := fun z => by
            rw [z, s5 _ _ hD4] at ht
            cases ht
          refine ⟨D, _, _, rfl, rfl, hD6, ?_, us ++ [t], some (.int (m : Int)), rfl, ?_, ?_, ?_⟩
          · rw [refs_length]
            exact small1000 (by omega)
          · intro b o eb
            rw [upd_ne (ne_of_none eb hD)]
            exact s6 _ _ (s5 _ _ (sm4 _ _ eb))
          · rw [upd_same, refs_snoc]
          · rw [ext_succ, ← List.append_assoc]
            refine Both.snoc ⟨tD, ?_⟩ (hb4.mono fun c h z => ⟨z.1, ?_⟩)
            · show upd _ D _ t = _
              rw [upd_ne tD, upd_same, vals_append]
              rfl
            · show upd _ D _ c = _
              rw [upd_ne z.1]
              exact s6 _ _ (s5 _ _ z.2)
        · rintro σ H4 ⟨us, y5, rfl, sm4, hD4, hb4⟩
          refine ⟨us, _, y5, rfl, sm4, hD4, ?_⟩
          rw [part_succ hg]
          exact hb4
      · rintro σ H2 ⟨us, y4, y5, rfl, sm2, hD2, hb2⟩
        refine ⟨_, rfl, D, us, _, _, y4, y5, rfl, fun b o e => sm2 _ _ (sm _ _ e), hD2, ?_⟩
        rw [refs_length, hb.len, part_all] at hb2
        exact hb2.mono fun r g z => z.2
    · rintro σ H1 ⟨W, rs, y2, y3, y4, y5, rfl, sm, hW, hb⟩
      rw [Int.toNat_natCast] at hb
      exact ⟨_, rfl, q _ W rs sm hW hb⟩
end
end Rh
namespace Rh
open PySem PySem.Spec PyProof.Rows L2
section
variable {P : Program} {w : World} {K : PySem.W.Frag} {mg : Str → Option Value} {base : Heap}
/-! ## groups_hold -/
theorem scHold : FnScope ["k", "w", "friends", "groups", "had", "s"] ["k", "w", "friends", "groups"] (defScope sHold) := ⟨rfl, rfl, rfl, by decide +kernel, rfl, by decide +kernel, by decide +kernel⟩
def spHold (K : PySem.W.Frag) : Sp := fun vs H Q _ => ∃ (k w : Nat) (a b : Addr) (fs gs : List Nat) (n : Nat), vs = [.int (k : Int), .int (w : Int), .ref a, .ref b] ∧ SqL K H a (vals fs) ∧ SqL K H b (vals gs) ∧ told n fs = true ∧ gs.length = n ∧
  ∀ H' : Hp, Same H H' → Q (.bl (stays n k w fs gs)) H'
theorem ok_hold {f fH fE fL fI fG fS : Addr} {fd fdH fdE fdL fdI fdG fdS : FuncData} (F : Fun K "groups_hold" "groups_hold" sHold f fd)
    (FH : Fun K "has_person" "has_person" sHas fH fdH) (bH : Binds K fdH ["s", "i"] []) (gH : mg "has_person" = some (.ref fH))
    (FE : Fun K "what_each_has" "what_each_has" sEach fE fdE) (bE : Binds K fdE ["k", "friends", "groups"] []) (gE : mg "what_each_has" = some (.ref fE))
    (FL : Fun K "would_leave" "would_leave" sLeave fL fdL) (bL : Binds K fdL ["k", "w", "friends", "had", "s"] []) (gL : mg "would_leave" = some (.ref fL))
    (FI : Fun K "has_in" "has_in" sHasIn fI fdI) (bI : Binds K fdI ["k", "friends", "s", "i"] []) (gI : mg "has_in" = some (.ref fI))
    (FG : Fun K "group_of" "group_of" sGroup fG fdG) (bG : Binds K fdG ["groups", "i"] []) (gG : mg "group_of" = some (.ref fG))
    (FS : Fun K "size" "size" sSize fS fdS) (bS : Binds K fdS ["s"] []) (gS : mg "size" = some (.ref fS))
    (ml : mg "len" = none) (mr : mg "range" = none) : FnOk P w K mg base CX0 4 f fd ["k", "w", "friends", "groups"] (spHold K) := by
  have GE : FnOk P w K mg base CX0 3 fE fdE ["k", "friends", "groups"] (spEach K) := ok_each FE FI bI gI FG bG gG FS bS gS ml mr
  have GL : FnOk P w K mg base CX0 3 fL fdL ["k", "w", "friends", "had", "s"] (spLeave K) := ok_leave FL FH bH gH FI bI gI FS bS gS ml mr
  refine F.ok scHold (fun vs H Q E h => ?_) (fun cdv A outer s H vs Q E hr h => ?_)
  · obtain ⟨k, w, a, b, fs, gs, n, rfl, _⟩ := h
    rfl
  · obtain ⟨k, w, a, b, fs, gs, n, rfl, hS, hG, ct, hg, q⟩ := h
    refine ⟨_, pss_cons (ps_set (i := 4) scHold.nd rfl (.inl rfl) (pe_call GE hr rfl gE FE.kp bE .nil pass0 (pa_cons (pv 0) (pa_cons (pv 2) (pa_cons (pv 3) pa_nil)))))
      (pss_cons (ps_for PassesOwn.never rfl (pi_range2 rfl mr (pa_cons pe_int (pa_cons (pe_op op_shl pe_int (pe_callB call_len_seq (by rfl) ml PySem.boot_len (pa_cons (pv 2) pa_nil))) pa_nil))) (pg_name (i := 5) scHold.nd rfl (.inl rfl))
        (pss_one (ps_if (pt_val (pe_call GL hr rfl gL FL.kp bL .nil pass0 (pa_cons (pv 0) (pa_cons (pv 1) (pa_cons (pv 2) (pa_cons (pv 4) (pa_cons (pv 5) pa_nil)))))))
          (pss_one (ps_ret pe_bl)) pss_nil)))
      (pss_one (ps_ret pe_bl))), ?_⟩
    obtain ⟨t1, t2, t3, t4⟩ := told_iff.mp ct
    have hp2 : 2 ^ n ≤ 32 := Nat.pow_le_pow_right (n := 2) (by omega) t2
    have hp1 : 1 ≤ 2 ^ n := Nat.two_pow_pos n
    -- had = what_each_has(k, friends, groups)
    refine ⟨_, rfl, _, rfl, _, rfl, k, a, b, fs, gs, n, rfl, hS, hG, t3, hg, by omega, fun H1 d hd sm1 hl1 => ?_⟩
    have hS1 := sm1.seq hS
    -- for s in range(1, 1 << len(friends))
    refine ⟨_, rfl, a, _, rfl, .inl hS1, ?_⟩
    rw [vals_length, t3]
    have e : ((2 ^ n : Nat) : Int) - 1 = ((2 ^ n - 1 : Nat) : Int) := by omega
    refine ⟨_, _, rfl, rfl, ⟨by omega, by omega, by decide⟩, 1, ((2 ^ n : Nat) : Int), by show [V.int 1, V.int (1 * 2 ^ (n : Int).toNat)] = _; rw [one_shl], ⟨by omega, by omega, by omega, by omega⟩, ?_⟩
    rw [e, Int.toNat_natCast]
    refine for_range (lo := 1) (n := 2 ^ n - 1) (fun i σ H' => (∃ y, σ = [some (.int (k : Int)), some (.int (w : Int)), some (.ref a), some (.ref b), some (.ref d), y]) ∧ H' = H1 ∧ ∀ j, j < i → wants n k w fs gs (j + 1) = false) ⟨⟨none, rfl⟩, rfl, fun j hj => by omega⟩ ?_ ?_
    · rintro i σ H' hi ⟨⟨y, rfl⟩, rfl, hw⟩
      have ei : (1 : Int) + (i : Int) = ((i + 1 : Nat) : Int) := by omega
      rw [ei]
      have hlt : i + 1 < 2 ^ n := by omega
      have ew : leaves n k w fs gs (i + 1) = wants n k w fs gs (i + 1) := (wants_eq ct hlt).symm
      refine ⟨_, rfl, _, rfl, _, rfl, _, rfl, _, rfl, k, w, a, d, fs, gs, i + 1, n, rfl, hS1, SqL.of hl1, t3, by omega, hlt, _, rfl, ?_⟩
      cases c : wants n k w fs gs (i + 1) with
      | true =>
        refine if_t (ew.trans c) ?_
        rw [stays_f hlt c] at q
        exact q _ sm1
      | false =>
        refine if_f (ew.trans c) ⟨⟨_, rfl⟩, rfl, fun j hj => ?_⟩
        by_cases e : j = i
        · rw [e]
          exact c
        · exact hw j (by omega)
    · rintro σ H' ⟨⟨y, rfl⟩, rfl, hw⟩
      rw [stays_t hw] at q
      exact q _ sm1
end
end Rh
namespace Rh
open PySem PySem.Spec PyProof.Rows L2
section
variable {P : Program} {w : World} {K : PySem.W.Frag} {mg : Str → Option Value} {base : Heap}
/-! ## core -/
theorem scCore : FnScope ["n", "k", "w", "friends", "groups", "holding"] ["n", "k", "w", "friends"] (defScope sCore) := ⟨rfl, rfl, rfl, by decide +kernel, rfl, by decide +kernel, by decide +kernel⟩
def spCore (K : PySem.W.Frag) : Sp := fun vs H Q _ => ∃ (n k w : Nat) (a : Addr) (fs : List Nat), vs = [.int (n : Int), .int (k : Int), .int (w : Int), .ref a] ∧ SqL K H a (vals fs) ∧ fs.length ≤ 7 ∧
  ∀ (H' : Hp) (p : Addr), H' p = some (.lst ((PyKs569.core (n : Int) (k : Int) (w : Int) (asInts fs)).map V.int)) → Q (.ref p) H'
theorem ok_core {f fT fH fA fM fD fE fL fI fG fS : Addr} {fd fdT fdH fdA fdM fdD fdE fdL fdI fdG fdS : FuncData} {tm tr : Tok} (F : Fun K "core" "core" sCore f fd)
    (FT : Fun K "friends_are_told" "friends_are_told" sTold fT fdT) (bT : Binds K fdT ["n", "friends"] []) (gT : mg "friends_are_told" = some (.ref fT))
    (FH : Fun K "has_person" "has_person" sHas fH fdH) (bH : Binds K fdH ["s", "i"] []) (gH : mg "has_person" = some (.ref fH))
    (FA : Fun K "all_ways" "all_ways" sWays fA fdA) (bA : Binds K fdA ["n"] []) (gA : mg "all_ways" = some (.ref fA))
    (FM : Fun K "how_many_groups" "how_many_groups" sMany fM fdM) (bM : Binds K fdM ["groups"] []) (gM : mg "how_many_groups" = some (.ref fM))
    (FD : Fun K "groups_hold" "groups_hold" sHold fD fdD) (bD : Binds K fdD ["k", "w", "friends", "groups"] []) (gD : mg "groups_hold" = some (.ref fD))
    (FE : Fun K "what_each_has" "what_each_has" sEach fE fdE) (bE : Binds K fdE ["k", "friends", "groups"] []) (gE : mg "what_each_has" = some (.ref fE))
    (FL : Fun K "would_leave" "would_leave" sLeave fL fdL) (bL : Binds K fdL ["k", "w", "friends", "had", "s"] []) (gL : mg "would_leave" = some (.ref fL))
    (FI : Fun K "has_in" "has_in" sHasIn fI fdI) (bI : Binds K fdI ["k", "friends", "s", "i"] []) (gI : mg "has_in" = some (.ref fI))
    (FG : Fun K "group_of" "group_of" sGroup fG fdG) (bG : Binds K fdG ["groups", "i"] []) (gG : mg "group_of" = some (.ref fG))
    (FS : Fun K "size" "size" sSize fS fdS) (bS : Binds K fdS ["s"] []) (gS : mg "size" = some (.ref fS))
    (gP : mg "MOST_PEOPLE" = some (.int 5 tm)) (gN : mg "REFUSED" = some (.int (-22) tr)) (ml : mg "len" = none) (mr : mg "range" = none) : FnOk P w K mg base CX0 5 f fd ["n", "k", "w", "friends"] (spCore K) := by
  have GT : FnOk P w K mg base CX0 2 fT fdT ["n", "friends"] (spTold K) := ok_told FT FH bH gH gP ml mr
  have GA : FnOk P w K mg base CX0 2 fA fdA ["n"] spWays := ok_ways FA FM bM gM ml mr
  have GD : FnOk P w K mg base CX0 4 fD fdD ["k", "w", "friends", "groups"] (spHold K) := ok_hold FD FH bH gH FE bE gE FL bL gL FI bI gI FG bG gG FS bS gS ml mr
  refine F.ok scCore (fun vs H Q E h => ?_) (fun cdv A outer s H vs Q E hr h => ?_)
  · obtain ⟨n, k, w, a, fs, rfl, _⟩ := h
    rfl
  · obtain ⟨n, k, w, a, fs, rfl, hS, hlen, q⟩ := h
    have hr2 := hr.mono (j := 2) (by decide)
    refine ⟨_, pss_cons (ps_if (PW.pt (pw_or (pt_not (pt_val (pe_call GT hr2 rfl gT FT.kp bT .nil pass0 (pa_cons (pv 0) (pa_cons (pv 3) pa_nil)))))
        (pw_or (pt_cmpR op_gt (pv 1) pe_int (nomark _)) (pw_or1 (pt_cmpR op_gt (pv 2) pe_int (nomark _))))))
        (pss_one (ps_ret (pe_lst (pa_cons (pe_glob (v := .int (-22)) rfl gN ⟨_, rfl⟩) pa_nil)))) pss_nil)
      (pss_cons (ps_setLc (i := 5) (own := [("groups", 4)]) (g := gName 4) rfl scCore.nd rfl rfl (sw_true rfl rfl rfl (by decide +kernel)) (pi_list (pe_call GA hr2 rfl gA FA.kp bA .nil pass0 (pa_cons (pv 0) pa_nil)))
        (blkOk_by (own := [("groups", 4)]) (N := ["n", "k", "w", "friends", "groups", "holding"]) (sc := defScope sCore) (by decide +kernel))
        (fun _ _ _ _ _ => pg_name (i := 4) scCore.nd rfl (Or.inl rfl)) (fun _ _ _ _ _ => pts_one (pt_val (pe_call GD hr rfl gD FD.kp bD .nil pass0 (pa_cons (pv 1) (pa_cons (pv 2) (pa_cons (pv 3) (pa_cons (pv 4) pa_nil))))))) (fun _ _ _ _ _ => pv 4))
      (pss_cons (ps_if (pt_cmpR op_eq (pe_callB call_len_seq (by rfl) ml PySem.boot_len (pa_cons (pv 5) pa_nil)) pe_int (nomark _)) (pss_one (ps_ret (pe_lst (pa_cons pe_int pa_nil)))) pss_nil)
      (pss_one (ps_ret (pe_op op_cat (pe_lst (pa_cons (pe_callB call_len_seq (by rfl) ml PySem.boot_len (pa_cons (pv 5) pa_nil)) pa_nil)) (pe_ix ix_list (pv 5) pe_int (fun _ _ => rfl))))))), ?_⟩
    have ref : ¬ (told n fs = true ∧ k ≤ 1 ∧ w ≤ 1) → ∀ (H' : Hp) (p : Addr), H' p = some (.lst [V.int (-22)]) → Q (.ref p) H' := by
      intro c H' p hp
      refine q _ p ?_
      rw [core_due, if_neg c]
      exact hp
    refine ⟨_, rfl, _, rfl, n, a, fs, rfl, hS, hlen, _, rfl, ?_⟩
    by_cases cf : ¬ told n fs = true
    · have ct : told n fs = false := by
        rw [← Bool.not_eq_true]
        exact cf
      refine if_t (c := !told n fs) (by rw [ct]; rfl) (iteT ?_)
      exact ⟨(by show 1 ≤ sizeLine; decide), fun p hp => ref (fun z => cf z.1) _ p upd_same⟩
    have ct : told n fs = true := Classical.not_not.mp cf
    refine if_f (c := !told n fs) (by rw [ct]; rfl) ?_
    refine ⟨_, rfl, _, _, rfl, rfl, _, rfl, ?_⟩
    by_cases ck : ¬ k ≤ 1
    · refine if_t (decide_eq_true (by omega)) (iteT ?_)
      exact ⟨(by show 1 ≤ sizeLine; decide), fun p hp => ref (fun z => ck z.2.1) _ p upd_same⟩
    have hk : k ≤ 1 := by omega
    refine if_f (decide_eq_false (by omega)) ?_
    refine ⟨_, rfl, _, _, rfl, rfl, _, rfl, ?_⟩
    by_cases cw : ¬ w ≤ 1
    · refine if_t (decide_eq_true (by omega)) ?_
      exact ⟨(by show 1 ≤ sizeLine; decide), fun p hp => ref (fun z => cw z.2.2) _ p upd_same⟩
    have hw : w ≤ 1 := by omega
    refine if_f (decide_eq_false (by omega)) ?_
    obtain ⟨t1, t2, t3, t4⟩ := told_iff.mp ct
    have al := all_len t2
    -- holding = [..]
    refine ⟨_, rfl, n, rfl, t2, fun H1 W rs sm1 hW hb => ?_⟩
    refine ⟨W, rfl, ⟨_, SqL.of hW⟩, fun D hD => ?_⟩
    refine lc_list (K := K) (a := W) (xs := refs rs) (fun i H' => Same H1 H' ∧ ∃ hs, H' D = some (.lst (refs hs)) ∧ Both (At H1) hs (((Ks565.all n).take i).filter (stays n k w fs))) ⟨same_upd hD, [], upd_same, trivial⟩ ?_ ?_ ?_
    · rintro i H' hi ⟨sm, _⟩
      exact SqL.of (sm _ _ hW)
    · rintro i x H' hx ⟨sm, hs, hdd, hbs⟩
      obtain ⟨r, hr, rfl⟩ := refs_get hx
      obtain ⟨g, hg, hrg⟩ := hb.get hr
      have ng := all_neat n g (List.mem_of_getElem? hg)
      have hl : hs.length ≤ 52 := by
        rw [hbs.len]
        refine Nat.le_trans (List.length_filter_le _ _) ?_
        rw [List.length_take]
        omega
      refine ⟨rfl, _, rfl, _, rfl, _, rfl, _, rfl, k, w, a, r, fs, g, n, rfl, sm.seq (sm1.seq hS), SqL.of (sm _ _ hrg), ct, ng.len, fun H2 sm2 => ?_⟩
      have hdd2 := sm2 _ _ hdd
      refine ⟨_, rfl, ?_⟩
      cases c : stays n k w fs g with
      | true =>
        refine if_t rfl ?_
        refine ⟨_, rfl, _, hdd2, ?_, ?_, hs ++ [r], ?_, ?_⟩
        · rw [refs_length]
          exact small1000 (by omega)
        · intro b o e
          rw [upd_ne (ne_of_none e hD)]
          exact sm2 _ _ (sm _ _ e)
        · rw [upd_same, refs_snoc]
        · rw [take_next hg, List.filter_append, List.filter_cons_of_pos c, List.filter_nil]
          exact Both.snoc hrg hbs
      | false =>
        refine if_f rfl ⟨fun b o e => sm2 _ _ (sm _ _ e), hs, hdd2, ?_⟩
        rw [take_next hg, List.filter_append, List.filter_cons_of_neg (by rw [c]; exact Bool.false_ne_true), List.filter_nil, List.append_nil]
        exact hbs
    · rintro H2 ⟨sm2, hs, hl2, hbs⟩
      rw [refs_length, hb.len, List.take_length] at hbs
      have hl : hs.length ≤ 52 := by
        rw [hbs.len]
        exact Nat.le_trans (List.length_filter_le _ _) al
      have due : ∀ (H' : Hp) (p : Addr), H' p = some (.lst (V.int (hs.length : Nat) :: vals (((Ks565.all n).filter (stays n k w fs)).headD []))) → Q (.ref p) H' := by
        intro H' p hp
        refine q _ p ?_
        rw [core_due, if_pos ⟨ct, hk, hw⟩, List.map_cons, vals_asInts, ← hbs.len]
        exact hp
      -- if len(holding) == 0
      refine ⟨_, rfl, D, _, rfl, .inl (SqL.of hl2), rfl, _, rfl, ?_⟩
      rw [refs_length, zero_nat, eq_nat]
      by_cases c0 : hs.length = 0
      · refine if_t (decide_eq_true c0) ?_
        refine ⟨(by show 1 ≤ sizeLine; decide), fun p hp => due _ p ?_⟩
        have e0 : (Ks565.all n).filter (stays n k w fs) = [] := by
          have := hbs.len
          exact List.eq_nil_of_length_eq_zero (by omega)
        rw [e0, c0]
        exact upd_same
      · refine if_f (decide_eq_false c0) ?_
        have h0 : hs[0]? = some (hs[0]'(by omega)) := List.getElem?_eq_getElem _
        obtain ⟨g, hg, hrg⟩ := hbs.get h0
        have hgm : g ∈ Ks565.all n := (List.mem_filter.mp (List.mem_of_getElem? hg)).1
        have gl := (all_neat n g hgm).len
        have hd : ((Ks565.all n).filter (stays n k w fs)).headD [] = g := by
          cases e : (Ks565.all n).filter (stays n k w fs) with
          | nil =>
            rw [e] at hg
            cases hg
          | cons x l =>
            rw [e] at hg
            cases hg
            rfl
        rw [hd] at due
        -- [len(holding)] + holding[0]
        refine ⟨_, rfl, D, _, rfl, .inl (SqL.of hl2), (by show 1 ≤ sizeLine; decide), fun p hp => ?_⟩
        rw [refs_length]
        have s3 := same_upd (o := .lst [V.int (hs.length : Nat)]) hp
        have hat : atI (refs hs) ((0 : Nat) : Int) = some (.ref (hs[0]'(by omega))) := atI_nat (by
          unfold refs
          rw [List.getElem?_map, h0]
          rfl)
        refine ⟨_, rfl, D, _, _, _, rfl, rfl, SqL.of (s3 _ _ hl2), hat, p, _, _, _, rfl, rfl, upd_same, s3 _ _ (sm2 _ _ hrg), ?_, fun r hr => ?_⟩
        · rw [vals_length]
          exact Nat.le_of_lt (small1000 (by show 1 + g.length ≤ 1000; omega))
        · refine due _ r ?_
          rw [upd_same]
          rfl
end
end Rh
namespace Rh
open PySem PySem.Spec PyProof.Rows L2
theorem all_mk {P : Program} {w : World} {K : PySem.W.Frag} {h : Heap} {mg : Str → Option Value} {fa f1 f2 f3 f4 f5 f6 f7 f8 f9 f10 f11 : Addr} {t1 t2 : Tok} (X : K.In h) (G : h.Ns mainGlobals mg) (hfa : mg "core" = some (.ref fa))
    {od1 an1 od2 an2 od3 an3 od4 an4 od5 an5 od6 an6 od7 an7 od8 an8 od9 an9 od10 an10 od11 an11 : Option Addr} {sl1 sl2 sl3 sl4 sl5 sl6 sl7 sl8 sl9 sl10 sl11 : Array (Option Value)} {oc1 kV1 dc1 pm1 cd1 ct1 oc2 kV2 dc2 pm2 cd2 ct2 oc3 kV3 dc3 pm3 cd3 ct3 oc4 kV4 dc4 pm4 cd4 ct4 oc5 kV5 dc5 pm5 cd5 ct5 oc6 kV6 dc6 pm6 cd6 ct6 oc7 kV7 dc7 pm7 cd7 ct7 oc8 kV8 dc8 pm8 cd8 ct8 oc9 kV9 dc9 pm9 cd9 ct9 oc10 kV10 dc10 pm10 cd10 ct10 oc11 kV11 dc11 pm11 cd11 ct11 : Value}
    (a1 : PySem.W.nsIn K mainGlobals "has_person" = some (some (.ref f1))) (l1 : K.lookup f1 = some ⟨oc1, od1, .func (PySem.W.fnOf "has_person" "has_person" (defArgs sHas) (defBody sHas) (defScope sHas) .none kV1 dc1 pm1 an1 cd1 ct1), sl1⟩) (c1 : PySem.W.codeIn K cd1 "has_person" = true) (k1 : PySem.W.keepIn K (.ref f1) = true)
    (a2 : PySem.W.nsIn K mainGlobals "friends_are_told" = some (some (.ref f2))) (l2 : K.lookup f2 = some ⟨oc2, od2, .func (PySem.W.fnOf "friends_are_told" "friends_are_told" (defArgs sTold) (defBody sTold) (defScope sTold) .none kV2 dc2 pm2 an2 cd2 ct2), sl2⟩) (c2 : PySem.W.codeIn K cd2 "friends_are_told" = true) (k2 : PySem.W.keepIn K (.ref f2) = true)
    (a3 : PySem.W.nsIn K mainGlobals "size" = some (some (.ref f3))) (l3 : K.lookup f3 = some ⟨oc3, od3, .func (PySem.W.fnOf "size" "size" (defArgs sSize) (defBody sSize) (defScope sSize) .none kV3 dc3 pm3 an3 cd3 ct3), sl3⟩) (c3 : PySem.W.codeIn K cd3 "size" = true) (k3 : PySem.W.keepIn K (.ref f3) = true)
    (a4 : PySem.W.nsIn K mainGlobals "how_many_groups" = some (some (.ref f4))) (l4 : K.lookup f4 = some ⟨oc4, od4, .func (PySem.W.fnOf "how_many_groups" "how_many_groups" (defArgs sMany) (defBody sMany) (defScope sMany) .none kV4 dc4 pm4 an4 cd4 ct4), sl4⟩) (c4 : PySem.W.codeIn K cd4 "how_many_groups" = true) (k4 : PySem.W.keepIn K (.ref f4) = true)
    (a5 : PySem.W.nsIn K mainGlobals "group_of" = some (some (.ref f5))) (l5 : K.lookup f5 = some ⟨oc5, od5, .func (PySem.W.fnOf "group_of" "group_of" (defArgs sGroup) (defBody sGroup) (defScope sGroup) .none kV5 dc5 pm5 an5 cd5 ct5), sl5⟩) (c5 : PySem.W.codeIn K cd5 "group_of" = true) (k5 : PySem.W.keepIn K (.ref f5) = true)
    (a6 : PySem.W.nsIn K mainGlobals "has_in" = some (some (.ref f6))) (l6 : K.lookup f6 = some ⟨oc6, od6, .func (PySem.W.fnOf "has_in" "has_in" (defArgs sHasIn) (defBody sHasIn) (defScope sHasIn) .none kV6 dc6 pm6 an6 cd6 ct6), sl6⟩) (c6 : PySem.W.codeIn K cd6 "has_in" = true) (k6 : PySem.W.keepIn K (.ref f6) = true)
    (a7 : PySem.W.nsIn K mainGlobals "what_each_has" = some (some (.ref f7))) (l7 : K.lookup f7 = some ⟨oc7, od7, .func (PySem.W.fnOf "what_each_has" "what_each_has" (defArgs sEach) (defBody sEach) (defScope sEach) .none kV7 dc7 pm7 an7 cd7 ct7), sl7⟩) (c7 : PySem.W.codeIn K cd7 "what_each_has" = true) (k7 : PySem.W.keepIn K (.ref f7) = true)
    (a8 : PySem.W.nsIn K mainGlobals "would_leave" = some (some (.ref f8))) (l8 : K.lookup f8 = some ⟨oc8, od8, .func (PySem.W.fnOf "would_leave" "would_leave" (defArgs sLeave) (defBody sLeave) (defScope sLeave) .none kV8 dc8 pm8 an8 cd8 ct8), sl8⟩) (c8 : PySem.W.codeIn K cd8 "would_leave" = true) (k8 : PySem.W.keepIn K (.ref f8) = true)
    (a9 : PySem.W.nsIn K mainGlobals "all_ways" = some (some (.ref f9))) (l9 : K.lookup f9 = some ⟨oc9, od9, .func (PySem.W.fnOf "all_ways" "all_ways" (defArgs sWays) (defBody sWays) (defScope sWays) .none kV9 dc9 pm9 an9 cd9 ct9), sl9⟩) (c9 : PySem.W.codeIn K cd9 "all_ways" = true) (k9 : PySem.W.keepIn K (.ref f9) = true)
    (a10 : PySem.W.nsIn K mainGlobals "groups_hold" = some (some (.ref f10))) (l10 : K.lookup f10 = some ⟨oc10, od10, .func (PySem.W.fnOf "groups_hold" "groups_hold" (defArgs sHold) (defBody sHold) (defScope sHold) .none kV10 dc10 pm10 an10 cd10 ct10), sl10⟩) (c10 : PySem.W.codeIn K cd10 "groups_hold" = true) (k10 : PySem.W.keepIn K (.ref f10) = true)
    (a11 : PySem.W.nsIn K mainGlobals "core" = some (some (.ref f11))) (l11 : K.lookup f11 = some ⟨oc11, od11, .func (PySem.W.fnOf "core" "core" (defArgs sCore) (defBody sCore) (defScope sCore) .none kV11 dc11 pm11 an11 cd11 ct11), sl11⟩) (c11 : PySem.W.codeIn K cd11 "core" = true) (k11 : PySem.W.keepIn K (.ref f11) = true)
    (v1 : PySem.W.nsIn K mainGlobals "MOST_PEOPLE" = some (some (.int (5) t1)))
    (v2 : PySem.W.nsIn K mainGlobals "REFUSED" = some (some (.int (-22) t2)))
    (z1 : PySem.W.nsIn K mainGlobals "len" = some none)
    (z2 : PySem.W.nsIn K mainGlobals "range" = some none)
    : ∃ fd : FuncData, (∀ (s : Shared) (us : List Value), us.length = (["n", "k", "w", "friends"] : List Str).length → BindsTo s fd ⟨us, []⟩ ((["n", "k", "w", "friends"] : List Str).zip us)) ∧ ∀ base : Heap, K.In base → base.Ns mainGlobals mg → FnOk P w K mg base CX0 5 fa fd ["n", "k", "w", "friends"] (spCore K) := by
  have e := hfa.symm.trans (PySem.W.mg_of X G a11)
  cases e
  have F1 := fun_mk (st := sHas) l1 c1 k1
  have b1 := F1.binds (ps := ["s", "i"]) fun _ _ _ _ _ _ us hl => match us, hl with | [_, _], _ => rfl
  have g1 := PySem.W.mg_of X G a1
  have F2 := fun_mk (st := sTold) l2 c2 k2
  have b2 := F2.binds (ps := ["n", "friends"]) fun _ _ _ _ _ _ us hl => match us, hl with | [_, _], _ => rfl
  have g2 := PySem.W.mg_of X G a2
  have F3 := fun_mk (st := sSize) l3 c3 k3
  have b3 := F3.binds (ps := ["s"]) fun _ _ _ _ _ _ us hl => match us, hl with | [_], _ => rfl
  have g3 := PySem.W.mg_of X G a3
  have F4 := fun_mk (st := sMany) l4 c4 k4
  have b4 := F4.binds (ps := ["groups"]) fun _ _ _ _ _ _ us hl => match us, hl with | [_], _ => rfl
  have g4 := PySem.W.mg_of X G a4
  have F5 := fun_mk (st := sGroup) l5 c5 k5
  have b5 := F5.binds (ps := ["groups", "i"]) fun _ _ _ _ _ _ us hl => match us, hl with | [_, _], _ => rfl
  have g5 := PySem.W.mg_of X G a5
  have F6 := fun_mk (st := sHasIn) l6 c6 k6
  have b6 := F6.binds (ps := ["k", "friends", "s", "i"]) fun _ _ _ _ _ _ us hl => match us, hl with | [_, _, _, _], _ => rfl
  have g6 := PySem.W.mg_of X G a6
  have F7 := fun_mk (st := sEach) l7 c7 k7
  have b7 := F7.binds (ps := ["k", "friends", "groups"]) fun _ _ _ _ _ _ us hl => match us, hl with | [_, _, _], _ => rfl
  have g7 := PySem.W.mg_of X G a7
  have F8 := fun_mk (st := sLeave) l8 c8 k8
  have b8 := F8.binds (ps := ["k", "w", "friends", "had", "s"]) fun _ _ _ _ _ _ us hl => match us, hl with | [_, _, _, _, _], _ => rfl
  have g8 := PySem.W.mg_of X G a8
  have F9 := fun_mk (st := sWays) l9 c9 k9
  have b9 := F9.binds (ps := ["n"]) fun _ _ _ _ _ _ us hl => match us, hl with | [_], _ => rfl
  have g9 := PySem.W.mg_of X G a9
  have F10 := fun_mk (st := sHold) l10 c10 k10
  have b10 := F10.binds (ps := ["k", "w", "friends", "groups"]) fun _ _ _ _ _ _ us hl => match us, hl with | [_, _, _, _], _ => rfl
  have g10 := PySem.W.mg_of X G a10
  have F11 := fun_mk (st := sCore) l11 c11 k11
  have gc1 := PySem.W.mg_of X G v1
  have gc2 := PySem.W.mg_of X G v2
  have gz1 := PySem.W.mg_none_of X G z1
  have gz2 := PySem.W.mg_none_of X G z2
  exact ⟨PySem.W.fnOf "core" "core" (defArgs sCore) (defBody sCore) (defScope sCore) .none kV11 dc11 pm11 an11 cd11 ct11, fun s us hu => match us, hu with | [_, _, _, _], _ => .of_eq rfl, fun base _ _ => ok_core F11 F2 b2 g2 F1 b1 g1 F9 b9 g9 F4 b4 g4 F10 b10 g10 F7 b7 g7 F8 b8 g8 F6 b6 g6 F5 b5 g5 F3 b3 g3 gc1 gc2 gz1 gz2⟩
end Rh
open PySem PySem.W PyProof.Rows
set_option maxRecDepth 100000 in
set_option maxHeartbeats 8000000 in
theorem PySem.Challenge.cw_ringsheld_s05_core_holds : PySem.Challenge.rw_ringsheld_s05_core.Holds := by
  w_on; k_headS; (case hw => exact ⟨[.int 0, .int 0, .int 0, .list []], by decide +kernel, by decide +kernel⟩)
  k_fillS
  refine L2.walk_specK (r := PySem.Challenge.rw_ringsheld_s05_core) (k := 5) (CX := L2.CX0) (ps := ["n", "k", "w", "friends"]) (sp := Rh.spCore) (by decide +kernel) rfl rfl ⟨rfl, by decide, by decide⟩ (fun w h Y => PySem.W.kIn_of Y) ?F ?S (fun _ _ _ _ z => z)
  case F =>
    intro w mg fa h Y KX G hmg
    refine' Rh.all_mk KX G hmg ?a1 ?l1 ?c1 ?k1 ?a2 ?l2 ?c2 ?k2 ?a3 ?l3 ?c3 ?k3 ?a4 ?l4 ?c4 ?k4 ?a5 ?l5 ?c5 ?k5 ?a6 ?l6 ?c6 ?k6 ?a7 ?l7 ?c7 ?k7 ?a8 ?l8 ?c8 ?k8 ?a9 ?l9 ?c9 ?k9 ?a10 ?l10 ?c10 ?k10 ?a11 ?l11 ?c11 ?k11 ?v1 ?v2 ?z1 ?z2
    (case a1 => k_is)
    (case l1 => k_is)
    (case c1 => k_is)
    (case k1 => k_is)
    (case a2 => k_is)
    (case l2 => k_is)
    (case c2 => k_is)
    (case k2 => k_is)
    (case a3 => k_is)
    (case l3 => k_is)
    (case c3 => k_is)
    (case k3 => k_is)
    (case a4 => k_is)
    (case l4 => k_is)
    (case c4 => k_is)
    (case k4 => k_is)
    (case a5 => k_is)
    (case l5 => k_is)
    (case c5 => k_is)
    (case k5 => k_is)
    (case a6 => k_is)
    (case l6 => k_is)
    (case c6 => k_is)
    (case k6 => k_is)
    (case a7 => k_is)
    (case l7 => k_is)
    (case c7 => k_is)
    (case k7 => k_is)
    (case a8 => k_is)
    (case l8 => k_is)
    (case c8 => k_is)
    (case k8 => k_is)
    (case a9 => k_is)
    (case l9 => k_is)
    (case c9 => k_is)
    (case k9 => k_is)
    (case a10 => k_is)
    (case l10 => k_is)
    (case c10 => k_is)
    (case k10 => k_is)
    (case a11 => k_is)
    (case l11 => k_is)
    (case c11 => k_is)
    (case k11 => k_is)
    (case v1 => k_is)
    (case v2 => k_is)
    (case z1 => k_is)
    (case z2 => k_is)
  case S =>
    intro K H xs a hO hwi hask hx
    cases hx with
    | cons g1 r1 =>
      cases r1 with
      | cons g2 r2 =>
        cases r2 with
        | cons g3 r3 =>
          cases r3 with
          | cons g4 r4 =>
            cases r4
            cases g1
            cases g2
            cases g3
            cases g4 with
            | lst hs4 ha4 =>
              have e4 := L2.ints_dw a.2.2.2.1 _ ha4
              subst e4
              have q : (Codec.inInt 0 4294967295 a.1 && (Codec.inInt 0 4294967295 a.2.1 && (Codec.inInt 0 4294967295 a.2.2.1 && ((Codec.inLen 0 7 a.2.2.2.1 && a.2.2.2.1.all (Codec.inInt 0 4294967295)) && true)))) = true := hwi
              rw [Bool.and_eq_true, Bool.and_eq_true, Bool.and_eq_true, Bool.and_eq_true, Bool.and_eq_true] at q
              obtain ⟨x1, hx1⟩ := Rh.nn_int q.1
              obtain ⟨x2, hx2⟩ := Rh.nn_int q.2.1
              obtain ⟨x3, hx3⟩ := Rh.nn_int q.2.2.1
              obtain ⟨x4, hx4⟩ := Rh.nn_list q.2.2.2.1.2
              have hl4 : x4.length ≤ 7 := by
                have := (Codec.inNat_iff.mp q.2.2.2.1.1).2
                rw [hx4, Rh.asInts_length] at this
                exact this
              rw [hx4, Rh.vals_asInts] at hs4
              refine ⟨x1, x2, x3, _, x4, by rw [hx1, hx2, hx3], hs4, hl4, fun H' p hp => ?_⟩
              refine .lst (xs := (PyKs569.core (x1 : Int) (x2 : Int) (x3 : Int) (Rh.asInts x4)).map L2.V.int) (L2.SqL.of hp) ?_
              have e : Codec.app PySem.Challenge.rw_ringsheld_s05_core.args PySem.Challenge.rw_ringsheld_s05_core.f a = PyKs569.core (x1 : Int) (x2 : Int) (x3 : Int) (Rh.asInts x4) := by
                rw [← hx1, ← hx2, ← hx3, ← hx4]
                rfl
              rw [e]
              exact L2.dw_ints _
#print axioms PySem.Challenge.cw_ringsheld_s05_core_holds
