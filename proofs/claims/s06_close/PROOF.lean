import PyProof.Rows.All
import Wide.All
import OpenK.AllK
import Wide.FinOn
import Open.SpecLaws
import KE.OsGo
import HandS.Base
import HandS.Call
import HandS.List
import HandS.Comp
import HandS.Ends
import HandS.Spec
import HandS.Text
import HandS.Words
import HandS.WordsList
import PySem.Challenge.RW_ringsheld_s06_close
set_option Elab.async false
set_option linter.all false
set_option maxRecDepth 100000
set_option maxHeartbeats 2000000
namespace Rh
/-! ## numbering of groups: F sends each person to the least one of their group -/
/-- those that are the least of their group, among the first m -/
def reps (F : Nat → Nat) (m : Nat) : List Nat := (List.range m).filter fun j => F j == j
theorem reps_pos {F : Nat → Nat} {m : Nat} (h : F m = m) : reps F (m + 1) = reps F m ++ [m] := by
  unfold reps
  rw [List.range_succ, List.filter_append]
  simp [h]
theorem reps_neg {F : Nat → Nat} {m : Nat} (h : F m ≠ m) : reps F (m + 1) = reps F m := by
  unfold reps
  rw [List.range_succ, List.filter_append]
  simp [h]
theorem mem_reps {F : Nat → Nat} {m x : Nat} : x ∈ reps F m ↔ x < m ∧ F x = x := by
  unfold reps
  simp
theorem reps_mono {F : Nat → Nat} {a b : Nat} (h : a ≤ b) : (reps F a).length ≤ (reps F b).length := by
  induction h with
  | refl => exact Nat.le_refl _
  | @step m _ ih =>
    by_cases e : F m = m
    · rw [Nat.succ_eq_add_one, reps_pos e, List.length_append]
      omega
    · rw [Nat.succ_eq_add_one, reps_neg e]
      exact ih
/-- F as it must be, below n -/
structure Least (F : Nat → Nat) (n : Nat) : Prop where
  le : ∀ i, i < n → F i ≤ i
  idem : ∀ i, i < n → F (F i) = F i
theorem reps_lt {F : Nat → Nat} {n m : Nat} (L : Least F n) (hm : m < n) (h : F m ≠ m) : (reps F (F m)).length + 1 ≤ (reps F m).length := by
  have h1 : F m < m := Nat.lt_of_le_of_ne (L.le m hm) h
  have h2 := reps_pos (F := F) (m := F m) (L.idem m hm)
  have h3 := reps_mono (F := F) (a := F m + 1) (b := m) h1
  rw [h2, List.length_append] at h3
  exact h3
/-- the numbers of the groups of the first m -/
def nums (F : Nat → Nat) (m : Nat) : List Nat := (List.range m).map fun i => (reps F (F i)).length
theorem nums_succ {F : Nat → Nat} {m : Nat} : nums F (m + 1) = nums F m ++ [(reps F (F m)).length] := by
  unfold nums
  rw [List.range_succ, List.map_append]
  rfl
theorem nums_length {F : Nat → Nat} {m : Nat} : (nums F m).length = m := by
  unfold nums
  simp
theorem nums_get {F : Nat → Nat} {m i : Nat} (h : i < m) : (nums F m)[i]? = some (reps F (F i)).length := by
  unfold nums
  rw [List.getElem?_map, List.getElem?_range h]
  rfl
theorem firsts_eq {F : Nat → Nat} {n : Nat} (L : Least F n) : ∀ m, m ≤ n → ((List.range m).map F).foldl (fun l x => if l.contains x then l else l ++ [x]) [] = reps F m
  | 0, _ => rfl
  | m + 1, h => by
    rw [List.range_succ, List.map_append, List.foldl_append, firsts_eq L m (by omega)]
    show (if (reps F m).contains (F m) then reps F m else reps F m ++ [F m]) = reps F (m + 1)
    by_cases e : F m = m
    · have hn : ¬ (reps F m).contains (F m) = true := by
        rw [List.contains_iff_mem, mem_reps]
        omega
      rw [if_neg hn, reps_pos e, e]
    · have hp : (reps F m).contains (F m) = true := by
        rw [List.contains_iff_mem, mem_reps]
        have := L.le m (by omega)
        exact ⟨by omega, L.idem m (by omega)⟩
      rw [if_pos hp, reps_neg e]
theorem reps_split {F : Nat → Nat} {x : Nat} (h : F x = x) : ∀ n, x < n → ∃ r, reps F n = reps F x ++ x :: r
  | 0, hx => by omega
  | n + 1, hx => by
    by_cases e : x = n
    · subst e
      exact ⟨[], reps_pos h⟩
    · obtain ⟨r, hr⟩ := reps_split h n (by omega)
      by_cases e2 : F n = n
      · exact ⟨r ++ [n], by rw [reps_pos e2, hr]; simp⟩
      · exact ⟨r, by rw [reps_neg e2, hr]⟩
theorem takeWhile_at {x : Nat} : ∀ (l r : List Nat), (∀ y ∈ l, y ≠ x) → (l ++ x :: r).takeWhile (fun y => y != x) = l
  | [], r, _ => by simp
  | a :: l, r, h => by
    have ha : (a != x) = true := by
      have := h a (by simp)
      simp [this]
    rw [List.cons_append, List.takeWhile_cons, if_pos ha, takeWhile_at l r fun y hy => h y (by simp [hy])]
theorem tidy_eq {F : Nat → Nat} {n : Nat} (L : Least F n) : Ks565.tidy ((List.range n).map F) = nums F n := by
  unfold Ks565.tidy
  show ((List.range n).map F).map (fun x => ((((List.range n).map F).foldl (fun l x => if l.contains x then l else l ++ [x]) []).takeWhile fun y => y != x).length) = nums F n
  rw [firsts_eq L n (Nat.le_refl _), List.map_map]
  unfold nums
  refine List.map_congr_left fun i hi => ?_
  have hi' : i < n := List.mem_range.mp hi
  obtain ⟨r, hr⟩ := reps_split (L.idem i hi') n (Nat.lt_of_le_of_lt (L.le i hi') hi')
  show ((reps F n).takeWhile fun y => y != F i).length = _
  rw [hr, takeWhile_at _ _ fun y hy => by
    have := (mem_reps.mp hy).1
    omega]
theorem max_eq {F : Nat → Nat} {n : Nat} (L : Least F n) : ∀ m, m + 1 ≤ n → (nums F (m + 1)).foldl max 0 + 1 = (reps F (m + 1)).length
  | 0, h => by
    have e : F 0 = 0 := by
      have := L.le 0 (by omega)
      omega
    rw [reps_pos e, nums_succ, e]
    rfl
  | m + 1, h => by
    have ih := max_eq L m (by omega)
    rw [nums_succ, List.foldl_append]
    show max ((nums F (m + 1)).foldl max 0) (reps F (F (m + 1))).length + 1 = _
    by_cases e : F (m + 1) = m + 1
    · rw [reps_pos e, e, List.length_append]
      show _ = _ + 1
      omega
    · have := reps_lt L (by omega : m + 1 < n) e
      rw [reps_neg e]
      omega
theorem groups_eq {F : Nat → Nat} {n : Nat} (L : Least F n) (h : 1 ≤ n) : Ks565.groups (nums F n) = (reps F n).length := by
  obtain ⟨m, rfl⟩ : ∃ m, n = m + 1 := ⟨n - 1, by omega⟩
  exact max_eq L m (Nat.le_refl _)
end Rh
namespace Rh
open Ks569 (Ties friend)
/-! ## sets as numbers and as lists -/
theorem mem_set {n s i : Nat} : i ∈ Ks566.set n s ↔ i < n ∧ s.testBit i = true := by
  unfold Ks566.set
  simp
theorem set_contains {n s i : Nat} (h : i < n) : (Ks566.set n s).contains i = s.testBit i := by
  rw [Bool.eq_iff_iff, List.contains_iff_mem, mem_set]
  simp [h]
theorem set_congr {n s t : Nat} (h : ∀ i, i < n → s.testBit i = t.testBit i) : Ks566.set n s = Ks566.set n t := by
  unfold Ks566.set
  exact List.filter_congr fun i hi => h i (List.mem_range.mp hi)
/-! ## the set with all friends -/
def withFr (fs : List Nat) (s : Nat) : Nat := (List.range fs.length).foldl (fun w i => if s.testBit i then w ||| fs.getD i 0 else w) s
theorem wf_bits (fs : List Nat) (s j : Nat) : ∀ (l : List Nat) (w : Nat), (l.foldl (fun w i => if s.testBit i then w ||| fs.getD i 0 else w) w).testBit j = (w.testBit j || l.any fun i => s.testBit i && (fs.getD i 0).testBit j)
  | [], w => by simp
  | a :: l, w => by
    rw [List.foldl_cons, wf_bits fs s j l, List.any_cons]
    by_cases h : s.testBit a = true
    · rw [if_pos h, Nat.testBit_or, h, Bool.true_and, Bool.or_assoc]
    · rw [if_neg h]
      rw [Bool.not_eq_true] at h
      rw [h, Bool.false_and, Bool.false_or]
theorem withFr_bit (fs : List Nat) (s j : Nat) : (withFr fs s).testBit j = (s.testBit j || (List.range fs.length).any fun i => s.testBit i && (fs.getD i 0).testBit j) := wf_bits fs s j _ s
/-- so many steps -/
def it (fs : List Nat) (s : Nat) : Nat → Nat
  | 0 => s
  | k + 1 => withFr fs (it fs s k)
def reach (fs : List Nat) (i : Nat) : Nat := it fs (2 ^ i) (fs.length - 1)
theorem applied_succ {α : Type} (f : α → α) : ∀ (k : Nat) (x : α), Ks569.applied f (k + 1) x = f (Ks569.applied f k x)
  | 0, _ => rfl
  | k + 1, x => by
    show Ks569.applied f (k + 1) (f x) = _
    rw [applied_succ f k (f x)]
    rfl
theorem step_set {n : Nat} {fs : List Nat} (hn : fs.length = n) (s : Nat) : Ks569.step ⟨n, fs⟩ (Ks566.set n s) = Ks566.set n (withFr fs s) := by
  unfold Ks569.step
  show (List.range n).filter (fun j => (Ks566.set n s).contains j || (Ks566.set n s).any fun i => friend ⟨n, fs⟩ i j) = (List.range n).filter fun i => (withFr fs s).testBit i
  refine List.filter_congr fun j hj => ?_
  have hj' : j < n := List.mem_range.mp hj
  rw [set_contains hj', withFr_bit, hn]
  congr 1
  unfold Ks566.set
  rw [List.any_filter]
  rfl
theorem set_one {n i : Nat} (h : i < n) : Ks566.set n (2 ^ i) = [i] := by
  have e : ∀ n, i < n → (List.range n).filter (fun j => (2 ^ i).testBit j) = [i] := by
    intro n
    induction n with
    | zero =>
      intro h
      omega
    | succ m ih =>
      intro h
      rw [List.range_succ, List.filter_append]
      by_cases e : i = m
      · subst e
        have z : (List.range i).filter (fun j => (2 ^ i).testBit j) = [] := by
          rw [List.filter_eq_nil_iff]
          intro a ha
          have := List.mem_range.mp ha
          rw [Nat.testBit_two_pow]
          simp
          omega
        rw [z]
        simp
      · rw [ih (by omega)]
        have : (2 ^ i).testBit m = false := by
          rw [Nat.testBit_two_pow]
          simp [e]
        simp [this]
  exact e n h
/-- the lists of the specification, step by step -/
def way (t : Ties) (i k : Nat) : List Nat := Ks569.applied (Ks569.step t) k [i]
theorem way_succ (t : Ties) (i k : Nat) : way t i (k + 1) = Ks569.step t (way t i k) := applied_succ _ _ _
theorem way_set {n : Nat} {fs : List Nat} (hn : fs.length = n) {i : Nat} (hi : i < n) : ∀ k, way ⟨n, fs⟩ i k = Ks566.set n (it fs (2 ^ i) k)
  | 0 => (set_one hi).symm
  | k + 1 => by
    rw [way_succ, way_set hn hi k, step_set hn]
    rfl
/-! ## it comes to rest -/
theorem filter_le {p q : Nat → Bool} : ∀ (l : List Nat), (∀ x ∈ l, p x = true → q x = true) → (l.filter p).length ≤ (l.filter q).length
  | [], _ => Nat.le_refl _
  | a :: l, h => by
    have ih := filter_le l fun x hx => h x (by simp [hx])
    have ha := h a (by simp)
    by_cases hp : p a = true
    · rw [List.filter_cons_of_pos hp, List.filter_cons_of_pos (ha hp)]
      simp only [List.length_cons]
      omega
    · rw [List.filter_cons_of_neg hp]
      by_cases hq : q a = true
      · rw [List.filter_cons_of_pos hq]
        simp only [List.length_cons]
        omega
      · rw [List.filter_cons_of_neg hq]
        exact ih
theorem filter_eq_of {p q : Nat → Bool} : ∀ (l : List Nat), (∀ x ∈ l, p x = true → q x = true) → (l.filter q).length ≤ (l.filter p).length → ∀ x ∈ l, p x = q x
  | [], _, _ => by simp
  | a :: l, h, hl => by
    have hle := filter_le l fun x hx => h x (by simp [hx])
    have ha := h a (by simp)
    by_cases hp : p a = true
    · rw [List.filter_cons_of_pos hp, List.filter_cons_of_pos (ha hp)] at hl
      simp only [List.length_cons] at hl
      have ih := filter_eq_of l (fun x hx => h x (by simp [hx])) (by omega)
      intro x hx
      rcases List.mem_cons.mp hx with rfl | hx
      · rw [hp, ha hp]
      · exact ih x hx
    · rw [List.filter_cons_of_neg hp] at hl
      by_cases hq : q a = true
      · rw [List.filter_cons_of_pos hq] at hl
        simp only [List.length_cons] at hl
        omega
      · rw [List.filter_cons_of_neg hq] at hl
        have ih := filter_eq_of l (fun x hx => h x (by simp [hx])) hl
        intro x hx
        rcases List.mem_cons.mp hx with rfl | hx
        · rw [Bool.not_eq_true] at hp hq
          rw [hp, hq]
        · exact ih x hx
theorem grows (fs : List Nat) (s j : Nat) (h : s.testBit j = true) : (withFr fs s).testBit j = true := by
  rw [withFr_bit, h, Bool.true_or]
theorem rest_or (n : Nat) (fs : List Nat) (s : Nat) : Ks566.set n (withFr fs s) = Ks566.set n s ∨ (Ks566.set n s).length + 1 ≤ (Ks566.set n (withFr fs s)).length := by
  by_cases h : (Ks566.set n (withFr fs s)).length ≤ (Ks566.set n s).length
  · left
    have e := filter_eq_of (p := fun i => s.testBit i) (q := fun i => (withFr fs s).testBit i) (List.range n) (fun x _ => grows fs s x) h
    exact set_congr fun i hi => (e i (List.mem_range.mpr hi)).symm
  · right
    omega
theorem set_len (n s : Nat) : (Ks566.set n s).length ≤ n := by
  unfold Ks566.set
  have := List.length_filter_le (fun i => s.testBit i) (List.range n)
  rwa [List.length_range] at this
/-- at rest, or k more than at the start -/
theorem rest_at {n : Nat} {fs : List Nat} (hn : fs.length = n) {i : Nat} (hi : i < n) : ∀ k, way ⟨n, fs⟩ i (k + 1) = way ⟨n, fs⟩ i k ∨ k + 2 ≤ (way ⟨n, fs⟩ i (k + 1)).length
  | 0 => by
    have h := rest_or n fs (it fs (2 ^ i) 0)
    rw [way_set hn hi, way_set hn hi]
    rcases h with h | h
    · exact .inl h
    · right
      have e : (Ks566.set n (it fs (2 ^ i) 0)).length = 1 := by
        show (Ks566.set n (2 ^ i)).length = 1
        rw [set_one hi]
        rfl
      rw [e] at h
      exact h
  | k + 1 => by
    rcases rest_at hn hi k with h | h
    · left
      rw [way_succ, way_succ _ _ k, ← way_succ, h, ← way_succ, h]
    · have h2 := rest_or n fs (it fs (2 ^ i) (k + 1))
      rw [way_set hn hi] at h
      rw [way_set hn hi, way_set hn hi]
      rcases h2 with h2 | h2
      · exact .inl h2
      · right
        show k + 1 + 2 ≤ (Ks566.set n (withFr fs (it fs (2 ^ i) (k + 1)))).length
        omega
theorem rest {n : Nat} {fs : List Nat} (hn : fs.length = n) {i : Nat} (hi : i < n) : way ⟨n, fs⟩ i n = way ⟨n, fs⟩ i (n - 1) := by
  obtain ⟨m, rfl⟩ : ∃ m, n = m + 1 := ⟨n - 1, by omega⟩
  rcases rest_at hn hi m with h | h
  · exact h
  · rw [way_set hn hi] at h
    have := set_len (m + 1) (it fs (2 ^ i) (m + 1))
    omega
theorem reach_from {n : Nat} {fs : List Nat} (hn : fs.length = n) {i j : Nat} (hi : i < n) (hj : j < n) : (Ks569.from_ ⟨n, fs⟩ i).contains j = (reach fs i).testBit j := by
  show (way ⟨n, fs⟩ i n).contains j = _
  rw [rest hn hi, way_set hn hi, set_contains hj]
  unfold reach
  rw [hn]
/-! ## ways lead on -/
theorem reach_self {n : Nat} {fs : List Nat} (i : Nat) : (reach fs i).testBit i = true := by
  unfold reach
  generalize fs.length - 1 = k
  induction k with
  | zero =>
    show (2 ^ i).testBit i = true
    exact Nat.testBit_two_pow_self
  | succ k ih => exact grows fs _ _ ih
theorem reach_step {n : Nat} {fs : List Nat} (hn : fs.length = n) {i : Nat} (hi : i < n) {a b : Nat} (ha : a < n) (hb : b < n) (h : (reach fs i).testBit a = true) (hf : (fs.getD a 0).testBit b = true) : (reach fs i).testBit b = true := by
  have e : Ks566.set n (withFr fs (reach fs i)) = Ks566.set n (reach fs i) := by
    have r := rest hn hi
    obtain ⟨m, rfl⟩ : ∃ m, n = m + 1 := ⟨n - 1, by omega⟩
    rw [way_set hn hi, way_set hn hi] at r
    unfold reach
    rw [hn]
    exact r
  have h2 : (withFr fs (reach fs i)).testBit b = true := by
    rw [withFr_bit, Bool.or_eq_true, List.any_eq_true]
    right
    exact ⟨a, List.mem_range.mpr (by omega), by rw [h, hf]; rfl⟩
  have h3 : b ∈ Ks566.set n (withFr fs (reach fs i)) := mem_set.mpr ⟨hb, h2⟩
  rw [e] at h3
  exact (mem_set.mp h3).2
theorem reach_trans {n : Nat} {fs : List Nat} (hn : fs.length = n) {i j : Nat} (hi : i < n) (hj : j < n) (h : (reach fs i).testBit j = true) : ∀ (k b : Nat), b < n → (it fs (2 ^ j) k).testBit b = true → (reach fs i).testBit b = true
  | 0, b, hb, hk => by
    have hk' : (2 ^ j).testBit b = true := hk
    rw [Nat.testBit_two_pow, decide_eq_true_eq] at hk'
    rw [← hk']
    exact h
  | k + 1, b, hb, hk => by
    have hk' : (withFr fs (it fs (2 ^ j) k)).testBit b = true := hk
    rw [withFr_bit, Bool.or_eq_true, List.any_eq_true] at hk'
    rcases hk' with hk' | ⟨a, ha, hab⟩
    · exact reach_trans hn hi hj h k b hb hk'
    · rw [Bool.and_eq_true] at hab
      have ha' : a < n := by
        have := List.mem_range.mp ha
        omega
      exact reach_step hn hi ha' hb (reach_trans hn hi hj h k a ha' hab.1) hab.2
/-! ## rings -/
/-- ways both ways -/
def bothWays (R : List Nat) (i j : Nat) : Bool := (R.getD i 0).testBit j && (R.getD j 0).testBit i
def firstOf (R : List Nat) (i : Nat) : Nat := ((List.range i).find? fun j => bothWays R i j).getD i
def reaches (n : Nat) (fs : List Nat) : List Nat := (List.range n).map (reach fs)
theorem reaches_get {n : Nat} {fs : List Nat} {i : Nat} (h : i < n) : (reaches n fs).getD i 0 = reach fs i := by
  unfold reaches
  simp [h]
theorem firstOf_le (R : List Nat) (i : Nat) : firstOf R i ≤ i := by
  unfold firstOf
  cases e : (List.range i).find? fun j => bothWays R i j with
  | none => exact Nat.le_refl _
  | some j =>
    have := List.mem_range.mp (List.mem_of_find?_eq_some e)
    show j ≤ i
    omega
theorem firstOf_least {R : List Nat} {i k : Nat} (h : k < firstOf R i) : bothWays R i k = false := by
  unfold firstOf at h
  cases e : (List.range i).find? fun j => bothWays R i j with
  | none =>
    rw [e] at h
    have h : k < i := h
    rw [List.find?_eq_none] at e
    have := e k (List.mem_range.mpr h)
    simpa using this
  | some j =>
    rw [e] at h
    have h : k < j := h
    rw [List.find?_range_eq_some] at e
    have := e.2.2 k h
    simpa using this
theorem firstOf_mut {R : List Nat} {i : Nat} (hr : bothWays R i i = true) : bothWays R i (firstOf R i) = true := by
  unfold firstOf
  cases e : (List.range i).find? fun j => bothWays R i j with
  | none => exact hr
  | some j => exact List.find?_some (p := fun j => bothWays R i j) e
theorem mut_self {n : Nat} {fs : List Nat} {i : Nat} (h : i < n) : bothWays (reaches n fs) i i = true := by
  unfold bothWays
  rw [reaches_get h, reach_self (n := n)]
  rfl
theorem mut_symm {R : List Nat} {i j : Nat} (h : bothWays R i j = true) : bothWays R j i = true := by
  unfold bothWays at h ⊢
  rw [Bool.and_comm]
  exact h
theorem mut_trans {n : Nat} {fs : List Nat} (hn : fs.length = n) {i j k : Nat} (hi : i < n) (hj : j < n) (hk : k < n) (h1 : bothWays (reaches n fs) i j = true) (h2 : bothWays (reaches n fs) j k = true) : bothWays (reaches n fs) i k = true := by
  unfold bothWays at h1 h2 ⊢
  rw [reaches_get hi, reaches_get hj, Bool.and_eq_true] at h1
  rw [reaches_get hj, reaches_get hk, Bool.and_eq_true] at h2
  rw [reaches_get hi, reaches_get hk, Bool.and_eq_true]
  exact ⟨reach_trans hn hi hj h1.1 _ k hk h2.1, reach_trans hn hk hj h2.2 _ i hi h1.2⟩
theorem least_rings {n : Nat} {fs : List Nat} (hn : fs.length = n) : Least (firstOf (reaches n fs)) n where
  le i _ := firstOf_le _ i
  idem i hi := by
    have hj : firstOf (reaches n fs) i < n := Nat.lt_of_le_of_lt (firstOf_le _ i) hi
    have m1 := firstOf_mut (mut_self (n := n) (fs := fs) hi)
    have m2 := firstOf_mut (mut_self (n := n) (fs := fs) hj)
    have hk := firstOf_le (reaches n fs) (firstOf (reaches n fs) i)
    by_cases e : firstOf (reaches n fs) (firstOf (reaches n fs) i) = firstOf (reaches n fs) i
    · exact e
    · have z := firstOf_least (R := reaches n fs) (i := i) (k := firstOf (reaches n fs) (firstOf (reaches n fs) i)) (by omega)
      rw [mut_trans hn hi hj (by omega) m1 m2] at z
      cases z
theorem find_range {n i : Nat} (hi : i < n) {p : Nat → Bool} (hp : p i = true) : ((List.range n).find? p).getD i = ((List.range i).find? p).getD i := by
  cases e : (List.range i).find? p with
  | some j =>
    rw [List.find?_range_eq_some] at e
    have : (List.range n).find? p = some j := by
      rw [List.find?_range_eq_some]
      have := List.mem_range.mp e.2.1
      exact ⟨e.1, List.mem_range.mpr (by omega), e.2.2⟩
    rw [this]
  | none =>
    rw [List.find?_eq_none] at e
    have : (List.range n).find? p = some i := by
      rw [List.find?_range_eq_some]
      refine ⟨hp, List.mem_range.mpr hi, fun j hj => ?_⟩
      have := e j (List.mem_range.mpr hj)
      simpa using this
    rw [this]
    rfl
theorem rings_eq {n : Nat} {fs : List Nat} (hn : fs.length = n) : Ks569.rings ⟨n, fs⟩ = nums (firstOf (reaches n fs)) n := by
  rw [← tidy_eq (least_rings hn)]
  unfold Ks569.rings
  congr 1
  refine List.map_congr_left fun i hi => ?_
  have hi' : i < n := List.mem_range.mp hi
  have e : (List.range n).find? (fun j => (Ks569.from_ ⟨n, fs⟩ i).contains j && (Ks569.from_ ⟨n, fs⟩ j).contains i) = (List.range n).find? (fun j => bothWays (reaches n fs) i j) := by
    have : ∀ l : List Nat, (∀ x ∈ l, x < n) → l.find? (fun j => (Ks569.from_ ⟨n, fs⟩ i).contains j && (Ks569.from_ ⟨n, fs⟩ j).contains i) = l.find? (fun j => bothWays (reaches n fs) i j) := by
      intro l
      induction l with
      | nil =>
        intro _
        rfl
      | cons a l ih =>
        intro h
        have ha : a < n := h a (by simp)
        rw [List.find?_cons, List.find?_cons, ih fun x hx => h x (by simp [hx])]
        have : ((Ks569.from_ ⟨n, fs⟩ i).contains a && (Ks569.from_ ⟨n, fs⟩ a).contains i) = bothWays (reaches n fs) i a := by
          rw [reach_from hn hi' ha, reach_from hn ha hi']
          unfold bothWays
          rw [reaches_get hi', reaches_get ha]
        rw [this]
    exact this _ fun x hx => List.mem_range.mp hx
  show ((List.range n).find? (fun j => (Ks569.from_ ⟨n, fs⟩ i).contains j && (Ks569.from_ ⟨n, fs⟩ j).contains i)).getD i = _
  rw [e, find_range hi' (mut_self hi')]
  rfl
end Rh
namespace Rh
/-! ## what is handed in -/
def good (n : Nat) (fs : List Nat) (i : Nat) : Bool := !(decide (2 ^ n ≤ fs.getD i 0) || (fs.getD i 0).testBit i)
def told (n : Nat) (fs : List Nat) : Bool := decide (1 ≤ n ∧ n ≤ 5 ∧ fs.length = n ∧ ∀ i, i < n → good n fs i = true)
theorem told_iff {n : Nat} {fs : List Nat} : told n fs = true ↔ 1 ≤ n ∧ n ≤ 5 ∧ fs.length = n ∧ ∀ i, i < n → good n fs i = true := by
  unfold told
  rw [decide_eq_true_eq]
theorem ties_told {n : Nat} {fs : List Nat} : Ks569.tiesOf n fs = if told n fs = true then some ⟨n, fs⟩ else none := by
  unfold Ks569.tiesOf
  by_cases h : told n fs = true
  · rw [if_pos h, if_neg]
    rw [told_iff] at h
    obtain ⟨h1, h2, h3, h4⟩ := h
    rintro (z | z | z | z)
    · omega
    · have z : 5 < n := z
      omega
    · exact z h3
    · rw [List.any_eq_true] at z
      obtain ⟨i, hi, z⟩ := z
      have := h4 i (List.mem_range.mp hi)
      unfold good at this
      rw [z] at this
      cases this
  · rw [if_neg h, if_pos]
    by_cases h1 : n < 1
    · exact .inl h1
    by_cases h2 : Ks565.PEOPLE < n
    · exact .inr (.inl h2)
    by_cases h3 : fs.length = n
    · right; right; right
      rw [told_iff] at h
      have h2' : ¬ 5 < n := h2
      have h4 : ¬ ∀ i, i < n → good n fs i = true := fun z => h ⟨by omega, by omega, h3, z⟩
      rw [List.any_eq_true]
      refine Classical.byContradiction fun z => h4 fun i hi => ?_
      unfold good
      rw [Bool.not_eq_true', ← Bool.not_eq_true]
      exact fun y => z ⟨i, List.mem_range.mpr hi, y⟩
    · exact .inr (.inr (.inl h3))
/-- numbers of the document as Python's -/
def asInts (l : List Nat) : List Int := l.map fun (x : Nat) => (x : Int)
theorem nats_asInts (l : List Nat) : Ks569Neutral.nats (asInts l) = l := by
  unfold Ks569Neutral.nats asInts
  rw [List.map_map]
  conv => rhs; rw [← List.map_id l]
  refine List.map_congr_left fun x _ => ?_
  exact Int.toNat_natCast x
theorem ties_due {n : Nat} {fs : List Nat} {g : Ks569.Ties → Ks569.Ans} : Ks569.ties n fs g = if told n fs = true then g ⟨n, fs⟩ else Ks569.no (-22) := by
  unfold Ks569.ties
  rw [ties_told]
  by_cases h : told n fs = true
  · rw [if_pos h, if_pos h]
  · rw [if_neg h, if_neg h]
theorem rings_due {n : Nat} {fs : List Nat} : PyKs569.rings (n : Int) (asInts fs) = if told n fs = true then ((reps (firstOf (reaches n fs)) n).length : Int) :: asInts (nums (firstOf (reaches n fs)) n) else [-22] := by
  show Ks569Neutral.out (Ks569.answer (.rings (Int.toNat (n : Int)) (Ks569Neutral.nats (asInts fs)))) = _
  rw [nats_asInts, Int.toNat_natCast]
  show Ks569Neutral.out (Ks569.ties n fs _) = _
  rw [ties_due]
  by_cases h : told n fs = true
  · rw [if_pos h, if_pos h]
    obtain ⟨h1, _, h3, _⟩ := told_iff.mp h
    show (Ks565.groups (Ks569.rings ⟨n, fs⟩) : Int) :: Ks565.ints (Ks569.rings ⟨n, fs⟩) = _
    rw [rings_eq h3, groups_eq (least_rings h3) h1]
    rfl
  · rw [if_neg h, if_neg h]
    rfl
theorem peeled_due {n : Nat} {fs : List Nat} : PyKs569.peeled (n : Int) (asInts fs) = if told n fs = true then ((Ks569.peeled ⟨n, fs⟩).length : Int) :: asInts (Ks569.peeled ⟨n, fs⟩) else [-22] := by
  show Ks569Neutral.out (Ks569.answer (.peeled (Int.toNat (n : Int)) (Ks569Neutral.nats (asInts fs)))) = _
  rw [nats_asInts, Int.toNat_natCast]
  show Ks569Neutral.out (Ks569.ties n fs _) = _
  rw [ties_due]
  by_cases h : told n fs = true
  · rw [if_pos h, if_pos h]
    rfl
  · rw [if_neg h, if_neg h]
    rfl
end Rh
namespace Rh
open Ks569 (Ties friend)
/-! ## sizes -/
theorem size_zero (w : Nat) : Ks569.size w 0 = 0 := by
  unfold Ks569.size Ks566.set
  simp
theorem size_half (w s : Nat) : Ks569.size (w + 1) s = s % 2 + Ks569.size w (s / 2) := by
  unfold Ks569.size Ks566.set
  rw [List.range_succ_eq_map, List.filter_cons]
  have e : ((List.range w).map Nat.succ).filter (fun i => s.testBit i) = ((List.range w).filter fun i => (s / 2).testBit i).map Nat.succ := by
    rw [List.filter_map]
    congr 1
    refine List.filter_congr fun i _ => ?_
    show s.testBit (i + 1) = _
    rw [Nat.testBit_succ]
  rw [e]
  by_cases h : s.testBit 0 = true
  · rw [if_pos h, List.length_cons, List.length_map]
    rw [Nat.testBit_zero, decide_eq_true_eq] at h
    omega
  · rw [if_neg h, List.length_map]
    rw [Nat.testBit_zero, decide_eq_true_eq] at h
    omega
/-! ## close -/
def isClose (fs : List Nat) (s : Nat) : Bool := (List.range fs.length).all fun i => !(s.testBit i && (s &&& (fs.getD i 0 ||| 2 ^ i) != s))
theorem and_eq_iff {s t : Nat} : s &&& t = s ↔ ∀ j, s.testBit j = true → t.testBit j = true := by
  constructor
  · intro h j hj
    rw [← h, Nat.testBit_and, Bool.and_eq_true] at hj
    exact hj.2
  · intro h
    refine Nat.eq_of_testBit_eq fun j => ?_
    rw [Nat.testBit_and]
    cases e : s.testBit j with
    | false => rfl
    | true => rw [h j e]; rfl
theorem bit_lt {n s j : Nat} (h : s < 2 ^ n) (hj : s.testBit j = true) : j < n := by
  refine Classical.byContradiction fun z => ?_
  have : s.testBit j = false := Nat.testBit_lt_two_pow (Nat.lt_of_lt_of_le h (Nat.pow_le_pow_right (by omega) (by omega)))
  rw [this] at hj
  cases hj
theorem close_iff {n : Nat} {fs : List Nat} {s : Nat} : Ks569.close ⟨n, fs⟩ s = true ↔ ∀ i, i < n → s.testBit i = true → ∀ j, j < n → s.testBit j = true → i = j ∨ (fs.getD i 0).testBit j = true := by
  unfold Ks569.close
  rw [List.all_eq_true]
  constructor
  · intro h i hi si j hj sj
    have h1 := h i (mem_set.mpr ⟨hi, si⟩)
    rw [List.all_eq_true] at h1
    have h2 := h1 j (mem_set.mpr ⟨hj, sj⟩)
    rw [Bool.or_eq_true, beq_iff_eq] at h2
    exact h2
  · intro h i hi
    obtain ⟨hi, si⟩ := mem_set.mp hi
    rw [List.all_eq_true]
    intro j hj
    obtain ⟨hj, sj⟩ := mem_set.mp hj
    rw [Bool.or_eq_true, beq_iff_eq]
    exact h i hi si j hj sj
theorem close_eq {n : Nat} {fs : List Nat} (hn : fs.length = n) {s : Nat} (hs : s < 2 ^ n) : isClose fs s = Ks569.close ⟨n, fs⟩ s := by
  rw [Bool.eq_iff_iff, close_iff]
  unfold isClose
  rw [List.all_eq_true, hn]
  constructor
  · intro h i hi si j hj sj
    have h1 := h i (List.mem_range.mpr hi)
    rw [si, Bool.true_and, Bool.not_eq_true', bne_eq_false_iff_eq, and_eq_iff] at h1
    have h2 := h1 j sj
    rw [Nat.testBit_or, Nat.testBit_two_pow, Bool.or_eq_true, decide_eq_true_eq] at h2
    rcases h2 with h2 | h2
    · exact .inr h2
    · exact .inl h2
  · intro h i hi
    have hi := List.mem_range.mp hi
    cases si : s.testBit i with
    | false => rfl
    | true =>
      rw [Bool.true_and, Bool.not_eq_true', bne_eq_false_iff_eq, and_eq_iff]
      intro j sj
      rw [Nat.testBit_or, Nat.testBit_two_pow, Bool.or_eq_true, decide_eq_true_eq]
      rcases h i hi si j (bit_lt hs sj) sj with h2 | h2
      · exact .inr h2
      · exact .inl h2
/-! ## the greatest -/
/-- one turn -/
def better (t : Ties) (left b s : Nat) : Nat := if (s &&& left) == s && Ks569.close t s && decide (Ks569.size t.n b < Ks569.size t.n s) then s else b
/-- the best of those below m -/
def best (t : Ties) (left m : Nat) : Nat := (List.range m).foldl (better t left) 0
theorem best_succ (t : Ties) (left m : Nat) : best t left (m + 1) = better t left (best t left m) m := by
  unfold best
  rw [List.range_succ, List.foldl_append]
  rfl
theorem best_past (t : Ties) (left : Nat) : ∀ k, best t left (left + 1 + k) = best t left (left + 1)
  | 0 => rfl
  | k + 1 => by
    rw [← Nat.add_assoc, best_succ, best_past t left k]
    unfold better
    rw [if_neg]
    intro z
    rw [Bool.and_eq_true, Bool.and_eq_true, beq_iff_eq] at z
    have h1 := z.1.1
    have h2 : (left + 1 + k) &&& left ≤ left := Nat.and_le_right
    omega
theorem greatest_eq {t : Ties} {left : Nat} (h : left < 2 ^ t.n) : Ks569.greatest t left = best t left (left + 1) := by
  have e : best t left (2 ^ t.n) = best t left (left + 1) := by
    have : 2 ^ t.n = left + 1 + (2 ^ t.n - (left + 1)) := by omega
    rw [this]
    exact best_past t left _
  rw [← e]
  rfl
/-- what may be taken -/
def fits (t : Ties) (left s : Nat) : Prop := s &&& left = s ∧ Ks569.close t s = true
theorem close_zero (t : Ties) : Ks569.close t 0 = true := by
  cases t with
  | mk n fs =>
    rw [close_iff]
    intro i _ z
    simp at z
theorem best_fits (t : Ties) (left : Nat) : ∀ m, fits t left (best t left m)
  | 0 => ⟨Nat.zero_and _, close_zero t⟩
  | m + 1 => by
    rw [best_succ]
    unfold better
    split
    · next h =>
      rw [Bool.and_eq_true, Bool.and_eq_true, beq_iff_eq] at h
      exact h.1
    · exact best_fits t left m
theorem best_most (t : Ties) (left : Nat) {s : Nat} (h : fits t left s) : ∀ m, s < m → Ks569.size t.n s ≤ Ks569.size t.n (best t left m)
  | 0, z => by omega
  | m + 1, hm => by
    rw [best_succ]
    unfold better
    by_cases e : s = m
    · subst e
      split
      · exact Nat.le_refl _
      · next z =>
        rw [h.1, h.2, beq_self_eq_true, Bool.true_and, Bool.true_and, decide_eq_true_eq] at z
        omega
    · have ih := best_most t left h m (by omega)
      split
      · next z =>
        rw [Bool.and_eq_true, decide_eq_true_eq] at z
        omega
      · exact ih
theorem sub_le {s left : Nat} (h : s &&& left = s) : s ≤ left := by
  rw [← h]
  exact Nat.and_le_right
theorem size_one {n i : Nat} (h : i < n) : Ks569.size n (2 ^ i) = 1 := by
  unfold Ks569.size
  rw [set_one h]
  rfl
theorem close_one {t : Ties} {i : Nat} : Ks569.close t (2 ^ i) = true := by
  cases t with
  | mk n fs =>
    rw [close_iff]
    intro a _ ha b _ hb
    rw [Nat.testBit_two_pow, decide_eq_true_eq] at ha hb
    omega
theorem exists_bit {n s : Nat} (h : s < 2 ^ n) (h0 : s ≠ 0) : ∃ i, i < n ∧ s.testBit i = true := by
  obtain ⟨i, hi⟩ := Nat.exists_testBit_of_ne_zero h0
  exact ⟨i, bit_lt h hi, hi⟩
theorem best_pos {t : Ties} {left : Nat} (h : left < 2 ^ t.n) (h0 : left ≠ 0) : 1 ≤ Ks569.size t.n (best t left (left + 1)) := by
  obtain ⟨i, hi, hb⟩ := exists_bit h h0
  have f : fits t left (2 ^ i) := by
    refine ⟨?_, close_one⟩
    rw [and_eq_iff]
    intro j hj
    rw [Nat.testBit_two_pow, decide_eq_true_eq] at hj
    rw [← hj]
    exact hb
  have := best_most t left f (left + 1) (by have := sub_le f.1; omega)
  rw [size_one hi] at this
  exact this
theorem size_sub {n s left : Nat} (h : s &&& left = s) : Ks569.size n (left ^^^ s) + Ks569.size n s = Ks569.size n left := by
  unfold Ks569.size Ks566.set
  induction n with
  | zero => rfl
  | succ n ih =>
    rw [List.range_succ, List.filter_append, List.filter_append, List.filter_append, List.length_append, List.length_append, List.length_append]
    have e : ([n].filter fun i => (left ^^^ s).testBit i).length + ([n].filter fun i => s.testBit i).length = ([n].filter fun i => left.testBit i).length := by
      have h1 : s.testBit n = true → left.testBit n = true := and_eq_iff.mp h n
      cases e1 : s.testBit n with
      | true =>
        have e2 := h1 e1
        simp [e1, e2]
      | false =>
        cases e2 : left.testBit n with
        | true => simp [e1, e2]
        | false => simp [e1, e2]
    omega
theorem xor_lt {n s left : Nat} (hs : s < 2 ^ n) (hl : left < 2 ^ n) : left ^^^ s < 2 ^ n := Nat.xor_lt_two_pow hl hs
/-- one more is peeled -/
theorem peel_step {t : Ties} {left f : Nat} (h : left < 2 ^ t.n) (h0 : left ≠ 0) (hf : Ks569.size t.n left ≤ f) : ∃ f', Ks569.peel t f left = best t left (left + 1) :: Ks569.peel t f' (left ^^^ best t left (left + 1)) ∧ left ^^^ best t left (left + 1) < 2 ^ t.n ∧ Ks569.size t.n (left ^^^ best t left (left + 1)) ≤ f' ∧ Ks569.size t.n (left ^^^ best t left (left + 1)) < Ks569.size t.n left ∧ f = f' + 1 := by
  have b1 := best_pos h h0
  have b2 := best_fits t left (left + 1)
  have b3 := size_sub (n := t.n) b2.1
  obtain ⟨f', rfl⟩ : ∃ f', f = f' + 1 := ⟨f - 1, by omega⟩
  refine ⟨f', ?_, xor_lt (Nat.lt_of_le_of_lt (sub_le b2.1) h) h, by omega, by omega, rfl⟩
  show (if left = 0 then [] else Ks569.greatest t left :: Ks569.peel t f' (left ^^^ Ks569.greatest t left)) = _
  rw [if_neg h0, greatest_eq h]
theorem peel_zero (t : Ties) : ∀ f, Ks569.peel t f 0 = []
  | 0 => rfl
  | f + 1 => by
    show (if 0 = 0 then [] else _) = []
    rw [if_pos rfl]
theorem peel_len (t : Ties) : ∀ f left, (Ks569.peel t f left).length ≤ f
  | 0, _ => Nat.le_refl _
  | f + 1, left => by
    show (if left = 0 then [] else Ks569.greatest t left :: Ks569.peel t f (left ^^^ Ks569.greatest t left)).length ≤ f + 1
    split
    · exact Nat.zero_le _
    · have := peel_len t f (left ^^^ Ks569.greatest t left)
      rw [List.length_cons]
      omega
theorem size_le (n s : Nat) : Ks569.size n s ≤ n := set_len n s
end Rh
namespace Rh
open Ks569 (Ties friend)
/-! ## what one has -/
/-- what j is worth to i -/
def val (n k : Nat) (fs : List Nat) (i j : Nat) : Int := if (fs.getD i 0).testBit j then (if k = 0 then (n : Int) else 1) else (if k = 0 then -1 else -(n : Int))
theorem rows_get {α : Type} {d : α} {n : Nat} (f : Nat → Nat → α) : ∀ (m i j : Nat), i < m → j < n → ((List.range m).flatMap fun i => (List.range n).map (f i)).getD (i * n + j) d = f i j := by
  intro m
  induction m with
  | zero =>
    intro i j hi
    omega
  | succ m ih =>
    intro i j hi hj
    have hlen : ∀ m, ((List.range m).flatMap fun i => (List.range n).map (f i)).length = m * n := by
      intro m
      induction m with
      | zero => simp
      | succ m ih =>
        rw [List.range_succ, List.flatMap_append, List.length_append, ih, Nat.succ_mul]
        simp
    rw [List.range_succ, List.flatMap_append]
    by_cases e : i = m
    · subst e
      rw [List.getD_eq_getElem?_getD, List.getElem?_append_right (by rw [hlen]; omega), hlen]
      have : i * n + j - i * n = j := by omega
      rw [this]
      simp [hj]
    · rw [List.getD_eq_getElem?_getD, List.getElem?_append_left (by
        rw [hlen]
        have : (i + 1) * n ≤ m * n := Nat.mul_le_mul_right n (by omega)
        rw [Nat.succ_mul] at this
        omega), ← List.getD_eq_getElem?_getD]
      exact ih i j (by omega) hj
theorem likes_eq {n k : Nat} {fs : List Nat} {i j : Nat} (hi : i < n) (hj : j < n) : Ks565.likes (Ks569.first ⟨n, fs⟩ k) i j = if i = j then 0 else val n k fs i j := by
  unfold Ks565.likes
  by_cases e : i = j
  · rw [if_pos e, if_pos e]
  · rw [if_neg e, if_neg e]
    have := rows_get (d := (0 : Int)) (n := n) (fun i j => if i = j then (0 : Int) else if friend ⟨n, fs⟩ i j then (if k = 0 then (n : Int) else 1) else (if k = 0 then -1 else -(n : Int))) n i j hi hj
    refine Eq.trans this ?_
    rw [if_neg e]
    rfl
/-- all that some of the first m are worth to i, together -/
def tot (n k : Nat) (fs : List Nat) (i : Nat) (p : Nat → Bool) : Nat → Int
  | 0 => 0
  | m + 1 => if p m = true ∧ i ≠ m then tot n k fs i p m + val n k fs i m else tot n k fs i p m
theorem tot_succ (n k : Nat) (fs : List Nat) (i : Nat) (p : Nat → Bool) (m : Nat) : tot n k fs i p (m + 1) = if p m = true ∧ i ≠ m then tot n k fs i p m + val n k fs i m else tot n k fs i p m := rfl
theorem fold_filter {n k : Nat} {fs : List Nat} {i : Nat} (hi : i < n) (p : Nat → Bool) : ∀ m, m ≤ n → (((List.range m).filter p).map (Ks565.likes (Ks569.first ⟨n, fs⟩ k) i)).foldl (· + ·) 0 = tot n k fs i p m
  | 0, _ => rfl
  | m + 1, h => by
    have ih := fold_filter (k := k) (fs := fs) hi p m (by omega)
    rw [List.range_succ, List.filter_append, List.map_append, List.foldl_append, ih, tot_succ]
    cases e : p m with
    | false => simp [e]
    | true =>
      have l := likes_eq (k := k) (fs := fs) hi (by omega : m < n)
      have : [m].filter p = [m] := by simp [e]
      rw [this]
      show tot n k fs i p m + Ks565.likes (Ks569.first ⟨n, fs⟩ k) i m = _
      rw [l]
      by_cases e2 : i = m
      · rw [if_pos e2, if_neg (by simp [e2])]
        omega
      · rw [if_neg e2, if_pos ⟨rfl, e2⟩]
theorem with_set {n k : Nat} {fs : List Nat} {i : Nat} (hi : i < n) (s : Nat) : Ks565.with_ (Ks569.first ⟨n, fs⟩ k) i (Ks566.set n s) = tot n k fs i (fun j => s.testBit j) n := fold_filter hi _ n (Nat.le_refl _)
theorem tot_congr {n k : Nat} {fs : List Nat} {i : Nat} {p q : Nat → Bool} : ∀ m, (∀ j, j < m → p j = q j) → tot n k fs i p m = tot n k fs i q m
  | 0, _ => rfl
  | m + 1, h => by
    rw [tot_succ, tot_succ, h m (by omega), tot_congr m fun j hj => h j (by omega)]
/-! ## groups as they are handed in -/
def firstG (gs : List Nat) (i : Nat) : Nat := ((List.range i).find? fun j => gs.getD j 0 == gs.getD i 0).getD i
theorem firstG_le (gs : List Nat) (i : Nat) : firstG gs i ≤ i := by
  unfold firstG
  cases e : (List.range i).find? fun j => gs.getD j 0 == gs.getD i 0 with
  | none => exact Nat.le_refl _
  | some j =>
    have := List.mem_range.mp (List.mem_of_find?_eq_some e)
    show j ≤ i
    omega
theorem firstG_same (gs : List Nat) (i : Nat) : gs.getD (firstG gs i) 0 = gs.getD i 0 := by
  unfold firstG
  cases e : (List.range i).find? fun j => gs.getD j 0 == gs.getD i 0 with
  | none => rfl
  | some j =>
    have := List.find?_some (p := fun j => gs.getD j 0 == gs.getD i 0) e
    exact beq_iff_eq.mp this
theorem firstG_least {gs : List Nat} {i k : Nat} (h : k < firstG gs i) : gs.getD k 0 ≠ gs.getD i 0 := by
  unfold firstG at h
  cases e : (List.range i).find? fun j => gs.getD j 0 == gs.getD i 0 with
  | none =>
    rw [e] at h
    have h : k < i := h
    rw [List.find?_eq_none] at e
    have := e k (List.mem_range.mpr h)
    simpa using this
  | some j =>
    rw [e] at h
    have h : k < j := h
    rw [List.find?_range_eq_some] at e
    have := e.2.2 k h
    simpa using this
theorem firstG_iff {gs : List Nat} {i j : Nat} : firstG gs i = firstG gs j ↔ gs.getD i 0 = gs.getD j 0 := by
  constructor
  · intro h
    rw [← firstG_same gs i, h, firstG_same]
  · intro h
    have a := firstG_same gs i
    have b := firstG_same gs j
    rcases Nat.lt_trichotomy (firstG gs i) (firstG gs j) with z | z | z
    · exact absurd (a.trans h) (firstG_least z)
    · exact z
    · exact absurd (b.trans h.symm) (firstG_least z)
theorem least_groups (gs : List Nat) (n : Nat) : Least (firstG gs) n where
  le i _ := firstG_le gs i
  idem i _ := firstG_iff.mpr (firstG_same gs i)
theorem list_eq_map (gs : List Nat) : gs = (List.range gs.length).map fun i => gs.getD i 0 := by
  refine List.ext_getElem (by simp) fun i h1 h2 => ?_
  simp [h1]
/-- tidy by other names -/
theorem firsts_map {F G : Nat → Nat} : ∀ (m : Nat), (∀ i j, i < m → j < m → (F i = F j ↔ G i = G j)) → ∃ l : List Nat, (∀ x ∈ l, x < m) ∧ ((List.range m).map F).foldl (fun l x => if l.contains x then l else l ++ [x]) [] = l.map F ∧ ((List.range m).map G).foldl (fun l x => if l.contains x then l else l ++ [x]) [] = l.map G
  | 0, _ => ⟨[], by simp, rfl, rfl⟩
  | m + 1, h => by
    obtain ⟨l, hl, e1, e2⟩ := firsts_map (F := F) (G := G) m fun i j hi hj => h i j (by omega) (by omega)
    rw [List.range_succ, List.map_append, List.map_append, List.foldl_append, List.foldl_append, e1, e2]
    have key : (l.map F).contains (F m) = (l.map G).contains (G m) := by
      rw [Bool.eq_iff_iff, List.contains_iff_mem, List.contains_iff_mem, List.mem_map, List.mem_map]
      constructor
      · rintro ⟨x, hx, e⟩
        exact ⟨x, hx, (h x m (by have := hl x hx; omega) (by omega)).mp e⟩
      · rintro ⟨x, hx, e⟩
        exact ⟨x, hx, (h x m (by have := hl x hx; omega) (by omega)).mpr e⟩
    show ∃ l', _ ∧ (if (l.map F).contains (F m) then l.map F else l.map F ++ [F m]) = _ ∧ (if (l.map G).contains (G m) then l.map G else l.map G ++ [G m]) = _
    rw [key]
    cases (l.map G).contains (G m) with
    | true => exact ⟨l, fun x hx => by have := hl x hx; omega, rfl, rfl⟩
    | false =>
      refine ⟨l ++ [m], fun x hx => ?_, ?_, ?_⟩
      · rcases List.mem_append.mp hx with hx | hx
        · have := hl x hx
          omega
        · have := List.mem_singleton.mp hx
          omega
      · rw [List.map_append]
        rfl
      · rw [List.map_append]
        rfl
theorem takeWhile_map {F G : Nat → Nat} {i : Nat} : ∀ (l : List Nat), (∀ x ∈ l, (F x = F i ↔ G x = G i)) → ((l.map F).takeWhile fun y => y != F i).length = ((l.map G).takeWhile fun y => y != G i).length
  | [], _ => rfl
  | a :: l, h => by
    have ih := takeWhile_map l fun x hx => h x (by simp [hx])
    have ha := h a (by simp)
    rw [List.map_cons, List.map_cons, List.takeWhile_cons, List.takeWhile_cons]
    by_cases e : F a = F i
    · have e2 := ha.mp e
      simp [e, e2]
    · have e2 : ¬ G a = G i := fun z => e (ha.mpr z)
      simp only [bne_iff_ne.mpr e, bne_iff_ne.mpr e2, if_true, List.length_cons, ih]
theorem tidy_map {F G : Nat → Nat} {n : Nat} (h : ∀ i j, i < n → j < n → (F i = F j ↔ G i = G j)) : Ks565.tidy ((List.range n).map F) = Ks565.tidy ((List.range n).map G) := by
  obtain ⟨l, hl, e1, e2⟩ := firsts_map n h
  unfold Ks565.tidy
  show ((List.range n).map F).map (fun x => ((((List.range n).map F).foldl (fun l x => if l.contains x then l else l ++ [x]) []).takeWhile fun y => y != x).length) = ((List.range n).map G).map (fun x => ((((List.range n).map G).foldl (fun l x => if l.contains x then l else l ++ [x]) []).takeWhile fun y => y != x).length)
  rw [e1, e2, List.map_map, List.map_map]
  refine List.map_congr_left fun i hi => ?_
  have hi' := List.mem_range.mp hi
  exact takeWhile_map l fun x hx => h x i (hl x hx) hi'
theorem tidy_groups {gs : List Nat} {n : Nat} (hn : gs.length = n) : Ks565.tidy gs = nums (firstG gs) n := by
  rw [← tidy_eq (least_groups gs n)]
  conv => lhs; rw [list_eq_map gs, hn]
  exact tidy_map fun i j _ _ => firstG_iff.symm
/-- two are in one group -/
theorem nums_same {F : Nat → Nat} {n : Nat} (L : Least F n) {i j : Nat} (hi : i < n) (hj : j < n) : (reps F (F i)).length = (reps F (F j)).length ↔ F i = F j := by
  constructor
  · intro h
    rcases Nat.lt_trichotomy (F i) (F j) with z | z | z
    · have a := reps_pos (F := F) (m := F i) (L.idem i hi)
      have b := reps_mono (F := F) (a := F i + 1) (b := F j) z
      rw [a, List.length_append] at b
      simp only [List.length_singleton] at b
      omega
    · exact z
    · have a := reps_pos (F := F) (m := F j) (L.idem j hj)
      have b := reps_mono (F := F) (a := F j + 1) (b := F i) z
      rw [a, List.length_append] at b
      simp only [List.length_singleton] at b
      omega
  · intro h
    rw [h]
theorem nums_getD {F : Nat → Nat} {m i : Nat} (h : i < m) : (nums F m).getD i 0 = (reps F (F i)).length := by
  rw [List.getD_eq_getElem?_getD, nums_get h]
  rfl
theorem worth_eq {n k : Nat} {fs gs : List Nat} (hn : gs.length = n) {i : Nat} (hi : i < n) : Ks565.worth (Ks569.first ⟨n, fs⟩ k) (Ks565.tidy gs) i = tot n k fs i (fun j => gs.getD j 0 == gs.getD i 0) n := by
  rw [tidy_groups hn]
  unfold Ks565.worth Ks565.members Ks565.with_
  rw [nums_length, nums_getD hi]
  rw [fold_filter hi _ n (Nat.le_refl _)]
  refine tot_congr n fun j hj => ?_
  rw [nums_getD hj, Bool.eq_iff_iff, beq_iff_eq, beq_iff_eq, nums_same (least_groups gs n) hj hi, firstG_iff]
theorem groups_count {n : Nat} {gs : List Nat} (hn : gs.length = n) (h : 1 ≤ n) : Ks565.groups (Ks565.tidy gs) = (reps (firstG gs) n).length := by
  rw [tidy_groups hn, groups_eq (least_groups gs n) h]
/-! ## what is due -/
def toldG (n k : Nat) (gs : List Nat) : Bool := decide (k ≤ 1 ∧ gs.length = n ∧ ∀ i, i < n → gs.getD i 0 < n)
theorem toldG_iff {n k : Nat} {gs : List Nat} : toldG n k gs = true ↔ k ≤ 1 ∧ gs.length = n ∧ ∀ i, i < n → gs.getD i 0 < n := by
  unfold toldG
  rw [decide_eq_true_eq]
theorem any_getD {n : Nat} {gs : List Nat} (hn : gs.length = n) : (gs.any fun x => decide (n ≤ x)) = true ↔ ∃ i, i < n ∧ n ≤ gs.getD i 0 := by
  rw [List.any_eq_true]
  constructor
  · rintro ⟨x, hx, h⟩
    obtain ⟨i, hi, e⟩ := List.mem_iff_getElem.mp hx
    refine ⟨i, by omega, ?_⟩
    rw [decide_eq_true_eq] at h
    have : gs.getD i 0 = x := by simp [hi, e]
    omega
  · rintro ⟨i, hi, h⟩
    have hi' : i < gs.length := by omega
    refine ⟨gs[i], List.getElem_mem hi', ?_⟩
    have : gs.getD i 0 = gs[i] := by simp [hi']
    rw [decide_eq_true_eq]
    omega
theorem both_due {n k : Nat} {fs gs : List Nat} {g : Ks565.Folk → Ks565.Groups → Ks569.Ans} : Ks569.both n k fs gs g = if told n fs = true ∧ toldG n k gs = true then g (Ks569.first ⟨n, fs⟩ k) (Ks565.tidy gs) else Ks569.no (-22) := by
  unfold Ks569.both
  rw [ties_due]
  by_cases h : told n fs = true
  · rw [if_pos h]
    by_cases h2 : toldG n k gs = true
    · have bad : ¬ (1 < k ∨ gs.length ≠ n ∨ (gs.any fun x => decide (n ≤ x)) = true) := by
        obtain ⟨a, b, c⟩ := toldG_iff.mp h2
        rintro (z | z | z)
        · omega
        · exact z b
        · obtain ⟨i, hi, hz⟩ := (any_getD b).mp z
          have := c i hi
          omega
      rw [if_neg bad, if_pos ⟨h, h2⟩]
    · have n2 : ¬ (told n fs = true ∧ toldG n k gs = true) := fun z => h2 z.2
      rw [if_neg n2, if_pos]
      by_cases a : 1 < k
      · exact .inl a
      by_cases b : gs.length = n
      · right; right
        rw [any_getD b]
        refine Classical.byContradiction fun z => h2 (toldG_iff.mpr ⟨by omega, b, fun i hi => ?_⟩)
        refine Classical.byContradiction fun y => z ⟨i, hi, by omega⟩
      · exact .inr (.inl b)
  · rw [if_neg h, if_neg (fun z => h z.1)]
theorem worths_due {n k : Nat} {fs gs : List Nat} : PyKs569.worths (n : Int) (k : Int) (asInts fs) (asInts gs) = if told n fs = true ∧ toldG n k gs = true then ((reps (firstG gs) n).length : Int) :: (List.range n).map (fun i => tot n k fs i (fun j => gs.getD j 0 == gs.getD i 0) n) else [-22] := by
  show Ks569Neutral.out (Ks569.answer (.worths (Int.toNat (n : Int)) (Int.toNat (k : Int)) (Ks569Neutral.nats (asInts fs)) (Ks569Neutral.nats (asInts gs)))) = _
  rw [nats_asInts, nats_asInts, Int.toNat_natCast, Int.toNat_natCast]
  show Ks569Neutral.out (Ks569.both n k fs gs _) = _
  rw [both_due]
  by_cases h : told n fs = true ∧ toldG n k gs = true
  · rw [if_pos h, if_pos h]
    obtain ⟨h1, _⟩ := told_iff.mp h.1
    obtain ⟨_, h2, _⟩ := toldG_iff.mp h.2
    show (Ks565.groups (Ks565.tidy gs) : Int) :: (List.range n).map (Ks565.worth (Ks569.first ⟨n, fs⟩ k) (Ks565.tidy gs)) = _
    rw [groups_count h2 h1]
    congr 1
    exact List.map_congr_left fun i hi => worth_eq h2 (List.mem_range.mp hi)
  · rw [if_neg h, if_neg h]
    rfl
/-- whether the set s would leave the groups gs -/
def wants (n k w : Nat) (fs gs : List Nat) (s : Nat) : Bool :=
  if w = 0 then s != 0 && (List.range n).all fun i => !s.testBit i || decide (tot n k fs i (fun j => gs.getD j 0 == gs.getD i 0) n < tot n k fs i (fun j => s.testBit j) n)
  else ((List.range n).all fun i => !s.testBit i || decide (tot n k fs i (fun j => gs.getD j 0 == gs.getD i 0) n ≤ tot n k fs i (fun j => s.testBit j) n)) && (List.range n).any fun i => s.testBit i && decide (tot n k fs i (fun j => gs.getD j 0 == gs.getD i 0) n < tot n k fs i (fun j => s.testBit j) n)
theorem all_filter' {p q r : Nat → Bool} : ∀ (l : List Nat), (∀ x ∈ l, p x = true → q x = r x) → (l.filter p).all q = l.all fun x => !p x || r x
  | [], _ => rfl
  | a :: l, h => by
    have ih := all_filter' (q := q) (r := r) l fun x hx => h x (by simp [hx])
    rw [List.all_cons, ← ih]
    cases e : p a with
    | true =>
      rw [List.filter_cons_of_pos e, List.all_cons, h a (by simp) e]
      rfl
    | false =>
      rw [List.filter_cons_of_neg (by simp [e])]
      rfl
theorem any_filter' {p q r : Nat → Bool} : ∀ (l : List Nat), (∀ x ∈ l, p x = true → q x = r x) → (l.filter p).any q = l.any fun x => p x && r x
  | [], _ => rfl
  | a :: l, h => by
    have ih := any_filter' (q := q) (r := r) l fun x hx => h x (by simp [hx])
    rw [List.any_cons, ← ih]
    cases e : p a with
    | true =>
      rw [List.filter_cons_of_pos e, List.any_cons, h a (by simp) e]
      rfl
    | false =>
      rw [List.filter_cons_of_neg (by simp [e])]
      rfl
theorem by_eq {n k w : Nat} {fs gs : List Nat} (hn : gs.length = n) : Ks566.by_ (Ks569.first ⟨n, fs⟩ k) w (Ks565.tidy gs) = (List.range (2 ^ n)).filter (wants n k w fs gs) := by
  unfold Ks566.by_
  refine List.filter_congr fun s _ => ?_
  unfold wants
  have c1 : ∀ i ∈ List.range n, s.testBit i = true → decide (Ks565.worth (Ks569.first ⟨n, fs⟩ k) (Ks565.tidy gs) i < Ks565.with_ (Ks569.first ⟨n, fs⟩ k) i (Ks566.set n s)) = decide (tot n k fs i (fun j => gs.getD j 0 == gs.getD i 0) n < tot n k fs i (fun j => s.testBit j) n) := fun i hi _ => by
    rw [worth_eq hn (List.mem_range.mp hi), with_set (List.mem_range.mp hi)]
  have c2 : ∀ i ∈ List.range n, s.testBit i = true → decide (Ks565.worth (Ks569.first ⟨n, fs⟩ k) (Ks565.tidy gs) i ≤ Ks565.with_ (Ks569.first ⟨n, fs⟩ k) i (Ks566.set n s)) = decide (tot n k fs i (fun j => gs.getD j 0 == gs.getD i 0) n ≤ tot n k fs i (fun j => s.testBit j) n) := fun i hi _ => by
    rw [worth_eq hn (List.mem_range.mp hi), with_set (List.mem_range.mp hi)]
  by_cases h : w = 0
  · rw [if_pos h, if_pos h]
    show (s != 0 && ((List.range n).filter fun i => s.testBit i).all fun i => decide (Ks565.worth (Ks569.first ⟨n, fs⟩ k) (Ks565.tidy gs) i < Ks565.with_ (Ks569.first ⟨n, fs⟩ k) i (Ks566.set n s))) = _
    rw [all_filter' _ c1]
  · rw [if_neg h, if_neg h]
    show (((List.range n).filter fun i => s.testBit i).all (fun i => decide (Ks565.worth (Ks569.first ⟨n, fs⟩ k) (Ks565.tidy gs) i ≤ Ks565.with_ (Ks569.first ⟨n, fs⟩ k) i (Ks566.set n s))) && ((List.range n).filter fun i => s.testBit i).any fun i => decide (Ks565.worth (Ks569.first ⟨n, fs⟩ k) (Ks565.tidy gs) i < Ks565.with_ (Ks569.first ⟨n, fs⟩ k) i (Ks566.set n s))) = _
    rw [all_filter' _ c2, any_filter' _ c1]
theorem leavers_due {n k w : Nat} {fs gs : List Nat} : PyKs569.leavers (n : Int) (k : Int) (w : Int) (asInts fs) (asInts gs) = if (told n fs = true ∧ toldG n k gs = true) ∧ w ≤ 1 then (((List.range (2 ^ n)).filter (wants n k w fs gs)).length : Int) :: asInts ((List.range (2 ^ n)).filter (wants n k w fs gs)) else [-22] := by
  show Ks569Neutral.out (Ks569.answer (.by_ (Int.toNat (n : Int)) (Int.toNat (k : Int)) (Int.toNat (w : Int)) (Ks569Neutral.nats (asInts fs)) (Ks569Neutral.nats (asInts gs)))) = _
  rw [nats_asInts, nats_asInts, Int.toNat_natCast, Int.toNat_natCast, Int.toNat_natCast]
  show Ks569Neutral.out (Ks569.both n k fs gs _) = _
  rw [both_due]
  by_cases h : told n fs = true ∧ toldG n k gs = true
  · rw [if_pos h]
    obtain ⟨_, h2, _⟩ := toldG_iff.mp h.2
    by_cases hw : w ≤ 1
    · rw [if_pos (show (told n fs = true ∧ toldG n k gs = true) ∧ w ≤ 1 from ⟨h, hw⟩), if_neg (show ¬ 1 < w by omega)]
      show Ks569Neutral.out (Ks569.told (Ks566.by_ (Ks569.first ⟨n, fs⟩ k) w (Ks565.tidy gs))) = _
      rw [by_eq h2]
      rfl
    · rw [if_neg (show ¬ ((told n fs = true ∧ toldG n k gs = true) ∧ w ≤ 1) from fun z => hw z.2), if_pos (show 1 < w by omega)]
      rfl
  · rw [if_neg h, if_neg (fun z => h z.1)]
    rfl
theorem close_due {n s : Nat} {fs : List Nat} : PyKs569.close (n : Int) (s : Int) (asInts fs) = if told n fs = true ∧ s < 2 ^ n then [if isClose fs s = true then 1 else 0, ((best ⟨n, fs⟩ s (s + 1) : Nat) : Int)] else [-22] := by
  show Ks569Neutral.out (Ks569.answer (.close (Int.toNat (n : Int)) (Int.toNat (s : Int)) (Ks569Neutral.nats (asInts fs)))) = _
  rw [nats_asInts, Int.toNat_natCast, Int.toNat_natCast]
  show Ks569Neutral.out (Ks569.ties n fs _) = _
  rw [ties_due]
  by_cases h : told n fs = true
  · rw [if_pos h]
    obtain ⟨_, _, h3, _⟩ := told_iff.mp h
    by_cases hs : s < 2 ^ n
    · rw [if_pos (show told n fs = true ∧ s < 2 ^ n from ⟨h, hs⟩), if_neg (show ¬ 2 ^ n ≤ s by omega), close_eq h3 hs, ← greatest_eq (t := ⟨n, fs⟩) hs]
      rfl
    · rw [if_neg (show ¬ (told n fs = true ∧ s < 2 ^ n) from fun z => hs z.2), if_pos (show 2 ^ n ≤ s by omega)]
      rfl
  · rw [if_neg h, if_neg (fun z => h z.1)]
    rfl
end Rh
namespace Rh
open PySem PySem.Spec PyProof.Rows L2
def topS (i : Nat) : Stmt := PySem.Challenge.pw_ringsheld_s06_close.main.body.getD i (.Pass ⟨0, 0, 0, 0⟩)
abbrev sHas : Stmt := topS 3
abbrev sTold : Stmt := topS 4
abbrev sSize : Stmt := topS 5
abbrev sClose : Stmt := topS 6
abbrev sGreat : Stmt := topS 7
abbrev sCloses : Stmt := topS 8
end Rh
namespace Rh
open PySem PySem.Spec PyProof.Rows L2
/-! ## Python's numbers and lists -/
def vals (l : List Nat) : List V := l.map fun (x : Nat) => V.int (x : Int)
theorem vals_length (l : List Nat) : (vals l).length = l.length := by
  unfold vals
  rw [List.length_map]
theorem vals_get {l : List Nat} {i : Nat} (h : i < l.length) : (vals l)[i]? = some (.int ((l.getD i 0 : Nat) : Int)) := by
  unfold vals
  rw [List.getElem?_map, List.getElem?_eq_getElem h]
  simp [h]
theorem vals_at {l : List Nat} {i : Nat} (h : i < l.length) : atI (vals l) (i : Int) = some (.int ((l.getD i 0 : Nat) : Int)) := atI_nat (vals_get h)
theorem vals_append (l r : List Nat) : vals (l ++ r) = vals l ++ vals r := by
  unfold vals
  rw [List.map_append]
theorem vals_asInts (l : List Nat) : (asInts l).map V.int = vals l := by
  unfold asInts vals
  rw [List.map_map]
  rfl
theorem shr_nat (s i : Nat) : (s : Int) / 2 ^ (i : Int).toNat = ((s / 2 ^ i : Nat) : Int) := by
  rw [Int.toNat_natCast, two_pow_cast]
  exact (Int.natCast_ediv _ _).symm
theorem shl_nat (s i : Nat) : (s : Int) * 2 ^ (i : Int).toNat = ((s * 2 ^ i : Nat) : Int) := by
  rw [Int.toNat_natCast]
  exact Bits.natCast_mul_pow s i
theorem and_nat (a b : Nat) : Builtin.bitAnd (a : Int) (b : Int) = ((a &&& b : Nat) : Int) := by
  rw [bitAnd_pp (Int.natCast_nonneg a) (Int.natCast_nonneg b), Int.toNat_natCast, Int.toNat_natCast]
theorem or_nat (a b : Nat) : Builtin.bitOr (a : Int) (b : Int) = ((a ||| b : Nat) : Int) := by
  rw [Bits.bitOr_pp (Int.natCast_nonneg a) (Int.natCast_nonneg b), Int.toNat_natCast, Int.toNat_natCast]
theorem xor_nat (a b : Nat) : Builtin.bitXor (a : Int) (b : Int) = ((a ^^^ b : Nat) : Int) := by
  rw [Bits.bitXor_pp (Int.natCast_nonneg a) (Int.natCast_nonneg b), Int.toNat_natCast, Int.toNat_natCast]
theorem eq_nat (a b : Nat) : decide (V.int (a : Int) = V.int (b : Int)) = decide (a = b) := by
  rw [Bool.eq_iff_iff, decide_eq_true_eq, decide_eq_true_eq, V.int.injEq]
  omega
theorem bit_py (s i : Nat) : decide (V.int (Builtin.bitAnd ((s : Int) / 2 ^ (i : Int).toNat) 1) = V.int 1) = s.testBit i := by
  rw [shr_nat, show (1 : Int) = ((1 : Nat) : Int) from rfl, and_nat, eq_nat, Nat.testBit_eq_decide_div_mod_eq, Nat.and_one_is_mod]
theorem qv {Q : V → Hp → Prop} {v u : V} {H : Hp} (e : v = u) (h : Q u H) : Q v H := by
  rw [e]
  exact h
theorem if_t {c : Bool} {A B : Prop} (hc : c = true) (h : A) : if c = true then A else B := by
  rw [if_pos hc]
  exact h
theorem if_f {c : Bool} {A B : Prop} (hc : c = false) (h : B) : if c = true then A else B := by
  rw [hc, if_neg Bool.false_ne_true]
  exact h
theorem nn_int {z : Int} (h : PySem.W.Codec.inInt 0 4294967295 z = true) : ∃ n : Nat, z = (n : Int) := Int.eq_ofNat_of_zero_le (PySem.W.Codec.inInt_iff.mp h).1
theorem nn_list : ∀ {l : List Int}, l.all (PySem.W.Codec.inInt 0 4294967295) = true → ∃ fs : List Nat, l = asInts fs
  | [], _ => ⟨[], rfl⟩
  | z :: l, h => by
    rw [List.all_cons, Bool.and_eq_true] at h
    obtain ⟨n, hn⟩ := nn_int h.1
    obtain ⟨fs, hf⟩ := nn_list h.2
    exact ⟨n :: fs, by rw [hn, hf]; rfl⟩
theorem asInts_length (l : List Nat) : (asInts l).length = l.length := by
  unfold asInts
  rw [List.length_map]
theorem same_upd {H : Hp} {p : Addr} {o : HO} (h : H p = none) : Same H (upd H p o) := fun b x e => by
  rw [upd_ne (ne_of_none e h)]
  exact e
end Rh
namespace Rh
open PySem PySem.Spec PyProof.Rows L2
section
variable {P : Program} {w : World} {K : PySem.W.Frag} {mg : Str → Option Value} {base : Heap}
/-! ## has_person -/
theorem scHas : FnScope ["s", "i"] ["s", "i"] (defScope sHas) := ⟨rfl, rfl, rfl, by decide +kernel, rfl, by decide +kernel, by decide +kernel⟩
def spHas : Sp := fun vs H Q _ => ∃ s i : Nat, vs = [.int (s : Int), .int (i : Int)] ∧ Q (.bl (s.testBit i)) H
theorem ok_has {f : Addr} {fd : FuncData} {k : Nat} (F : Fun K "has_person" "has_person" sHas f fd) : FnOk P w K mg base CX0 (k + 1) f fd ["s", "i"] spHas := by
  refine F.ok scHas (fun vs H Q E h => ?_) (fun cdv A outer s H vs Q E hr h => ?_)
  · obtain ⟨s, i, rfl, _⟩ := h
    rfl
  · obtain ⟨s, i, rfl, q⟩ := h
    refine ⟨_, pss_one (ps_ret (pe_cmpR op_eq (pe_op op_and (pe_op op_shr (pv 0) (pv 1)) pe_int) pe_int (nomark _))), ?_⟩
    refine ⟨_, rfl, _, rfl, _, _, rfl, rfl, Int.natCast_nonneg i, _, _, rfl, rfl, rfl, ?_⟩
    rw [bit_py]
    exact q
end
end Rh
namespace Rh
open PySem PySem.Spec PyProof.Rows L2
section
variable {P : Program} {w : World} {K : PySem.W.Frag} {mg : Str → Option Value} {base : Heap}
/-! ## friends_are_told -/
theorem good_py (n x i : Nat) : (!decide (V.int ((x : Int) / 2 ^ (n : Int).toNat) = V.int 0)) = decide (2 ^ n ≤ x) := by
  rw [shr_nat, show (0 : Int) = ((0 : Nat) : Int) from rfl, eq_nat]
  have hp : 0 < 2 ^ n := Nat.two_pow_pos n
  by_cases h : 2 ^ n ≤ x
  · have : x / 2 ^ n ≠ 0 := by
      have := Nat.div_pos h hp
      omega
    simp [h, this]
  · have : x / 2 ^ n = 0 := Nat.div_eq_of_lt (by omega)
    simp [h, this]
theorem scTold : FnScope ["n", "friends", "i"] ["n", "friends"] (defScope sTold) := ⟨rfl, rfl, rfl, by decide +kernel, rfl, by decide +kernel, by decide +kernel⟩
def spTold (K : PySem.W.Frag) : Sp := fun vs H Q _ => ∃ (n : Nat) (a : Addr) (fs : List Nat), vs = [.int (n : Int), .ref a] ∧ SqL K H a (vals fs) ∧ fs.length ≤ 7 ∧ Q (.bl (told n fs)) H
theorem told_short {n : Nat} {fs : List Nat} (h : ¬ (1 ≤ n ∧ n ≤ 5 ∧ fs.length = n)) : told n fs = false := by
  rw [← Bool.not_eq_true, told_iff]
  exact fun z => h ⟨z.1, z.2.1, z.2.2.1⟩
theorem ok_told {f fH : Addr} {fd fdH : FuncData} {tm : Tok} (F : Fun K "friends_are_told" "friends_are_told" sTold f fd) (FH : Fun K "has_person" "has_person" sHas fH fdH) (bH : Binds K fdH ["s", "i"] []) (gH : mg "has_person" = some (.ref fH))
    (gM : mg "MOST_PEOPLE" = some (.int 5 tm)) (ml : mg "len" = none) (mr : mg "range" = none) : FnOk P w K mg base CX0 2 f fd ["n", "friends"] (spTold K) := by
  have GH : FnOk P w K mg base CX0 1 fH fdH ["s", "i"] spHas := ok_has FH
  refine F.ok scTold (fun vs H Q E h => ?_) (fun cdv A outer s H vs Q E hr h => ?_)
  · obtain ⟨n, a, fs, rfl, _⟩ := h
    rfl
  · obtain ⟨n, a, fs, rfl, hS, hlen, q⟩ := h
    refine ⟨_, pss_cons (ps_if (PW.pt (pw_or (pt_cmpR op_lt (pv 0) pe_int (nomark _)) (pw_or (pt_cmpR op_gt (pv 0) (pe_glob (v := .int 5) rfl gM ⟨_, rfl⟩) (nomark _)) (pw_or1 (pt_cmpR op_ne (pe_callB call_len_seq (by rfl) ml PySem.boot_len (pa_cons (pv 1) pa_nil)) (pv 0) (nomark _)))))) (pss_one (ps_ret pe_bl)) pss_nil)
      (pss_cons (ps_for PassesOwn.never rfl (pi_range1 rfl mr (pa_cons (pv 0) pa_nil)) (pg_name (i := 2) scTold.nd rfl (.inl rfl))
        (pss_one (ps_if (PW.pt (pw_or (pt_cmpR op_ne (pe_op op_shr (pe_ix ix_list (pv 1) (pv 2) (fun _ _ => rfl)) (pv 0)) pe_int (nomark _)) (pw_or1 (pt_val (pe_call GH hr rfl gH FH.kp bH .nil pass0 (pa_cons (pe_ix ix_list (pv 1) (pv 2) (fun _ _ => rfl)) (pa_cons (pv 2) pa_nil)))))))
          (pss_one (ps_ret pe_bl)) pss_nil)))
      (pss_one (ps_ret pe_bl))), ?_⟩
    -- n < 1
    refine ⟨_, rfl, _, _, rfl, rfl, _, rfl, ?_⟩
    by_cases c1 : (n : Int) < 1
    · refine if_t (decide_eq_true c1) (iteT ?_)
      have := told_short (n := n) (fs := fs) (by omega)
      rw [this] at q
      exact q
    refine if_f (decide_eq_false c1) ?_
    -- n > MOST_PEOPLE
    refine ⟨_, rfl, _, _, rfl, rfl, _, rfl, ?_⟩
    by_cases c2 : (5 : Int) < (n : Int)
    · refine if_t (decide_eq_true c2) (iteT ?_)
      have := told_short (n := n) (fs := fs) (by omega)
      rw [this] at q
      exact q
    refine if_f (decide_eq_false c2) ?_
    -- len(friends) != n
    refine ⟨_, rfl, a, _, rfl, .inl hS, _, rfl, rfl, _, rfl, ?_⟩
    rw [vals_length, eq_nat]
    by_cases c4 : ¬ fs.length = n
    · have c3 := c4
      refine if_t (by rw [decide_eq_false c3]; rfl) ?_
      have := told_short (n := n) (fs := fs) (by omega)
      rw [this] at q
      exact q
    have c3 : fs.length = n := Classical.not_not.mp c4
    refine if_f (by rw [decide_eq_true c3]; rfl) ?_
    -- for i in range(n)
    refine ⟨_, rfl, (n : Int), rfl, by omega, by omega, for_range (lo := 0) (n := (n : Int).toNat) (fun i σ H' => (∃ y, σ = [some (.int (n : Int)), some (.ref a), y]) ∧ H' = H ∧ ∀ j, j < i → good n fs j = true) ⟨⟨none, rfl⟩, rfl, fun j hj => by omega⟩ ?_ ?_⟩
    · rintro i σ H' hi ⟨⟨y, rfl⟩, rfl, hg⟩
      rw [Int.toNat_natCast] at hi
      have hat := vals_at (l := fs) (i := i) (by omega)
      rw [Int.zero_add]
      refine ⟨_, rfl, _, rfl, a, _, _, _, rfl, rfl, hS, hat, _, rfl, _, _, rfl, rfl, Int.natCast_nonneg n, rfl, _, rfl, ?_⟩
      rw [good_py n _ i]
      by_cases d1 : 2 ^ n ≤ fs.getD i 0
      · refine if_t (decide_eq_true d1) (iteT ?_)
        have hng : good n fs i = false := by
          unfold good
          rw [decide_eq_true d1]
          rfl
        have : told n fs = false := by
          rw [← Bool.not_eq_true, told_iff]
          intro z
          rw [z.2.2.2 i hi] at hng
          cases hng
        rw [this] at q
        exact q
      refine if_f (decide_eq_false d1) ?_
      refine ⟨_, rfl, _, rfl, a, _, _, _, rfl, rfl, hS, hat, _, rfl, _, i, rfl, _, rfl, ?_⟩
      by_cases d2 : (fs.getD i 0).testBit i = true
      · refine if_t d2 ?_
        have hng : good n fs i = false := by
          unfold good
          rw [d2, Bool.or_true]
          rfl
        have : told n fs = false := by
          rw [← Bool.not_eq_true, told_iff]
          intro z
          rw [z.2.2.2 i hi] at hng
          cases hng
        rw [this] at q
        exact q
      · rw [Bool.not_eq_true] at d2
        refine if_f d2 ?_
        refine ⟨⟨_, rfl⟩, rfl, fun j hj => ?_⟩
        by_cases e : j = i
        · subst e
          unfold good
          rw [decide_eq_false d1, d2]
          rfl
        · exact hg j (by omega)
    · rintro σ H' ⟨⟨y, rfl⟩, rfl, hg⟩
      rw [Int.toNat_natCast] at hg
      have : told n fs = true := told_iff.mpr ⟨by omega, by omega, c3, hg⟩
      rw [this] at q
      exact q
end
end Rh
namespace Rh
open PySem PySem.Spec PyProof.Rows L2
section
variable {P : Program} {w : World} {K : PySem.W.Frag} {mg : Str → Option Value} {base : Heap}
theorem zero_nat : (0 : Int) = ((0 : Nat) : Int) := rfl
theorem one_nat : (1 : Int) = ((1 : Nat) : Int) := rfl
theorem one_shl (i : Nat) : (1 : Int) * 2 ^ (i : Int).toNat = ((2 ^ i : Nat) : Int) := by
  rw [one_nat, shl_nat, Nat.one_mul]
/-! ## size -/
theorem scSize : FnScope ["s", "left", "many"] ["s"] (defScope sSize) := ⟨rfl, rfl, rfl, by decide +kernel, rfl, by decide +kernel, by decide +kernel⟩
def spSize : Sp := fun vs H Q _ => ∃ s v : Nat, vs = [.int (s : Int)] ∧ s < 2 ^ v ∧ Q (.int (Ks569.size v s : Nat)) H
theorem ok_size {f : Addr} {fd : FuncData} {k : Nat} (F : Fun K "size" "size" sSize f fd) : FnOk P w K mg base CX0 (k + 1) f fd ["s"] spSize := by
  refine F.ok scSize (fun vs H Q E h => ?_) (fun cdv A outer s H vs Q E hr h => ?_)
  · obtain ⟨s, v, rfl, _⟩ := h
    rfl
  · obtain ⟨s, v0, rfl, hs, q⟩ := h
    refine ⟨_, pss_cons (ps_set (i := 1) scSize.nd rfl (.inl rfl) (pv 0))
      (pss_cons (ps_set (i := 2) scSize.nd rfl (.inl rfl) pe_int)
      (pss_cons (ps_while PassesOwn.never (pt_cmpR op_ne (pv 1) pe_int (nomark _))
        (pss_cons (ps_set (i := 2) scSize.nd rfl (.inl rfl) (pe_op op_add (pv 2) (pe_op op_and (pv 1) pe_int)))
        (pss_one (ps_set (i := 1) scSize.nd rfl (.inl rfl) (pe_op op_shr (pv 1) pe_int)))))
      (pss_one (ps_ret (pv 2))))), ?_⟩
    refine ⟨_, rfl, fun m σ H' => ∃ l c v : Nat, σ = [some (.int (s : Int)), some (.int (l : Int)), some (.int (c : Int))] ∧ H' = H ∧ l = m ∧ l < 2 ^ v ∧ c + Ks569.size v l = Ks569.size v0 s, ⟨s, s, 0, v0, rfl, rfl, rfl, hs, Nat.zero_add _⟩, ?_⟩
    rintro m σ H' ⟨l, c, v, rfl, rfl, rfl, hl, hc⟩
    refine ⟨_, rfl, rfl, _, rfl, ?_⟩
    rw [zero_nat, eq_nat]
    by_cases h0 : l = 0
    · refine if_f (by rw [decide_eq_true h0]; rfl) ?_
      rw [h0, size_zero, Nat.add_zero] at hc
      rw [← hc] at q
      exact ⟨_, rfl, q⟩
    · refine if_t (by rw [decide_eq_false h0]; rfl) ?_
      obtain ⟨v, rfl⟩ : ∃ u, v = u + 1 := by
        cases v with
        | zero =>
          rw [Nat.pow_zero] at hl
          omega
        | succ u => exact ⟨u, rfl⟩
      refine ⟨fun σ H'' => ∃ l' c v : Nat, σ = [some (.int (s : Int)), some (.int (l' : Int)), some (.int (c : Int))] ∧ H'' = H' ∧ l' = l / 2 ∧ l' < 2 ^ v ∧ c + Ks569.size v l' = Ks569.size v0 s, fun σ' H'' hN => ⟨l / 2, by omega, hN⟩, ?_⟩
      refine ⟨_, rfl, _, rfl, _, _, rfl, rfl, _, _, rfl, rfl, ?_⟩
      refine ⟨_, rfl, _, _, rfl, rfl, (by show (0 : Int) ≤ 1; decide), l / 2, c + l % 2, v, ?_, rfl, rfl, ?_, ?_⟩
      · have e1 : (c : Int) + Builtin.bitAnd (l : Int) 1 = ((c + l % 2 : Nat) : Int) := by
          rw [one_nat, and_nat, Nat.and_one_is_mod]
          omega
        have e2 : (l : Int) / 2 ^ (1 : Int).toNat = ((l / 2 : Nat) : Int) := by
          show (l : Int) / 2 = _
          omega
        show [some (V.int (s : Int)), some (V.int ((l : Int) / 2 ^ (1 : Int).toNat)), some (V.int ((c : Int) + Builtin.bitAnd (l : Int) 1))] = _
        rw [e1, e2]
      · rw [Nat.pow_succ] at hl
        omega
      · rw [size_half] at hc
        omega
end
end Rh
namespace Rh
open PySem PySem.Spec PyProof.Rows L2
section
variable {P : Program} {w : World} {K : PySem.W.Frag} {mg : Str → Option Value} {base : Heap}
/-! ## is_close -/
def closeAt (fs : List Nat) (s i : Nat) : Bool := !(s.testBit i && (s &&& (fs.getD i 0 ||| 2 ^ i) != s))
theorem isClose_t {fs : List Nat} {s : Nat} (h : ∀ i, i < fs.length → closeAt fs s i = true) : isClose fs s = true := by
  unfold isClose
  rw [List.all_eq_true]
  exact fun i hi => h i (List.mem_range.mp hi)
theorem isClose_f {fs : List Nat} {s i : Nat} (hi : i < fs.length) (h : closeAt fs s i = false) : isClose fs s = false := by
  rw [← Bool.not_eq_true]
  unfold isClose
  rw [List.all_eq_true]
  intro z
  have := z i (List.mem_range.mpr hi)
  unfold closeAt at h
  rw [h] at this
  cases this
theorem scClose : FnScope ["friends", "s", "i"] ["friends", "s"] (defScope sClose) := ⟨rfl, rfl, rfl, by decide +kernel, rfl, by decide +kernel, by decide +kernel⟩
def spClose (K : PySem.W.Frag) : Sp := fun vs H Q _ => ∃ (a : Addr) (fs : List Nat) (s : Nat), vs = [.ref a, .int (s : Int)] ∧ SqL K H a (vals fs) ∧ fs.length ≤ 7 ∧ Q (.bl (isClose fs s)) H
theorem ok_close {f fH : Addr} {fd fdH : FuncData} (F : Fun K "is_close" "is_close" sClose f fd) (FH : Fun K "has_person" "has_person" sHas fH fdH) (bH : Binds K fdH ["s", "i"] []) (gH : mg "has_person" = some (.ref fH))
    (ml : mg "len" = none) (mr : mg "range" = none) : FnOk P w K mg base CX0 2 f fd ["friends", "s"] (spClose K) := by
  have GH : FnOk P w K mg base CX0 1 fH fdH ["s", "i"] spHas := ok_has FH
  refine F.ok scClose (fun vs H Q E h => ?_) (fun cdv A outer s H vs Q E hr h => ?_)
  · obtain ⟨a, fs, s, rfl, _⟩ := h
    rfl
  · obtain ⟨a, fs, s, rfl, hS, hlen, q⟩ := h
    refine ⟨_, pss_cons (ps_for PassesOwn.never rfl (pi_range1 rfl mr (pa_cons (pe_callB call_len_seq (by rfl) ml PySem.boot_len (pa_cons (pv 0) pa_nil)) pa_nil)) (pg_name (i := 2) scClose.nd rfl (.inl rfl))
        (pss_one (ps_if (PW.pt (pw_and (pt_val (pe_call GH hr rfl gH FH.kp bH .nil pass0 (pa_cons (pv 1) (pa_cons (pv 2) pa_nil))))
          (pw_and1 (pt_cmpR op_ne (pe_op op_and (pv 1) (pe_op op_or (pe_ix ix_list (pv 0) (pv 2) (fun _ _ => rfl)) (pe_op op_shl pe_int (pv 2)))) (pv 1) (nomark _)))))
          (pss_one (ps_ret pe_bl)) pss_nil)))
      (pss_one (ps_ret pe_bl)), ?_⟩
    refine ⟨_, rfl, a, _, rfl, .inl hS, ?_⟩
    rw [vals_length]
    refine ⟨(fs.length : Int), rfl, by omega, by omega, for_range (lo := 0) (n := (fs.length : Int).toNat) (fun i σ H' => (∃ y, σ = [some (.ref a), some (.int (s : Int)), y]) ∧ H' = H ∧ ∀ j, j < i → closeAt fs s j = true) ⟨⟨none, rfl⟩, rfl, fun j hj => by omega⟩ ?_ ?_⟩
    · rintro i σ H' hi ⟨⟨y, rfl⟩, rfl, hg⟩
      rw [Int.toNat_natCast] at hi
      have hat := vals_at (l := fs) (i := i) hi
      have next : closeAt fs s i = true → ∀ j, j < i + 1 → closeAt fs s j = true := by
        intro h j hj
        by_cases e : j = i
        · rw [e]
          exact h
        · exact hg j (by omega)
      rw [Int.zero_add]
      refine ⟨_, rfl, _, rfl, s, i, rfl, _, rfl, ?_⟩
      by_cases c1 : s.testBit i = true
      · refine if_t c1 ?_
        refine ⟨_, rfl, _, rfl, _, rfl, a, _, _, _, rfl, rfl, hS, hat, _, rfl, _, _, rfl, rfl, ⟨by omega, by omega, by decide⟩, _, _, rfl, rfl, _, _, rfl, rfl, _, rfl, rfl, _, rfl, ?_⟩
        have key : (!decide (V.int (Builtin.bitAnd (s : Int) (Builtin.bitOr ((fs.getD i 0 : Nat) : Int) (1 * 2 ^ (i : Int).toNat))) = V.int (s : Int))) = !decide (s &&& (fs.getD i 0 ||| 2 ^ i) = s) := by
          rw [one_shl, or_nat, and_nat, eq_nat]
        by_cases c2 : s &&& (fs.getD i 0 ||| 2 ^ i) = s
        · refine if_f (key.trans (by rw [decide_eq_true c2]; rfl)) ?_
          refine ⟨⟨_, rfl⟩, rfl, next ?_⟩
          unfold closeAt
          rw [c1, c2, bne_self_eq_false]
          rfl
        · refine if_t (key.trans (by rw [decide_eq_false c2]; rfl)) ?_
          have : isClose fs s = false := by
            refine isClose_f hi ?_
            unfold closeAt
            rw [c1, bne_iff_ne.mpr c2]
            rfl
          rw [this] at q
          exact q
      · rw [Bool.not_eq_true] at c1
        refine if_f c1 (iteF ?_)
        refine ⟨⟨_, rfl⟩, rfl, next ?_⟩
        unfold closeAt
        rw [c1]
        rfl
    · rintro σ H' ⟨⟨y, rfl⟩, rfl, hg⟩
      rw [Int.toNat_natCast] at hg
      rw [isClose_t hg] at q
      exact q
/-! ## greatest_close -/
theorem better_t {t : Ks569.Ties} {left b s : Nat} (h1 : s &&& left = s) (h2 : Ks569.size t.n b < Ks569.size t.n s) (h3 : Ks569.close t s = true) : better t left b s = s := by
  unfold better
  rw [if_pos]
  rw [h1, h3, decide_eq_true h2, beq_self_eq_true]
  rfl
theorem better_f {t : Ks569.Ties} {left b s : Nat} (h : ¬ (s &&& left = s ∧ Ks569.size t.n b < Ks569.size t.n s ∧ Ks569.close t s = true)) : better t left b s = b := by
  unfold better
  rw [if_neg]
  intro z
  rw [Bool.and_eq_true, Bool.and_eq_true, beq_iff_eq, decide_eq_true_eq] at z
  exact h ⟨z.1.1, z.2, z.1.2⟩
theorem scGreat : FnScope ["friends", "s", "best", "t"] ["friends", "s"] (defScope sGreat) := ⟨rfl, rfl, rfl, by decide +kernel, rfl, by decide +kernel, by decide +kernel⟩
def spGreat (K : PySem.W.Frag) : Sp := fun vs H Q _ => ∃ (a : Addr) (n : Nat) (fs : List Nat) (s : Nat), vs = [.ref a, .int (s : Int)] ∧ SqL K H a (vals fs) ∧ fs.length = n ∧ n ≤ 7 ∧ s < 2 ^ n ∧ Q (.int (best ⟨n, fs⟩ s (s + 1) : Nat)) H
theorem pow_small {n : Nat} (h : n ≤ 7) : 2 ^ n ≤ 128 := Nat.pow_le_pow_right (n := 2) (by omega) h
theorem ok_great {f fS fC fH : Addr} {fd fdS fdC fdH : FuncData} (F : Fun K "greatest_close" "greatest_close" sGreat f fd) (FS : Fun K "size" "size" sSize fS fdS) (bS : Binds K fdS ["s"] []) (gS : mg "size" = some (.ref fS))
    (FC : Fun K "is_close" "is_close" sClose fC fdC) (bC : Binds K fdC ["friends", "s"] []) (gC : mg "is_close" = some (.ref fC))
    (FH : Fun K "has_person" "has_person" sHas fH fdH) (bH : Binds K fdH ["s", "i"] []) (gH : mg "has_person" = some (.ref fH))
    (ml : mg "len" = none) (mr : mg "range" = none) : FnOk P w K mg base CX0 3 f fd ["friends", "s"] (spGreat K) := by
  have GS : FnOk P w K mg base CX0 1 fS fdS ["s"] spSize := ok_size FS
  have GC : FnOk P w K mg base CX0 2 fC fdC ["friends", "s"] (spClose K) := ok_close FC FH bH gH ml mr
  refine F.ok scGreat (fun vs H Q E h => ?_) (fun cdv A outer s H vs Q E hr h => ?_)
  · obtain ⟨a, n, fs, s, rfl, _⟩ := h
    rfl
  · obtain ⟨a, n, fs, s, rfl, hS, hn, h7, hs, q⟩ := h
    have hr1 := hr.mono (j := 1) (by decide)
    refine ⟨_, pss_cons (ps_set (i := 2) scGreat.nd rfl (.inl rfl) pe_int)
      (pss_cons (ps_for PassesOwn.never rfl (pi_range1 rfl mr (pa_cons (pe_op op_add (pv 1) pe_int) pa_nil)) (pg_name (i := 3) scGreat.nd rfl (.inl rfl))
        (pss_one (ps_if (PW.pt (pw_and (pt_cmpR op_eq (pe_op op_and (pv 3) (pv 1)) (pv 3) (nomark _))
            (pw_and (pt_cmpR op_gt (pe_call GS hr1 rfl gS FS.kp bS .nil pass0 (pa_cons (pv 3) pa_nil)) (pe_call GS hr1 rfl gS FS.kp bS .nil pass0 (pa_cons (pv 2) pa_nil)) (nomark _))
            (pw_and1 (pt_val (pe_call GC hr rfl gC FC.kp bC .nil pass0 (pa_cons (pv 0) (pa_cons (pv 3) pa_nil))))))))
          (pss_one (ps_set (i := 2) scGreat.nd rfl (.inl rfl) (pv 3))) pss_nil)))
      (pss_one (ps_ret (pv 2)))), ?_⟩
    have hp := pow_small h7
    refine ⟨_, rfl, _, _, rfl, rfl, ((s : Int) + 1), rfl, by omega, by omega, ?_⟩
    have ej : ((s : Int) + 1).toNat = s + 1 := by omega
    rw [ej]
    refine for_range (lo := 0) (n := s + 1) (fun i σ H' => (∃ y, σ = [some (.ref a), some (.int (s : Int)), some (.int (best ⟨n, fs⟩ s i : Nat)), y]) ∧ H' = H) ⟨⟨none, rfl⟩, rfl⟩ ?_ ?_
    · rintro i σ H' hi ⟨⟨y, rfl⟩, rfl⟩
      rw [Int.zero_add]
      have hb : best ⟨n, fs⟩ s i < 2 ^ n := Nat.lt_of_le_of_lt (sub_le (best_fits ⟨n, fs⟩ s i).1) hs
      have no : ¬ (i &&& s = i ∧ Ks569.size n (best ⟨n, fs⟩ s i) < Ks569.size n i ∧ Ks569.close ⟨n, fs⟩ i = true) → best ⟨n, fs⟩ s (i + 1) = best ⟨n, fs⟩ s i := fun z => by
        rw [best_succ]
        exact better_f z
      refine ⟨_, rfl, _, rfl, _, _, rfl, rfl, _, rfl, rfl, _, rfl, ?_⟩
      have key : decide (V.int (Builtin.bitAnd (i : Int) (s : Int)) = V.int (i : Int)) = decide (i &&& s = i) := by
        rw [and_nat, eq_nat]
      by_cases c1 : i &&& s = i
      · refine if_t (key.trans (decide_eq_true c1)) ?_
        refine ⟨_, rfl, i, n, rfl, by omega, _, rfl, _, n, rfl, hb, _, _, rfl, rfl, _, rfl, ?_⟩
        by_cases c2 : Ks569.size n (best ⟨n, fs⟩ s i) < Ks569.size n i
        · refine if_t (decide_eq_true (by omega)) ?_
          refine ⟨_, rfl, _, rfl, a, fs, i, rfl, hS, by omega, _, rfl, ?_⟩
          have ec := close_eq hn (s := i) (by omega)
          by_cases c3 : isClose fs i = true
          · refine if_t c3 ?_
            rw [ec] at c3
            have e : best ⟨n, fs⟩ s (i + 1) = i := by
              rw [best_succ]
              exact better_t c1 c2 c3
            refine ⟨_, rfl, ⟨some (.int (i : Int)), ?_⟩, rfl⟩
            rw [e]
            rfl
          · rw [Bool.not_eq_true] at c3
            refine if_f c3 ?_
            rw [ec] at c3
            refine ⟨⟨some (.int (i : Int)), ?_⟩, rfl⟩
            rw [no fun z => by rw [z.2.2] at c3; cases c3]
            rfl
        · refine if_f (decide_eq_false (by omega)) (iteF ?_)
          refine ⟨⟨some (.int (i : Int)), ?_⟩, rfl⟩
          rw [no fun z => c2 z.2.1]
          rfl
      · refine if_f (key.trans (decide_eq_false c1)) (iteF ?_)
        refine ⟨⟨some (.int (i : Int)), ?_⟩, rfl⟩
        rw [no fun z => c1 z.1]
        rfl
    · rintro σ H' ⟨⟨y, rfl⟩, rfl⟩
      exact ⟨_, rfl, q⟩
end
end Rh
namespace Rh
open PySem PySem.Spec PyProof.Rows L2
section
variable {P : Program} {w : World} {K : PySem.W.Frag} {mg : Str → Option Value} {base : Heap}
/-! ## close -/
theorem scCloses : FnScope ["n", "s", "friends", "told"] ["n", "s", "friends"] (defScope sCloses) := ⟨rfl, rfl, rfl, by decide +kernel, rfl, by decide +kernel, by decide +kernel⟩
def spCloses (K : PySem.W.Frag) : Sp := fun vs H Q _ => ∃ (n s : Nat) (a : Addr) (fs : List Nat), vs = [.int (n : Int), .int (s : Int), .ref a] ∧ SqL K H a (vals fs) ∧ fs.length ≤ 7 ∧
  ∀ (H' : Hp) (p : Addr), H' p = some (.lst ((PyKs569.close (n : Int) (s : Int) (asInts fs)).map V.int)) → Q (.ref p) H'
theorem ok_closes {f fT fG fS fC fH : Addr} {fd fdT fdG fdS fdC fdH : FuncData} {tm tr : Tok} (F : Fun K "close" "close" sCloses f fd)
    (FT : Fun K "friends_are_told" "friends_are_told" sTold fT fdT) (bT : Binds K fdT ["n", "friends"] []) (gT : mg "friends_are_told" = some (.ref fT))
    (FG : Fun K "greatest_close" "greatest_close" sGreat fG fdG) (bG : Binds K fdG ["friends", "s"] []) (gG : mg "greatest_close" = some (.ref fG))
    (FS : Fun K "size" "size" sSize fS fdS) (bS : Binds K fdS ["s"] []) (gS : mg "size" = some (.ref fS))
    (FC : Fun K "is_close" "is_close" sClose fC fdC) (bC : Binds K fdC ["friends", "s"] []) (gC : mg "is_close" = some (.ref fC))
    (FH : Fun K "has_person" "has_person" sHas fH fdH) (bH : Binds K fdH ["s", "i"] []) (gH : mg "has_person" = some (.ref fH))
    (gM : mg "MOST_PEOPLE" = some (.int 5 tm)) (gN : mg "REFUSED" = some (.int (-22) tr)) (ml : mg "len" = none) (mr : mg "range" = none) : FnOk P w K mg base CX0 4 f fd ["n", "s", "friends"] (spCloses K) := by
  have GT : FnOk P w K mg base CX0 2 fT fdT ["n", "friends"] (spTold K) := ok_told FT FH bH gH gM ml mr
  have GC : FnOk P w K mg base CX0 2 fC fdC ["friends", "s"] (spClose K) := ok_close FC FH bH gH ml mr
  have GG : FnOk P w K mg base CX0 3 fG fdG ["friends", "s"] (spGreat K) := ok_great FG FS bS gS FC bC gC FH bH gH ml mr
  refine F.ok scCloses (fun vs H Q E h => ?_) (fun cdv A outer s H vs Q E hr h => ?_)
  · obtain ⟨n, s, a, fs, rfl, _⟩ := h
    rfl
  · obtain ⟨n, s, a, fs, rfl, hS, hlen, q⟩ := h
    have hr2 := hr.mono (j := 2) (by decide)
    refine ⟨_, pss_cons (ps_if (PW.pt (pw_or (pt_not (pt_val (pe_call GT hr2 rfl gT FT.kp bT .nil pass0 (pa_cons (pv 0) (pa_cons (pv 2) pa_nil)))))
        (pw_or1 (pt_cmpR op_ne (pe_op op_shr (pv 1) (pv 0)) pe_int (nomark _)))))
        (pss_one (ps_ret (pe_lst (pa_cons (pe_glob (v := .int (-22)) rfl gN ⟨_, rfl⟩) pa_nil)))) pss_nil)
      (pss_cons (ps_set (i := 3) scCloses.nd rfl (.inl rfl) (pe_ifExp (pt_val (pe_call GC hr2 rfl gC FC.kp bC .nil pass0 (pa_cons (pv 2) (pa_cons (pv 1) pa_nil)))) pe_int pe_int))
      (pss_one (ps_ret (pe_lst (pa_cons (pv 3) (pa_cons (pe_call GG hr rfl gG FG.kp bG .nil pass0 (pa_cons (pv 2) (pa_cons (pv 1) pa_nil))) pa_nil)))))), ?_⟩
    have ref : ¬ (told n fs = true ∧ s < 2 ^ n) → ∀ (H' : Hp) (p : Addr), H' p = some (.lst [V.int (-22)]) → Q (.ref p) H' := by
      intro c H' p hp
      refine q _ p ?_
      rw [close_due, if_neg c]
      exact hp
    refine ⟨_, rfl, _, rfl, n, a, fs, rfl, hS, hlen, _, rfl, ?_⟩
    by_cases cf : ¬ told n fs = true
    · have ct : told n fs = false := by
        rw [← Bool.not_eq_true]
        exact cf
      refine if_t (c := !told n fs) (by rw [ct]; rfl) (iteT ?_)
      exact ⟨(by show 1 ≤ sizeLine; decide), fun p hp => ref (fun z => cf z.1) _ p upd_same⟩
    have ct : told n fs = true := Classical.not_not.mp cf
    refine if_f (c := !told n fs) (by rw [ct]; rfl) ?_
    obtain ⟨t1, t2, t3, t4⟩ := told_iff.mp ct
    -- s >> n != 0
    refine ⟨_, rfl, _, rfl, _, _, rfl, rfl, Int.natCast_nonneg n, rfl, _, rfl, ?_⟩
    rw [good_py n s 0]
    by_cases cs : 2 ^ n ≤ s
    · refine if_t (decide_eq_true cs) ?_
      exact ⟨(by show 1 ≤ sizeLine; decide), fun p hp => ref (fun z => by omega) _ p upd_same⟩
    refine if_f (decide_eq_false cs) ?_
    have hs : s < 2 ^ n := by omega
    have fin : ∀ (H' : Hp) (p : Addr), H' p = some (.lst [V.int (if isClose fs s = true then 1 else 0), V.int ((best ⟨n, fs⟩ s (s + 1) : Nat) : Int)]) → Q (.ref p) H' := by
      intro H' p hp
      refine q _ p ?_
      rw [close_due, if_pos ⟨ct, hs⟩]
      exact hp
    -- told = 1 if is_close(friends, s) else 0
    refine ⟨_, rfl, _, rfl, a, fs, s, rfl, hS, by omega, _, rfl, ?_⟩
    by_cases cc : isClose fs s = true
    · refine if_t cc ?_
      rw [cc, if_pos rfl] at fin
      refine ⟨_, rfl, _, rfl, _, rfl, a, n, fs, s, rfl, hS, t3, by omega, hs, ?_⟩
      exact ⟨(by show 2 ≤ sizeLine; decide), fun p hp => fin _ p upd_same⟩
    · rw [Bool.not_eq_true] at cc
      refine if_f cc ?_
      rw [cc, if_neg Bool.false_ne_true] at fin
      refine ⟨_, rfl, _, rfl, _, rfl, a, n, fs, s, rfl, hS, t3, by omega, hs, ?_⟩
      exact ⟨(by show 2 ≤ sizeLine; decide), fun p hp => fin _ p upd_same⟩
end
end Rh
namespace Rh
open PySem PySem.Spec PyProof.Rows L2
theorem all_mk {P : Program} {w : World} {K : PySem.W.Frag} {h : Heap} {mg : Str → Option Value} {fa f1 f2 f3 f4 f5 f6 : Addr} {t1 t2 : Tok} (X : K.In h) (G : h.Ns mainGlobals mg) (hfa : mg "close" = some (.ref fa))
    {od1 an1 od2 an2 od3 an3 od4 an4 od5 an5 od6 an6 : Option Addr} {sl1 sl2 sl3 sl4 sl5 sl6 : Array (Option Value)} {oc1 kV1 dc1 pm1 cd1 ct1 oc2 kV2 dc2 pm2 cd2 ct2 oc3 kV3 dc3 pm3 cd3 ct3 oc4 kV4 dc4 pm4 cd4 ct4 oc5 kV5 dc5 pm5 cd5 ct5 oc6 kV6 dc6 pm6 cd6 ct6 : Value}
    (a1 : PySem.W.nsIn K mainGlobals "has_person" = some (some (.ref f1))) (l1 : K.lookup f1 = some ⟨oc1, od1, .func (PySem.W.fnOf "has_person" "has_person" (defArgs sHas) (defBody sHas) (defScope sHas) .none kV1 dc1 pm1 an1 cd1 ct1), sl1⟩) (c1 : PySem.W.codeIn K cd1 "has_person" = true) (k1 : PySem.W.keepIn K (.ref f1) = true)
    (a2 : PySem.W.nsIn K mainGlobals "friends_are_told" = some (some (.ref f2))) (l2 : K.lookup f2 = some ⟨oc2, od2, .func (PySem.W.fnOf "friends_are_told" "friends_are_told" (defArgs sTold) (defBody sTold) (defScope sTold) .none kV2 dc2 pm2 an2 cd2 ct2), sl2⟩) (c2 : PySem.W.codeIn K cd2 "friends_are_told" = true) (k2 : PySem.W.keepIn K (.ref f2) = true)
    (a3 : PySem.W.nsIn K mainGlobals "size" = some (some (.ref f3))) (l3 : K.lookup f3 = some ⟨oc3, od3, .func (PySem.W.fnOf "size" "size" (defArgs sSize) (defBody sSize) (defScope sSize) .none kV3 dc3 pm3 an3 cd3 ct3), sl3⟩) (c3 : PySem.W.codeIn K cd3 "size" = true) (k3 : PySem.W.keepIn K (.ref f3) = true)
    (a4 : PySem.W.nsIn K mainGlobals "is_close" = some (some (.ref f4))) (l4 : K.lookup f4 = some ⟨oc4, od4, .func (PySem.W.fnOf "is_close" "is_close" (defArgs sClose) (defBody sClose) (defScope sClose) .none kV4 dc4 pm4 an4 cd4 ct4), sl4⟩) (c4 : PySem.W.codeIn K cd4 "is_close" = true) (k4 : PySem.W.keepIn K (.ref f4) = true)
    (a5 : PySem.W.nsIn K mainGlobals "greatest_close" = some (some (.ref f5))) (l5 : K.lookup f5 = some ⟨oc5, od5, .func (PySem.W.fnOf "greatest_close" "greatest_close" (defArgs sGreat) (defBody sGreat) (defScope sGreat) .none kV5 dc5 pm5 an5 cd5 ct5), sl5⟩) (c5 : PySem.W.codeIn K cd5 "greatest_close" = true) (k5 : PySem.W.keepIn K (.ref f5) = true)
    (a6 : PySem.W.nsIn K mainGlobals "close" = some (some (.ref f6))) (l6 : K.lookup f6 = some ⟨oc6, od6, .func (PySem.W.fnOf "close" "close" (defArgs sCloses) (defBody sCloses) (defScope sCloses) .none kV6 dc6 pm6 an6 cd6 ct6), sl6⟩) (c6 : PySem.W.codeIn K cd6 "close" = true) (k6 : PySem.W.keepIn K (.ref f6) = true)
    (v1 : PySem.W.nsIn K mainGlobals "MOST_PEOPLE" = some (some (.int (5) t1)))
    (v2 : PySem.W.nsIn K mainGlobals "REFUSED" = some (some (.int (-22) t2)))
    (z1 : PySem.W.nsIn K mainGlobals "len" = some none)
    (z2 : PySem.W.nsIn K mainGlobals "range" = some none)
    : ∃ fd : FuncData, (∀ (s : Shared) (us : List Value), us.length = (["n", "s", "friends"] : List Str).length → BindsTo s fd ⟨us, []⟩ ((["n", "s", "friends"] : List Str).zip us)) ∧ ∀ base : Heap, K.In base → base.Ns mainGlobals mg → FnOk P w K mg base CX0 4 fa fd ["n", "s", "friends"] (spCloses K) := by
  have e := hfa.symm.trans (PySem.W.mg_of X G a6)
  cases e
  have F1 := fun_mk (st := sHas) l1 c1 k1
  have b1 := F1.binds (ps := ["s", "i"]) fun _ _ _ _ _ _ us hl => match us, hl with | [_, _], _ => rfl
  have g1 := PySem.W.mg_of X G a1
  have F2 := fun_mk (st := sTold) l2 c2 k2
  have b2 := F2.binds (ps := ["n", "friends"]) fun _ _ _ _ _ _ us hl => match us, hl with | [_, _], _ => rfl
  have g2 := PySem.W.mg_of X G a2
  have F3 := fun_mk (st := sSize) l3 c3 k3
  have b3 := F3.binds (ps := ["s"]) fun _ _ _ _ _ _ us hl => match us, hl with | [_], _ => rfl
  have g3 := PySem.W.mg_of X G a3
  have F4 := fun_mk (st := sClose) l4 c4 k4
  have b4 := F4.binds (ps := ["friends", "s"]) fun _ _ _ _ _ _ us hl => match us, hl with | [_, _], _ => rfl
  have g4 := PySem.W.mg_of X G a4
  have F5 := fun_mk (st := sGreat) l5 c5 k5
  have b5 := F5.binds (ps := ["friends", "s"]) fun _ _ _ _ _ _ us hl => match us, hl with | [_, _], _ => rfl
  have g5 := PySem.W.mg_of X G a5
  have F6 := fun_mk (st := sCloses) l6 c6 k6
  have gc1 := PySem.W.mg_of X G v1
  have gc2 := PySem.W.mg_of X G v2
  have gz1 := PySem.W.mg_none_of X G z1
  have gz2 := PySem.W.mg_none_of X G z2
  exact ⟨PySem.W.fnOf "close" "close" (defArgs sCloses) (defBody sCloses) (defScope sCloses) .none kV6 dc6 pm6 an6 cd6 ct6, fun s us hu => match us, hu with | [_, _, _], _ => .of_eq rfl, fun base _ _ => ok_closes F6 F2 b2 g2 F5 b5 g5 F3 b3 g3 F4 b4 g4 F1 b1 g1 gc1 gc2 gz1 gz2⟩
end Rh
open PySem PySem.W PyProof.Rows
set_option maxRecDepth 100000 in
set_option maxHeartbeats 8000000 in
theorem PySem.Challenge.cw_ringsheld_s06_close_holds : PySem.Challenge.rw_ringsheld_s06_close.Holds := by
  w_on; k_headS; (case hw => exact ⟨[.int 0, .int 0, .list []], by decide +kernel, by decide +kernel⟩)
  k_fillS
  refine L2.walk_specK (r := PySem.Challenge.rw_ringsheld_s06_close) (k := 4) (CX := L2.CX0) (ps := ["n", "s", "friends"]) (sp := Rh.spCloses) (by decide +kernel) rfl rfl ⟨rfl, by decide, by decide⟩ (fun w h Y => PySem.W.kIn_of Y) ?F ?S (fun _ _ _ _ z => z)
  case F =>
    intro w mg fa h Y KX G hmg
    refine' Rh.all_mk KX G hmg ?a1 ?l1 ?c1 ?k1 ?a2 ?l2 ?c2 ?k2 ?a3 ?l3 ?c3 ?k3 ?a4 ?l4 ?c4 ?k4 ?a5 ?l5 ?c5 ?k5 ?a6 ?l6 ?c6 ?k6 ?v1 ?v2 ?z1 ?z2
    (case a1 => k_is)
    (case l1 => k_is)
    (case c1 => k_is)
    (case k1 => k_is)
    (case a2 => k_is)
    (case l2 => k_is)
    (case c2 => k_is)
    (case k2 => k_is)
    (case a3 => k_is)
    (case l3 => k_is)
    (case c3 => k_is)
    (case k3 => k_is)
    (case a4 => k_is)
    (case l4 => k_is)
    (case c4 => k_is)
    (case k4 => k_is)
    (case a5 => k_is)
    (case l5 => k_is)
    (case c5 => k_is)
    (case k5 => k_is)
    (case a6 => k_is)
    (case l6 => k_is)
    (case c6 => k_is)
    (case k6 => k_is)
    (case v1 => k_is)
    (case v2 => k_is)
    (case z1 => k_is)
    (case z2 => k_is)
  case S =>
    intro K H xs a hO hwi hask hx
    cases hx with
    | cons g1 r1 =>
      cases r1 with
      | cons g2 r2 =>
        cases r2 with
        | cons g3 r3 =>
          cases r3
          cases g1
          cases g2
          cases g3 with
          | lst hs3 ha3 =>
            have e3 := L2.ints_dw a.2.2.1 _ ha3
            subst e3
            have q : (Codec.inInt 0 4294967295 a.1 && (Codec.inInt 0 4294967295 a.2.1 && ((Codec.inLen 0 7 a.2.2.1 && a.2.2.1.all (Codec.inInt 0 4294967295)) && true))) = true := hwi
            rw [Bool.and_eq_true, Bool.and_eq_true, Bool.and_eq_true, Bool.and_eq_true] at q
            obtain ⟨x1, hx1⟩ := Rh.nn_int q.1
            obtain ⟨x2, hx2⟩ := Rh.nn_int q.2.1
            obtain ⟨x3, hx3⟩ := Rh.nn_list q.2.2.1.2
            have hl3 : x3.length ≤ 7 := by
              have := (Codec.inNat_iff.mp q.2.2.1.1).2
              rw [hx3, Rh.asInts_length] at this
              exact this
            rw [hx3, Rh.vals_asInts] at hs3
            refine ⟨x1, x2, _, x3, by rw [hx1, hx2], hs3, hl3, fun H' p hp => ?_⟩
            refine .lst (xs := (PyKs569.close (x1 : Int) (x2 : Int) (Rh.asInts x3)).map L2.V.int) (L2.SqL.of hp) ?_
            have e : Codec.app PySem.Challenge.rw_ringsheld_s06_close.args PySem.Challenge.rw_ringsheld_s06_close.f a = PyKs569.close (x1 : Int) (x2 : Int) (Rh.asInts x3) := by
              rw [← hx1, ← hx2, ← hx3]
              rfl
            rw [e]
            exact L2.dw_ints _
#print axioms PySem.Challenge.cw_ringsheld_s06_close_holds
