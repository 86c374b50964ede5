import PyProof.Rows.All
import Wide.All
import OpenK.AllK
import Wide.FinOn
import HandS.ForMost
import HandS.TupSets
import HandS.SortOrd
import KE.KeyNested
import HandS.Sort
import PyProof.MinMaxWalk
import PyProof.WalksMore
import PyProof.SumWalkG
import PyProof.SeqI3
import PyProof.Draws
import PyProof.EnumMake
import KE.GoesMore
import HandS.Walk
import HandS.More
import HandS.DictTup
import Open.SpecLaws
import KE.OsGo
import HandS.ForSpec
import HandS.TupAny
import HandS.TupMul
import HandS.TupLen
import HandS.Deep
import HandS.Flow
import PySem.Challenge.RW_gatheredsurely_s01_answers
set_option Elab.async false
set_option maxRecDepth 100000
set_option maxHeartbeats 4000000
/-! Rings: sums, rows, the order of rows, the ring's name, the list of names. -/
namespace Gs
open Km534 (less from_ back rows name names allRows)

/-! ### sums -/
theorem foldl_add : ∀ (l : List Nat) (a : Nat), l.foldl (fun (a b : Nat) => a + b) a = a + l.sum
  | [], a => rfl
  | x :: r, a => by
    rw [List.foldl_cons, foldl_add r, List.sum_cons]
    omega
theorem ksum (l : List Nat) : Km534.sum l = l.sum := by
  unfold Km534.sum
  rw [foldl_add]
  omega

/-! ### all rows -/
theorem mem_allRows : ∀ (n k : Nat) (r : List Nat), r ∈ allRows n k ↔ r.length = n ∧ r.sum = k
  | 0, k, r => by
    unfold allRows
    cases r with
    | nil =>
      by_cases h : k = 0
      · simp [h]
      · simp [h]; omega
    | cons x r => by_cases h : k = 0 <;> simp [h]
  | n + 1, k, r => by
    unfold allRows
    constructor
    · intro h
      obtain ⟨x, hx, h⟩ := List.mem_flatMap.mp h
      obtain ⟨q, hq, e⟩ := List.mem_map.mp h
      obtain ⟨h1, h2⟩ := (mem_allRows n (k - x) q).mp hq
      have := List.mem_range.mp hx
      subst e
      rw [List.length_cons, List.sum_cons]
      omega
    · rintro ⟨h1, h2⟩
      cases r with
      | nil => simp at h1
      | cons x q =>
        rw [List.sum_cons] at h2
        rw [List.length_cons] at h1
        refine List.mem_flatMap.mpr ⟨x, List.mem_range.mpr (by omega), List.mem_map.mpr ⟨q, ?_, rfl⟩⟩
        exact (mem_allRows n (k - x) q).mpr ⟨by omega, by omega⟩

/-- a ring as the calls make it -/
structure Ok (r : List Nat) : Prop where
  lo : 3 ≤ r.length
  hi : r.length ≤ 7
  few : r.sum ≤ 4
def sizes : List (Nat × Nat) := [3, 4, 5, 6, 7].flatMap fun n => (List.range 5).map fun k => (n, k)
theorem mem_sizes {n k : Nat} (h1 : 3 ≤ n) (h2 : n ≤ 7) (h3 : k ≤ 4) : (n, k) ∈ sizes := by
  refine List.mem_flatMap.mpr ⟨n, ?_, List.mem_map.mpr ⟨k, List.mem_range.mpr (by omega), rfl⟩⟩
  simp only [List.mem_cons, List.not_mem_nil, or_false]
  omega
theorem Ok.size {r : List Nat} (h : Ok r) : (r.length, r.sum) ∈ sizes := mem_sizes h.lo h.hi h.few

/-! ### the order -/
theorem less_irrefl : ∀ a : List Nat, less a a = false
  | [] => rfl
  | x :: r => by simp [less, less_irrefl r]
theorem less_trans : ∀ {a b c : List Nat}, less a b = true → less b c = true → less a c = true
  | [], _, _, h, _ => by simp [less] at h
  | _ :: _, [], _, h, _ => by simp [less] at h
  | _ :: _, _ :: _, [], _, h => by simp [less] at h
  | x :: a, y :: b, z :: c, h1, h2 => by
    simp only [less, Bool.or_eq_true, decide_eq_true_eq, Bool.and_eq_true, beq_iff_eq] at h1 h2 ⊢
    rcases h1 with h1 | ⟨e1, h1⟩ <;> rcases h2 with h2 | ⟨e2, h2⟩
    · left; omega
    · left; omega
    · left; omega
    · right; exact ⟨by omega, less_trans h1 h2⟩
theorem less_asym {a b : List Nat} (h : less a b = true) : less b a = false := by
  cases c : less b a with
  | false => rfl
  | true =>
    have := less_trans h c
    rw [less_irrefl] at this
    cases this
theorem less_total : ∀ {a b : List Nat}, a.length = b.length → less a b = false → less b a = false → a = b
  | [], [], _, _, _ => rfl
  | [], _ :: _, h, _, _ => by simp at h
  | _ :: _, [], h, _, _ => by simp at h
  | x :: a, y :: b, h, h1, h2 => by
    simp only [less, Bool.or_eq_false_iff, decide_eq_false_iff_not, Bool.and_eq_false_iff, beq_eq_false_iff_ne, List.length_cons] at h h1 h2
    have e : x = y := by omega
    subst e
    have a1 : less a b = false := by rcases h1.2 with z | z; exact absurd rfl z; exact z
    have a2 : less b a = false := by rcases h2.2 with z | z; exact absurd rfl z; exact z
    rw [less_total (by omega) a1 a2]

/-- two lists of rows in strict order with the same members are one -/
theorem sorted_ext : ∀ {A B : List (List Nat)}, A.Pairwise (fun a b => less a b = true) → B.Pairwise (fun a b => less a b = true) → (∀ x, x ∈ A ↔ x ∈ B) → A = B
  | [], [], _, _, _ => rfl
  | [], b :: B, _, _, h => absurd ((h b).mpr List.mem_cons_self) (by simp)
  | a :: A, [], _, _, h => absurd ((h a).mp List.mem_cons_self) (by simp)
  | a :: A, b :: B, hA, hB, h => by
    obtain ⟨a1, a2⟩ := List.pairwise_cons.mp hA
    obtain ⟨b1, b2⟩ := List.pairwise_cons.mp hB
    have e : a = b := by
      rcases List.mem_cons.mp ((h a).mp List.mem_cons_self) with z | z
      · exact z
      · rcases List.mem_cons.mp ((h b).mpr List.mem_cons_self) with y | y
        · exact y.symm
        · have := less_asym (b1 a z)
          rw [a1 b y] at this
          cases this
    subst e
    have same : ∀ x, x ∈ A ↔ x ∈ B := fun x => by
      have hx := h x
      rw [List.mem_cons, List.mem_cons] at hx
      constructor
      · intro m
        rcases hx.mp (.inr m) with z | z
        · subst z
          have := a1 x m
          rw [less_irrefl] at this
          cases this
        · exact z
      · intro m
        rcases hx.mpr (.inr m) with z | z
        · subst z
          have := b1 x m
          rw [less_irrefl] at this
          cases this
        · exact z
    rw [sorted_ext a2 b2 same]

/-! ### rows of a ring -/
theorem len_from (l : List Nat) (p : Nat) : (from_ l p).length = l.length := by simp [from_]
theorem len_back (l : List Nat) (p : Nat) : (back l p).length = l.length := by simp [back]
theorem from_eq {l : List Nat} {p : Nat} (h : p ≤ l.length) : from_ l p = l.drop p ++ l.take p := by
  refine List.ext_getElem? fun i => ?_
  unfold from_
  rw [List.getElem?_map, List.getElem?_append]
  by_cases hi : i < l.length
  · rw [List.getElem?_range hi]
    show some (l.getD ((p + i) % l.length) 0) = _
    rw [List.length_drop]
    by_cases c : i < l.length - p
    · rw [if_pos c, List.getElem?_drop, Nat.mod_eq_of_lt (by omega), List.getD_eq_getElem?_getD, List.getElem?_eq_getElem (by omega)]
      rfl
    · have e : (p + i) % l.length = i - (l.length - p) := by
        rw [show p + i = (i - (l.length - p)) + l.length by omega, Nat.add_mod_right, Nat.mod_eq_of_lt (by omega)]
      rw [if_neg c, e, List.getElem?_take_of_lt (by omega), List.getD_eq_getElem?_getD, List.getElem?_eq_getElem (by omega)]
      rfl
  · rw [List.getElem?_eq_none (by simpa using hi)]
    have : (l.drop p ++ l.take p).length = l.length := by simp; omega
    rw [← List.getElem?_append, List.getElem?_eq_none (by rw [this]; omega)]
    rfl

/-! ### the least of a list -/
def best (a : List Nat) (l : List (List Nat)) : List Nat := l.foldl (fun (a b : List Nat) => if less b a then b else a) a
theorem best_mem : ∀ (l : List (List Nat)) (a : List Nat), best a l = a ∨ best a l ∈ l
  | [], a => .inl rfl
  | x :: l, a => by
    have ih := best_mem l (if less x a then x else a)
    show best (if less x a then x else a) l = a ∨ best (if less x a then x else a) l ∈ x :: l
    rcases ih with h | h
    · by_cases c : less x a = true
      · rw [if_pos c] at h ⊢
        rw [h]; exact .inr List.mem_cons_self
      · rw [if_neg c] at h ⊢
        exact .inl h
    · exact .inr (List.mem_cons_of_mem _ h)
theorem best_le : ∀ (l : List (List Nat)) (a : List Nat), (∀ x ∈ l, x.length = a.length) → (best a l).length = a.length ∧ ∀ x, x = a ∨ x ∈ l → less x (best a l) = false
  | [], a, _ => ⟨rfl, fun x h => by
    rcases h with rfl | h
    · exact less_irrefl _
    · cases h⟩
  | y :: l, a, hl => by
    have hy : y.length = a.length := hl y List.mem_cons_self
    have hb : (if less y a then y else a).length = a.length := by split; exact hy; rfl
    obtain ⟨h1, h2⟩ := best_le l (if less y a then y else a) (fun x hx => by rw [hb]; exact hl x (List.mem_cons_of_mem _ hx))
    show (best (if less y a then y else a) l).length = a.length ∧ ∀ x, x = a ∨ x ∈ y :: l → less x (best (if less y a then y else a) l) = false
    refine ⟨by rw [h1, hb], fun x hx => ?_⟩
    have key : ∀ z, less z (if less y a then y else a) = false → z.length = a.length → less z (best (if less y a then y else a) l) = false := fun z hz hzl => by
      have h3 := h2 _ (.inl rfl)
      cases c : less z (best (if less y a then y else a) l) with
      | false => rfl
      | true =>
        by_cases e : z = (if less y a then y else a)
        · rw [e, h3] at c; cases c
        · cases d : less (if less y a then y else a) z with
          | false => exact absurd (less_total (by rw [hzl, hb]) hz d) e
          | true => rw [less_trans d c] at h3; exact h3
    rcases hx with rfl | hx
    · refine key x ?_ rfl
      by_cases c : less y x = true
      · rw [if_pos c]; exact less_asym c
      · rw [if_neg c]; exact less_irrefl _
    · rcases List.mem_cons.mp hx with rfl | hx
      · refine key x ?_ hy
        by_cases c : less x a = true
        · rw [if_pos c]; exact less_irrefl _
        · rw [if_neg c]; simpa using c
      · exact h2 x (.inr hx)
theorem name_best (l : List Nat) : name l = best l (rows l) := rfl
theorem mem_rows {l x : List Nat} : x ∈ rows l ↔ ∃ p, p < l.length ∧ (x = from_ l p ∨ x = back l p) := by
  unfold rows
  rw [List.mem_append, List.mem_map, List.mem_map]
  constructor
  · rintro (⟨p, hp, e⟩ | ⟨p, hp, e⟩)
    · exact ⟨p, List.mem_range.mp hp, .inl e.symm⟩
    · exact ⟨p, List.mem_range.mp hp, .inr e.symm⟩
  · rintro ⟨p, hp, e | e⟩
    · exact .inl ⟨p, List.mem_range.mpr hp, e.symm⟩
    · exact .inr ⟨p, List.mem_range.mpr hp, e.symm⟩
theorem len_rows {l x : List Nat} (h : x ∈ rows l) : x.length = l.length := by
  obtain ⟨p, _, e | e⟩ := mem_rows.mp h
  · rw [e, len_from]
  · rw [e, len_back]
theorem self_rows {l : List Nat} (h : 0 < l.length) : l ∈ rows l := mem_rows.mpr ⟨0, h, .inl (by rw [from_eq (Nat.zero_le _)]; simp)⟩
theorem name_mem {l : List Nat} (h : 0 < l.length) : name l ∈ rows l := by
  rw [name_best]
  rcases best_mem (rows l) l with e | e
  · rw [e]; exact self_rows h
  · exact e
theorem name_le {l x : List Nat} (h : x ∈ rows l) : less x (name l) = false := (best_le (rows l) l fun _ => len_rows).2 x (.inr h)
theorem len_name (l : List Nat) : (name l).length = l.length := (best_le (rows l) l fun _ => len_rows).1
/-- what is a row and less than none of them is the name -/
theorem name_uniq {l m : List Nat} (h0 : 0 < l.length) (hm : m ∈ rows l) (h : ∀ x ∈ rows l, less x m = false) : m = name l :=
  less_total (by rw [len_rows hm, len_name]) (name_le hm) (h _ (name_mem h0))
end Gs
/-! All rings of three to seven places with up to four robots, and their names, written out. -/
namespace Gs
open Km534 (less from_ back rows name names allRows)
def tr30 : List (List Nat) := [[0,0,0]]
def tn30 : List (List Nat) := [[0,0,0]]
theorem tr30_eq : allRows 3 0 = tr30 := by decide +kernel
theorem tn30_eq : (tr30.filter fun r => name r == r) = tn30 := by decide +kernel
def tr31 : List (List Nat) := [[0,0,1], [0,1,0], [1,0,0]]
def tn31 : List (List Nat) := [[0,0,1]]
theorem tr31_eq : allRows 3 1 = tr31 := by decide +kernel
theorem tn31_eq : (tr31.filter fun r => name r == r) = tn31 := by decide +kernel
def tr32 : List (List Nat) := [[0,0,2], [0,1,1], [0,2,0], [1,0,1], [1,1,0], [2,0,0]]
def tn32 : List (List Nat) := [[0,0,2], [0,1,1]]
theorem tr32_eq : allRows 3 2 = tr32 := by decide +kernel
theorem tn32_eq : (tr32.filter fun r => name r == r) = tn32 := by decide +kernel
def tr33 : List (List Nat) := [[0,0,3], [0,1,2], [0,2,1], [0,3,0], [1,0,2], [1,1,1], [1,2,0], [2,0,1], [2,1,0], [3,0,0]]
def tn33 : List (List Nat) := [[0,0,3], [0,1,2], [1,1,1]]
theorem tr33_eq : allRows 3 3 = tr33 := by decide +kernel
theorem tn33_eq : (tr33.filter fun r => name r == r) = tn33 := by decide +kernel
def tr34 : List (List Nat) := [[0,0,4], [0,1,3], [0,2,2], [0,3,1], [0,4,0], [1,0,3], [1,1,2], [1,2,1], [1,3,0], [2,0,2], [2,1,1], [2,2,0], [3,0,1], [3,1,0], [4,0,0]]
def tn34 : List (List Nat) := [[0,0,4], [0,1,3], [0,2,2], [1,1,2]]
theorem tr34_eq : allRows 3 4 = tr34 := by decide +kernel
theorem tn34_eq : (tr34.filter fun r => name r == r) = tn34 := by decide +kernel
def tr40 : List (List Nat) := [[0,0,0,0]]
def tn40 : List (List Nat) := [[0,0,0,0]]
theorem tr40_eq : allRows 4 0 = tr40 := by decide +kernel
theorem tn40_eq : (tr40.filter fun r => name r == r) = tn40 := by decide +kernel
def tr41 : List (List Nat) := [[0,0,0,1], [0,0,1,0], [0,1,0,0], [1,0,0,0]]
def tn41 : List (List Nat) := [[0,0,0,1]]
theorem tr41_eq : allRows 4 1 = tr41 := by decide +kernel
theorem tn41_eq : (tr41.filter fun r => name r == r) = tn41 := by decide +kernel
def tr42 : List (List Nat) := [[0,0,0,2], [0,0,1,1], [0,0,2,0], [0,1,0,1], [0,1,1,0], [0,2,0,0], [1,0,0,1], [1,0,1,0], [1,1,0,0], [2,0,0,0]]
def tn42 : List (List Nat) := [[0,0,0,2], [0,0,1,1], [0,1,0,1]]
theorem tr42_eq : allRows 4 2 = tr42 := by decide +kernel
theorem tn42_eq : (tr42.filter fun r => name r == r) = tn42 := by decide +kernel
def tr43 : List (List Nat) := [[0,0,0,3], [0,0,1,2], [0,0,2,1], [0,0,3,0], [0,1,0,2], [0,1,1,1], [0,1,2,0], [0,2,0,1], [0,2,1,0], [0,3,0,0], [1,0,0,2], [1,0,1,1], [1,0,2,0], [1,1,0,1], [1,1,1,0], [1,2,0,0], [2,0,0,1], [2,0,1,0], [2,1,0,0], [3,0,0,0]]
def tn43 : List (List Nat) := [[0,0,0,3], [0,0,1,2], [0,1,0,2], [0,1,1,1]]
theorem tr43_eq : allRows 4 3 = tr43 := by decide +kernel
theorem tn43_eq : (tr43.filter fun r => name r == r) = tn43 := by decide +kernel
def tr44 : List (List Nat) := [[0,0,0,4], [0,0,1,3], [0,0,2,2], [0,0,3,1], [0,0,4,0], [0,1,0,3], [0,1,1,2], [0,1,2,1], [0,1,3,0], [0,2,0,2], [0,2,1,1], [0,2,2,0], [0,3,0,1], [0,3,1,0], [0,4,0,0], [1,0,0,3], [1,0,1,2], [1,0,2,1], [1,0,3,0], [1,1,0,2], [1,1,1,1], [1,1,2,0], [1,2,0,1], [1,2,1,0], [1,3,0,0], [2,0,0,2], [2,0,1,1], [2,0,2,0], [2,1,0,1], [2,1,1,0], [2,2,0,0], [3,0,0,1], [3,0,1,0], [3,1,0,0], [4,0,0,0]]
def tn44 : List (List Nat) := [[0,0,0,4], [0,0,1,3], [0,0,2,2], [0,1,0,3], [0,1,1,2], [0,1,2,1], [0,2,0,2], [1,1,1,1]]
theorem tr44_eq : allRows 4 4 = tr44 := by decide +kernel
theorem tn44_eq : (tr44.filter fun r => name r == r) = tn44 := by decide +kernel
def tr50 : List (List Nat) := [[0,0,0,0,0]]
def tn50 : List (List Nat) := [[0,0,0,0,0]]
theorem tr50_eq : allRows 5 0 = tr50 := by decide +kernel
theorem tn50_eq : (tr50.filter fun r => name r == r) = tn50 := by decide +kernel
def tr51 : List (List Nat) := [[0,0,0,0,1], [0,0,0,1,0], [0,0,1,0,0], [0,1,0,0,0], [1,0,0,0,0]]
def tn51 : List (List Nat) := [[0,0,0,0,1]]
theorem tr51_eq : allRows 5 1 = tr51 := by decide +kernel
theorem tn51_eq : (tr51.filter fun r => name r == r) = tn51 := by decide +kernel
def tr52 : List (List Nat) := [[0,0,0,0,2], [0,0,0,1,1], [0,0,0,2,0], [0,0,1,0,1], [0,0,1,1,0], [0,0,2,0,0], [0,1,0,0,1], [0,1,0,1,0], [0,1,1,0,0], [0,2,0,0,0], [1,0,0,0,1], [1,0,0,1,0], [1,0,1,0,0], [1,1,0,0,0], [2,0,0,0,0]]
def tn52 : List (List Nat) := [[0,0,0,0,2], [0,0,0,1,1], [0,0,1,0,1]]
theorem tr52_eq : allRows 5 2 = tr52 := by decide +kernel
theorem tn52_eq : (tr52.filter fun r => name r == r) = tn52 := by decide +kernel
def tr53 : List (List Nat) := [[0,0,0,0,3], [0,0,0,1,2], [0,0,0,2,1], [0,0,0,3,0], [0,0,1,0,2], [0,0,1,1,1], [0,0,1,2,0], [0,0,2,0,1], [0,0,2,1,0], [0,0,3,0,0], [0,1,0,0,2], [0,1,0,1,1], [0,1,0,2,0], [0,1,1,0,1], [0,1,1,1,0], [0,1,2,0,0], [0,2,0,0,1], [0,2,0,1,0], [0,2,1,0,0], [0,3,0,0,0], [1,0,0,0,2], [1,0,0,1,1], [1,0,0,2,0], [1,0,1,0,1], [1,0,1,1,0], [1,0,2,0,0], [1,1,0,0,1], [1,1,0,1,0], [1,1,1,0,0], [1,2,0,0,0], [2,0,0,0,1], [2,0,0,1,0], [2,0,1,0,0], [2,1,0,0,0], [3,0,0,0,0]]
def tn53 : List (List Nat) := [[0,0,0,0,3], [0,0,0,1,2], [0,0,1,0,2], [0,0,1,1,1], [0,1,0,1,1]]
theorem tr53_eq : allRows 5 3 = tr53 := by decide +kernel
theorem tn53_eq : (tr53.filter fun r => name r == r) = tn53 := by decide +kernel
def tr54 : List (List Nat) := [[0,0,0,0,4], [0,0,0,1,3], [0,0,0,2,2], [0,0,0,3,1], [0,0,0,4,0], [0,0,1,0,3], [0,0,1,1,2], [0,0,1,2,1], [0,0,1,3,0], [0,0,2,0,2], [0,0,2,1,1], [0,0,2,2,0], [0,0,3,0,1], [0,0,3,1,0], [0,0,4,0,0], [0,1,0,0,3], [0,1,0,1,2], [0,1,0,2,1], [0,1,0,3,0], [0,1,1,0,2], [0,1,1,1,1], [0,1,1,2,0], [0,1,2,0,1], [0,1,2,1,0], [0,1,3,0,0], [0,2,0,0,2], [0,2,0,1,1], [0,2,0,2,0], [0,2,1,0,1], [0,2,1,1,0], [0,2,2,0,0], [0,3,0,0,1], [0,3,0,1,0], [0,3,1,0,0], [0,4,0,0,0], [1,0,0,0,3], [1,0,0,1,2], [1,0,0,2,1], [1,0,0,3,0], [1,0,1,0,2], [1,0,1,1,1], [1,0,1,2,0], [1,0,2,0,1], [1,0,2,1,0], [1,0,3,0,0], [1,1,0,0,2], [1,1,0,1,1], [1,1,0,2,0], [1,1,1,0,1], [1,1,1,1,0], [1,1,2,0,0], [1,2,0,0,1], [1,2,0,1,0], [1,2,1,0,0], [1,3,0,0,0], [2,0,0,0,2], [2,0,0,1,1], [2,0,0,2,0], [2,0,1,0,1], [2,0,1,1,0], [2,0,2,0,0], [2,1,0,0,1], [2,1,0,1,0], [2,1,1,0,0], [2,2,0,0,0], [3,0,0,0,1], [3,0,0,1,0], [3,0,1,0,0], [3,1,0,0,0], [4,0,0,0,0]]
def tn54 : List (List Nat) := [[0,0,0,0,4], [0,0,0,1,3], [0,0,0,2,2], [0,0,1,0,3], [0,0,1,1,2], [0,0,1,2,1], [0,0,2,0,2], [0,1,0,1,2], [0,1,1,0,2], [0,1,1,1,1]]
theorem tr54_eq : allRows 5 4 = tr54 := by decide +kernel
theorem tn54_eq : (tr54.filter fun r => name r == r) = tn54 := by decide +kernel
def tr60 : List (List Nat) := [[0,0,0,0,0,0]]
def tn60 : List (List Nat) := [[0,0,0,0,0,0]]
theorem tr60_eq : allRows 6 0 = tr60 := by decide +kernel
theorem tn60_eq : (tr60.filter fun r => name r == r) = tn60 := by decide +kernel
def tr61 : List (List Nat) := [[0,0,0,0,0,1], [0,0,0,0,1,0], [0,0,0,1,0,0], [0,0,1,0,0,0], [0,1,0,0,0,0], [1,0,0,0,0,0]]
def tn61 : List (List Nat) := [[0,0,0,0,0,1]]
theorem tr61_eq : allRows 6 1 = tr61 := by decide +kernel
theorem tn61_eq : (tr61.filter fun r => name r == r) = tn61 := by decide +kernel
def tr62 : List (List Nat) := [[0,0,0,0,0,2], [0,0,0,0,1,1], [0,0,0,0,2,0], [0,0,0,1,0,1], [0,0,0,1,1,0], [0,0,0,2,0,0], [0,0,1,0,0,1], [0,0,1,0,1,0], [0,0,1,1,0,0], [0,0,2,0,0,0], [0,1,0,0,0,1], [0,1,0,0,1,0], [0,1,0,1,0,0], [0,1,1,0,0,0], [0,2,0,0,0,0], [1,0,0,0,0,1], [1,0,0,0,1,0], [1,0,0,1,0,0], [1,0,1,0,0,0], [1,1,0,0,0,0], [2,0,0,0,0,0]]
def tn62 : List (List Nat) := [[0,0,0,0,0,2], [0,0,0,0,1,1], [0,0,0,1,0,1], [0,0,1,0,0,1]]
theorem tr62_eq : allRows 6 2 = tr62 := by decide +kernel
theorem tn62_eq : (tr62.filter fun r => name r == r) = tn62 := by decide +kernel
def tr63 : List (List Nat) := [[0,0,0,0,0,3], [0,0,0,0,1,2], [0,0,0,0,2,1], [0,0,0,0,3,0], [0,0,0,1,0,2], [0,0,0,1,1,1], [0,0,0,1,2,0], [0,0,0,2,0,1], [0,0,0,2,1,0], [0,0,0,3,0,0], [0,0,1,0,0,2], [0,0,1,0,1,1], [0,0,1,0,2,0], [0,0,1,1,0,1], [0,0,1,1,1,0], [0,0,1,2,0,0], [0,0,2,0,0,1], [0,0,2,0,1,0], [0,0,2,1,0,0], [0,0,3,0,0,0], [0,1,0,0,0,2], [0,1,0,0,1,1], [0,1,0,0,2,0], [0,1,0,1,0,1], [0,1,0,1,1,0], [0,1,0,2,0,0], [0,1,1,0,0,1], [0,1,1,0,1,0], [0,1,1,1,0,0], [0,1,2,0,0,0], [0,2,0,0,0,1], [0,2,0,0,1,0], [0,2,0,1,0,0], [0,2,1,0,0,0], [0,3,0,0,0,0], [1,0,0,0,0,2], [1,0,0,0,1,1], [1,0,0,0,2,0], [1,0,0,1,0,1], [1,0,0,1,1,0], [1,0,0,2,0,0], [1,0,1,0,0,1], [1,0,1,0,1,0], [1,0,1,1,0,0], [1,0,2,0,0,0], [1,1,0,0,0,1], [1,1,0,0,1,0], [1,1,0,1,0,0], [1,1,1,0,0,0], [1,2,0,0,0,0], [2,0,0,0,0,1], [2,0,0,0,1,0], [2,0,0,1,0,0], [2,0,1,0,0,0], [2,1,0,0,0,0], [3,0,0,0,0,0]]
def tn63 : List (List Nat) := [[0,0,0,0,0,3], [0,0,0,0,1,2], [0,0,0,1,0,2], [0,0,0,1,1,1], [0,0,1,0,0,2], [0,0,1,0,1,1], [0,1,0,1,0,1]]
theorem tr63_eq : allRows 6 3 = tr63 := by decide +kernel
theorem tn63_eq : (tr63.filter fun r => name r == r) = tn63 := by decide +kernel
def tr64 : List (List Nat) := [[0,0,0,0,0,4], [0,0,0,0,1,3], [0,0,0,0,2,2], [0,0,0,0,3,1], [0,0,0,0,4,0], [0,0,0,1,0,3], [0,0,0,1,1,2], [0,0,0,1,2,1], [0,0,0,1,3,0], [0,0,0,2,0,2], [0,0,0,2,1,1], [0,0,0,2,2,0], [0,0,0,3,0,1], [0,0,0,3,1,0], [0,0,0,4,0,0], [0,0,1,0,0,3], [0,0,1,0,1,2], [0,0,1,0,2,1], [0,0,1,0,3,0], [0,0,1,1,0,2], [0,0,1,1,1,1], [0,0,1,1,2,0], [0,0,1,2,0,1], [0,0,1,2,1,0], [0,0,1,3,0,0], [0,0,2,0,0,2], [0,0,2,0,1,1], [0,0,2,0,2,0], [0,0,2,1,0,1], [0,0,2,1,1,0], [0,0,2,2,0,0], [0,0,3,0,0,1], [0,0,3,0,1,0], [0,0,3,1,0,0], [0,0,4,0,0,0], [0,1,0,0,0,3], [0,1,0,0,1,2], [0,1,0,0,2,1], [0,1,0,0,3,0], [0,1,0,1,0,2], [0,1,0,1,1,1], [0,1,0,1,2,0], [0,1,0,2,0,1], [0,1,0,2,1,0], [0,1,0,3,0,0], [0,1,1,0,0,2], [0,1,1,0,1,1], [0,1,1,0,2,0], [0,1,1,1,0,1], [0,1,1,1,1,0], [0,1,1,2,0,0], [0,1,2,0,0,1], [0,1,2,0,1,0], [0,1,2,1,0,0], [0,1,3,0,0,0], [0,2,0,0,0,2], [0,2,0,0,1,1], [0,2,0,0,2,0], [0,2,0,1,0,1], [0,2,0,1,1,0], [0,2,0,2,0,0], [0,2,1,0,0,1], [0,2,1,0,1,0], [0,2,1,1,0,0], [0,2,2,0,0,0], [0,3,0,0,0,1], [0,3,0,0,1,0], [0,3,0,1,0,0], [0,3,1,0,0,0], [0,4,0,0,0,0], [1,0,0,0,0,3], [1,0,0,0,1,2], [1,0,0,0,2,1], [1,0,0,0,3,0], [1,0,0,1,0,2], [1,0,0,1,1,1], [1,0,0,1,2,0], [1,0,0,2,0,1], [1,0,0,2,1,0], [1,0,0,3,0,0], [1,0,1,0,0,2], [1,0,1,0,1,1], [1,0,1,0,2,0], [1,0,1,1,0,1], [1,0,1,1,1,0], [1,0,1,2,0,0], [1,0,2,0,0,1], [1,0,2,0,1,0], [1,0,2,1,0,0], [1,0,3,0,0,0], [1,1,0,0,0,2], [1,1,0,0,1,1], [1,1,0,0,2,0], [1,1,0,1,0,1], [1,1,0,1,1,0], [1,1,0,2,0,0], [1,1,1,0,0,1], [1,1,1,0,1,0], [1,1,1,1,0,0], [1,1,2,0,0,0], [1,2,0,0,0,1], [1,2,0,0,1,0], [1,2,0,1,0,0], [1,2,1,0,0,0], [1,3,0,0,0,0], [2,0,0,0,0,2], [2,0,0,0,1,1], [2,0,0,0,2,0], [2,0,0,1,0,1], [2,0,0,1,1,0], [2,0,0,2,0,0], [2,0,1,0,0,1], [2,0,1,0,1,0], [2,0,1,1,0,0], [2,0,2,0,0,0], [2,1,0,0,0,1], [2,1,0,0,1,0], [2,1,0,1,0,0], [2,1,1,0,0,0], [2,2,0,0,0,0], [3,0,0,0,0,1], [3,0,0,0,1,0], [3,0,0,1,0,0], [3,0,1,0,0,0], [3,1,0,0,0,0], [4,0,0,0,0,0]]
def tn64 : List (List Nat) := [[0,0,0,0,0,4], [0,0,0,0,1,3], [0,0,0,0,2,2], [0,0,0,1,0,3], [0,0,0,1,1,2], [0,0,0,1,2,1], [0,0,0,2,0,2], [0,0,1,0,0,3], [0,0,1,0,1,2], [0,0,1,0,2,1], [0,0,1,1,0,2], [0,0,1,1,1,1], [0,0,2,0,0,2], [0,1,0,1,0,2], [0,1,0,1,1,1], [0,1,1,0,1,1]]
theorem tr64_eq : allRows 6 4 = tr64 := by decide +kernel
theorem tn64_eq : (tr64.filter fun r => name r == r) = tn64 := by decide +kernel
def tr70 : List (List Nat) := [[0,0,0,0,0,0,0]]
def tn70 : List (List Nat) := [[0,0,0,0,0,0,0]]
theorem tr70_eq : allRows 7 0 = tr70 := by decide +kernel
theorem tn70_eq : (tr70.filter fun r => name r == r) = tn70 := by decide +kernel
def tr71 : List (List Nat) := [[0,0,0,0,0,0,1], [0,0,0,0,0,1,0], [0,0,0,0,1,0,0], [0,0,0,1,0,0,0], [0,0,1,0,0,0,0], [0,1,0,0,0,0,0], [1,0,0,0,0,0,0]]
def tn71 : List (List Nat) := [[0,0,0,0,0,0,1]]
theorem tr71_eq : allRows 7 1 = tr71 := by decide +kernel
theorem tn71_eq : (tr71.filter fun r => name r == r) = tn71 := by decide +kernel
def tr72 : List (List Nat) := [[0,0,0,0,0,0,2], [0,0,0,0,0,1,1], [0,0,0,0,0,2,0], [0,0,0,0,1,0,1], [0,0,0,0,1,1,0], [0,0,0,0,2,0,0], [0,0,0,1,0,0,1], [0,0,0,1,0,1,0], [0,0,0,1,1,0,0], [0,0,0,2,0,0,0], [0,0,1,0,0,0,1], [0,0,1,0,0,1,0], [0,0,1,0,1,0,0], [0,0,1,1,0,0,0], [0,0,2,0,0,0,0], [0,1,0,0,0,0,1], [0,1,0,0,0,1,0], [0,1,0,0,1,0,0], [0,1,0,1,0,0,0], [0,1,1,0,0,0,0], [0,2,0,0,0,0,0], [1,0,0,0,0,0,1], [1,0,0,0,0,1,0], [1,0,0,0,1,0,0], [1,0,0,1,0,0,0], [1,0,1,0,0,0,0], [1,1,0,0,0,0,0], [2,0,0,0,0,0,0]]
def tn72 : List (List Nat) := [[0,0,0,0,0,0,2], [0,0,0,0,0,1,1], [0,0,0,0,1,0,1], [0,0,0,1,0,0,1]]
theorem tr72_eq : allRows 7 2 = tr72 := by decide +kernel
theorem tn72_eq : (tr72.filter fun r => name r == r) = tn72 := by decide +kernel
def tr73 : List (List Nat) := [[0,0,0,0,0,0,3], [0,0,0,0,0,1,2], [0,0,0,0,0,2,1], [0,0,0,0,0,3,0], [0,0,0,0,1,0,2], [0,0,0,0,1,1,1], [0,0,0,0,1,2,0], [0,0,0,0,2,0,1], [0,0,0,0,2,1,0], [0,0,0,0,3,0,0], [0,0,0,1,0,0,2], [0,0,0,1,0,1,1], [0,0,0,1,0,2,0], [0,0,0,1,1,0,1], [0,0,0,1,1,1,0], [0,0,0,1,2,0,0], [0,0,0,2,0,0,1], [0,0,0,2,0,1,0], [0,0,0,2,1,0,0], [0,0,0,3,0,0,0], [0,0,1,0,0,0,2], [0,0,1,0,0,1,1], [0,0,1,0,0,2,0], [0,0,1,0,1,0,1], [0,0,1,0,1,1,0], [0,0,1,0,2,0,0], [0,0,1,1,0,0,1], [0,0,1,1,0,1,0], [0,0,1,1,1,0,0], [0,0,1,2,0,0,0], [0,0,2,0,0,0,1], [0,0,2,0,0,1,0], [0,0,2,0,1,0,0], [0,0,2,1,0,0,0], [0,0,3,0,0,0,0], [0,1,0,0,0,0,2], [0,1,0,0,0,1,1], [0,1,0,0,0,2,0], [0,1,0,0,1,0,1], [0,1,0,0,1,1,0], [0,1,0,0,2,0,0], [0,1,0,1,0,0,1], [0,1,0,1,0,1,0], [0,1,0,1,1,0,0], [0,1,0,2,0,0,0], [0,1,1,0,0,0,1], [0,1,1,0,0,1,0], [0,1,1,0,1,0,0], [0,1,1,1,0,0,0], [0,1,2,0,0,0,0], [0,2,0,0,0,0,1], [0,2,0,0,0,1,0], [0,2,0,0,1,0,0], [0,2,0,1,0,0,0], [0,2,1,0,0,0,0], [0,3,0,0,0,0,0], [1,0,0,0,0,0,2], [1,0,0,0,0,1,1], [1,0,0,0,0,2,0], [1,0,0,0,1,0,1], [1,0,0,0,1,1,0], [1,0,0,0,2,0,0], [1,0,0,1,0,0,1], [1,0,0,1,0,1,0], [1,0,0,1,1,0,0], [1,0,0,2,0,0,0], [1,0,1,0,0,0,1], [1,0,1,0,0,1,0], [1,0,1,0,1,0,0], [1,0,1,1,0,0,0], [1,0,2,0,0,0,0], [1,1,0,0,0,0,1], [1,1,0,0,0,1,0], [1,1,0,0,1,0,0], [1,1,0,1,0,0,0], [1,1,1,0,0,0,0], [1,2,0,0,0,0,0], [2,0,0,0,0,0,1], [2,0,0,0,0,1,0], [2,0,0,0,1,0,0], [2,0,0,1,0,0,0], [2,0,1,0,0,0,0], [2,1,0,0,0,0,0], [3,0,0,0,0,0,0]]
def tn73 : List (List Nat) := [[0,0,0,0,0,0,3], [0,0,0,0,0,1,2], [0,0,0,0,1,0,2], [0,0,0,0,1,1,1], [0,0,0,1,0,0,2], [0,0,0,1,0,1,1], [0,0,1,0,0,1,1], [0,0,1,0,1,0,1]]
theorem tr73_eq : allRows 7 3 = tr73 := by decide +kernel
theorem tn73_eq : (tr73.filter fun r => name r == r) = tn73 := by decide +kernel
def tr74 : List (List Nat) := [[0,0,0,0,0,0,4], [0,0,0,0,0,1,3], [0,0,0,0,0,2,2], [0,0,0,0,0,3,1], [0,0,0,0,0,4,0], [0,0,0,0,1,0,3], [0,0,0,0,1,1,2], [0,0,0,0,1,2,1], [0,0,0,0,1,3,0], [0,0,0,0,2,0,2], [0,0,0,0,2,1,1], [0,0,0,0,2,2,0], [0,0,0,0,3,0,1], [0,0,0,0,3,1,0], [0,0,0,0,4,0,0], [0,0,0,1,0,0,3], [0,0,0,1,0,1,2], [0,0,0,1,0,2,1], [0,0,0,1,0,3,0], [0,0,0,1,1,0,2], [0,0,0,1,1,1,1], [0,0,0,1,1,2,0], [0,0,0,1,2,0,1], [0,0,0,1,2,1,0], [0,0,0,1,3,0,0], [0,0,0,2,0,0,2], [0,0,0,2,0,1,1], [0,0,0,2,0,2,0], [0,0,0,2,1,0,1], [0,0,0,2,1,1,0], [0,0,0,2,2,0,0], [0,0,0,3,0,0,1], [0,0,0,3,0,1,0], [0,0,0,3,1,0,0], [0,0,0,4,0,0,0], [0,0,1,0,0,0,3], [0,0,1,0,0,1,2], [0,0,1,0,0,2,1], [0,0,1,0,0,3,0], [0,0,1,0,1,0,2], [0,0,1,0,1,1,1], [0,0,1,0,1,2,0], [0,0,1,0,2,0,1], [0,0,1,0,2,1,0], [0,0,1,0,3,0,0], [0,0,1,1,0,0,2], [0,0,1,1,0,1,1], [0,0,1,1,0,2,0], [0,0,1,1,1,0,1], [0,0,1,1,1,1,0], [0,0,1,1,2,0,0], [0,0,1,2,0,0,1], [0,0,1,2,0,1,0], [0,0,1,2,1,0,0], [0,0,1,3,0,0,0], [0,0,2,0,0,0,2], [0,0,2,0,0,1,1], [0,0,2,0,0,2,0], [0,0,2,0,1,0,1], [0,0,2,0,1,1,0], [0,0,2,0,2,0,0], [0,0,2,1,0,0,1], [0,0,2,1,0,1,0], [0,0,2,1,1,0,0], [0,0,2,2,0,0,0], [0,0,3,0,0,0,1], [0,0,3,0,0,1,0], [0,0,3,0,1,0,0], [0,0,3,1,0,0,0], [0,0,4,0,0,0,0], [0,1,0,0,0,0,3], [0,1,0,0,0,1,2], [0,1,0,0,0,2,1], [0,1,0,0,0,3,0], [0,1,0,0,1,0,2], [0,1,0,0,1,1,1], [0,1,0,0,1,2,0], [0,1,0,0,2,0,1], [0,1,0,0,2,1,0], [0,1,0,0,3,0,0], [0,1,0,1,0,0,2], [0,1,0,1,0,1,1], [0,1,0,1,0,2,0], [0,1,0,1,1,0,1], [0,1,0,1,1,1,0], [0,1,0,1,2,0,0], [0,1,0,2,0,0,1], [0,1,0,2,0,1,0], [0,1,0,2,1,0,0], [0,1,0,3,0,0,0], [0,1,1,0,0,0,2], [0,1,1,0,0,1,1], [0,1,1,0,0,2,0], [0,1,1,0,1,0,1], [0,1,1,0,1,1,0], [0,1,1,0,2,0,0], [0,1,1,1,0,0,1], [0,1,1,1,0,1,0], [0,1,1,1,1,0,0], [0,1,1,2,0,0,0], [0,1,2,0,0,0,1], [0,1,2,0,0,1,0], [0,1,2,0,1,0,0], [0,1,2,1,0,0,0], [0,1,3,0,0,0,0], [0,2,0,0,0,0,2], [0,2,0,0,0,1,1], [0,2,0,0,0,2,0], [0,2,0,0,1,0,1], [0,2,0,0,1,1,0], [0,2,0,0,2,0,0], [0,2,0,1,0,0,1], [0,2,0,1,0,1,0], [0,2,0,1,1,0,0], [0,2,0,2,0,0,0], [0,2,1,0,0,0,1], [0,2,1,0,0,1,0], [0,2,1,0,1,0,0], [0,2,1,1,0,0,0], [0,2,2,0,0,0,0], [0,3,0,0,0,0,1], [0,3,0,0,0,1,0], [0,3,0,0,1,0,0], [0,3,0,1,0,0,0], [0,3,1,0,0,0,0], [0,4,0,0,0,0,0], [1,0,0,0,0,0,3], [1,0,0,0,0,1,2], [1,0,0,0,0,2,1], [1,0,0,0,0,3,0], [1,0,0,0,1,0,2], [1,0,0,0,1,1,1], [1,0,0,0,1,2,0], [1,0,0,0,2,0,1], [1,0,0,0,2,1,0], [1,0,0,0,3,0,0], [1,0,0,1,0,0,2], [1,0,0,1,0,1,1], [1,0,0,1,0,2,0], [1,0,0,1,1,0,1], [1,0,0,1,1,1,0], [1,0,0,1,2,0,0], [1,0,0,2,0,0,1], [1,0,0,2,0,1,0], [1,0,0,2,1,0,0], [1,0,0,3,0,0,0], [1,0,1,0,0,0,2], [1,0,1,0,0,1,1], [1,0,1,0,0,2,0], [1,0,1,0,1,0,1], [1,0,1,0,1,1,0], [1,0,1,0,2,0,0], [1,0,1,1,0,0,1], [1,0,1,1,0,1,0], [1,0,1,1,1,0,0], [1,0,1,2,0,0,0], [1,0,2,0,0,0,1], [1,0,2,0,0,1,0], [1,0,2,0,1,0,0], [1,0,2,1,0,0,0], [1,0,3,0,0,0,0], [1,1,0,0,0,0,2], [1,1,0,0,0,1,1], [1,1,0,0,0,2,0], [1,1,0,0,1,0,1], [1,1,0,0,1,1,0], [1,1,0,0,2,0,0], [1,1,0,1,0,0,1], [1,1,0,1,0,1,0], [1,1,0,1,1,0,0], [1,1,0,2,0,0,0], [1,1,1,0,0,0,1], [1,1,1,0,0,1,0], [1,1,1,0,1,0,0], [1,1,1,1,0,0,0], [1,1,2,0,0,0,0], [1,2,0,0,0,0,1], [1,2,0,0,0,1,0], [1,2,0,0,1,0,0], [1,2,0,1,0,0,0], [1,2,1,0,0,0,0], [1,3,0,0,0,0,0], [2,0,0,0,0,0,2], [2,0,0,0,0,1,1], [2,0,0,0,0,2,0], [2,0,0,0,1,0,1], [2,0,0,0,1,1,0], [2,0,0,0,2,0,0], [2,0,0,1,0,0,1], [2,0,0,1,0,1,0], [2,0,0,1,1,0,0], [2,0,0,2,0,0,0], [2,0,1,0,0,0,1], [2,0,1,0,0,1,0], [2,0,1,0,1,0,0], [2,0,1,1,0,0,0], [2,0,2,0,0,0,0], [2,1,0,0,0,0,1], [2,1,0,0,0,1,0], [2,1,0,0,1,0,0], [2,1,0,1,0,0,0], [2,1,1,0,0,0,0], [2,2,0,0,0,0,0], [3,0,0,0,0,0,1], [3,0,0,0,0,1,0], [3,0,0,0,1,0,0], [3,0,0,1,0,0,0], [3,0,1,0,0,0,0], [3,1,0,0,0,0,0], [4,0,0,0,0,0,0]]
def tn74 : List (List Nat) := [[0,0,0,0,0,0,4], [0,0,0,0,0,1,3], [0,0,0,0,0,2,2], [0,0,0,0,1,0,3], [0,0,0,0,1,1,2], [0,0,0,0,1,2,1], [0,0,0,0,2,0,2], [0,0,0,1,0,0,3], [0,0,0,1,0,1,2], [0,0,0,1,0,2,1], [0,0,0,1,1,0,2], [0,0,0,1,1,1,1], [0,0,0,2,0,0,2], [0,0,1,0,0,1,2], [0,0,1,0,1,0,2], [0,0,1,0,1,1,1], [0,0,1,0,2,0,1], [0,0,1,1,0,0,2], [0,0,1,1,0,1,1], [0,1,0,1,0,1,1]]
theorem tr74_eq : allRows 7 4 = tr74 := by decide +kernel
theorem tn74_eq : (tr74.filter fun r => name r == r) = tn74 := by decide +kernel
def trs : Nat → Nat → List (List Nat)
  | 3, 0 => tr30
  | 3, 1 => tr31
  | 3, 2 => tr32
  | 3, 3 => tr33
  | 3, 4 => tr34
  | 4, 0 => tr40
  | 4, 1 => tr41
  | 4, 2 => tr42
  | 4, 3 => tr43
  | 4, 4 => tr44
  | 5, 0 => tr50
  | 5, 1 => tr51
  | 5, 2 => tr52
  | 5, 3 => tr53
  | 5, 4 => tr54
  | 6, 0 => tr60
  | 6, 1 => tr61
  | 6, 2 => tr62
  | 6, 3 => tr63
  | 6, 4 => tr64
  | 7, 0 => tr70
  | 7, 1 => tr71
  | 7, 2 => tr72
  | 7, 3 => tr73
  | 7, 4 => tr74
  | _, _ => []
def tns : Nat → Nat → List (List Nat)
  | 3, 0 => tn30
  | 3, 1 => tn31
  | 3, 2 => tn32
  | 3, 3 => tn33
  | 3, 4 => tn34
  | 4, 0 => tn40
  | 4, 1 => tn41
  | 4, 2 => tn42
  | 4, 3 => tn43
  | 4, 4 => tn44
  | 5, 0 => tn50
  | 5, 1 => tn51
  | 5, 2 => tn52
  | 5, 3 => tn53
  | 5, 4 => tn54
  | 6, 0 => tn60
  | 6, 1 => tn61
  | 6, 2 => tn62
  | 6, 3 => tn63
  | 6, 4 => tn64
  | 7, 0 => tn70
  | 7, 1 => tn71
  | 7, 2 => tn72
  | 7, 3 => tn73
  | 7, 4 => tn74
  | _, _ => []
theorem sizes_cases {n k : Nat} (h : (n, k) ∈ sizes) {P : Nat → Nat → Prop} (h30 : P 3 0) (h31 : P 3 1) (h32 : P 3 2) (h33 : P 3 3) (h34 : P 3 4) (h40 : P 4 0) (h41 : P 4 1) (h42 : P 4 2) (h43 : P 4 3) (h44 : P 4 4) (h50 : P 5 0) (h51 : P 5 1) (h52 : P 5 2) (h53 : P 5 3) (h54 : P 5 4) (h60 : P 6 0) (h61 : P 6 1) (h62 : P 6 2) (h63 : P 6 3) (h64 : P 6 4) (h70 : P 7 0) (h71 : P 7 1) (h72 : P 7 2) (h73 : P 7 3) (h74 : P 7 4) : P n k := by
  have e : sizes = [(3, 0), (3, 1), (3, 2), (3, 3), (3, 4), (4, 0), (4, 1), (4, 2), (4, 3), (4, 4), (5, 0), (5, 1), (5, 2), (5, 3), (5, 4), (6, 0), (6, 1), (6, 2), (6, 3), (6, 4), (7, 0), (7, 1), (7, 2), (7, 3), (7, 4)] := by decide +kernel
  rw [e] at h
  simp only [List.mem_cons, Prod.mk.injEq, List.not_mem_nil, or_false] at h
  rcases h with ⟨rfl, rfl⟩ | ⟨rfl, rfl⟩ | ⟨rfl, rfl⟩ | ⟨rfl, rfl⟩ | ⟨rfl, rfl⟩ | ⟨rfl, rfl⟩ | ⟨rfl, rfl⟩ | ⟨rfl, rfl⟩ | ⟨rfl, rfl⟩ | ⟨rfl, rfl⟩ | ⟨rfl, rfl⟩ | ⟨rfl, rfl⟩ | ⟨rfl, rfl⟩ | ⟨rfl, rfl⟩ | ⟨rfl, rfl⟩ | ⟨rfl, rfl⟩ | ⟨rfl, rfl⟩ | ⟨rfl, rfl⟩ | ⟨rfl, rfl⟩ | ⟨rfl, rfl⟩ | ⟨rfl, rfl⟩ | ⟨rfl, rfl⟩ | ⟨rfl, rfl⟩ | ⟨rfl, rfl⟩ | ⟨rfl, rfl⟩
  · exact h30
  · exact h31
  · exact h32
  · exact h33
  · exact h34
  · exact h40
  · exact h41
  · exact h42
  · exact h43
  · exact h44
  · exact h50
  · exact h51
  · exact h52
  · exact h53
  · exact h54
  · exact h60
  · exact h61
  · exact h62
  · exact h63
  · exact h64
  · exact h70
  · exact h71
  · exact h72
  · exact h73
  · exact h74
theorem trs_eq {n k : Nat} (h : (n, k) ∈ sizes) : allRows n k = trs n k := sizes_cases (P := fun n k => allRows n k = trs n k) h tr30_eq tr31_eq tr32_eq tr33_eq tr34_eq tr40_eq tr41_eq tr42_eq tr43_eq tr44_eq tr50_eq tr51_eq tr52_eq tr53_eq tr54_eq tr60_eq tr61_eq tr62_eq tr63_eq tr64_eq tr70_eq tr71_eq tr72_eq tr73_eq tr74_eq
theorem tns_eq {n k : Nat} (h : (n, k) ∈ sizes) : names n k = tns n k := by
  unfold names
  rw [trs_eq h]
  exact sizes_cases (P := fun n k => (trs n k).filter (fun r => name r == r) = tns n k) h tn30_eq tn31_eq tn32_eq tn33_eq tn34_eq tn40_eq tn41_eq tn42_eq tn43_eq tn44_eq tn50_eq tn51_eq tn52_eq tn53_eq tn54_eq tn60_eq tn61_eq tn62_eq tn63_eq tn64_eq tn70_eq tn71_eq tn72_eq tn73_eq tn74_eq
end Gs
/-! Names: facts over every ring. Views and where robots go. -/
namespace Gs
open Km534 (less from_ back rows name names allRows sees)

/-- what is asked of every ring, one by one, over the written lists -/
def everyT (P : List Nat → Bool) : Bool := sizes.all fun s => (trs s.1 s.2).all P
theorem Ok.of_everyT {P : List Nat → Bool} (hP : everyT P = true) {r : List Nat} (h : Ok r) : P r = true := by
  refine List.all_eq_true.mp (List.all_eq_true.mp hP _ h.size) r ?_
  show r ∈ trs r.length r.sum
  rw [← trs_eq h.size]
  exact (mem_allRows _ _ _).mpr ⟨rfl, rfl⟩

/-! ### names -/
def risingB : List (List Nat) → Bool
  | a :: b :: r => less a b && risingB (b :: r)
  | _ => true
theorem rising_pw : ∀ {l : List (List Nat)}, risingB l = true → l.Pairwise (fun a b => less a b = true)
  | [], _ => List.Pairwise.nil
  | [a], _ => List.pairwise_singleton _ _
  | a :: b :: r, h => by
    simp only [risingB, Bool.and_eq_true] at h
    have ih := rising_pw h.2
    refine List.pairwise_cons.mpr ⟨fun x hx => ?_, ih⟩
    rcases List.mem_cons.mp hx with rfl | hx
    · exact h.1
    · exact less_trans h.1 ((List.pairwise_cons.mp ih).1 x hx)
theorem names_rising_all : (sizes.all fun s => risingB (tns s.1 s.2)) = true := by decide +kernel
theorem names_few_all : (sizes.all fun s => decide ((tns s.1 s.2).length ≤ 20)) = true := by decide +kernel
theorem names_rising {n k : Nat} (h : (n, k) ∈ sizes) : (names n k).Pairwise (fun a b => less a b = true) := by
  rw [tns_eq h]
  exact rising_pw (List.all_eq_true.mp names_rising_all _ h)
theorem names_few {n k : Nat} (h : (n, k) ∈ sizes) : (names n k).length ≤ 20 := by
  rw [tns_eq h]
  exact of_decide_eq_true (List.all_eq_true.mp names_few_all _ h)
theorem names_nodup {n k : Nat} (h : (n, k) ∈ sizes) : (names n k).Nodup := List.Pairwise.imp (fun {a b} h e => by
  subst e
  rw [less_irrefl] at h
  cases h) (names_rising h)
theorem mem_names {n k : Nat} {x : List Nat} : x ∈ names n k ↔ x.length = n ∧ x.sum = k ∧ name x = x := by
  unfold names
  rw [List.mem_filter, mem_allRows, beq_iff_eq]
  exact and_assoc
theorem name_facts : (sizes.all fun s => (trs s.1 s.2).all fun r => (tns s.1 s.2).contains (name r)) = true := by decide +kernel
theorem Ok.name_in {r : List Nat} (h : Ok r) : name r ∈ names r.length r.sum := by
  rw [tns_eq h.size]
  refine List.contains_iff_mem.mp (List.all_eq_true.mp (List.all_eq_true.mp name_facts _ h.size) r ?_)
  show r ∈ trs r.length r.sum
  rw [← trs_eq h.size]
  exact (mem_allRows _ _ _).mpr ⟨rfl, rfl⟩
theorem Ok.name_name {r : List Nat} (h : Ok r) : name (name r) = name r := (mem_names.mp h.name_in).2.2
theorem Ok.name_sum {r : List Nat} (h : Ok r) : (name r).sum = r.sum := (mem_names.mp h.name_in).2.1
theorem Ok.name_ok {r : List Nat} (h : Ok r) : Ok (name r) := ⟨by rw [len_name]; exact h.lo, by rw [len_name]; exact h.hi, by rw [h.name_sum]; exact h.few⟩
theorem ok_of_names {r x : List Nat} (h : Ok r) (hx : x ∈ names r.length r.sum) : Ok x ∧ x.length = r.length ∧ x.sum = r.sum ∧ name x = x := by
  obtain ⟨h1, h2, h3⟩ := mem_names.mp hx
  exact ⟨⟨by rw [h1]; exact h.lo, by rw [h1]; exact h.hi, by rw [h2]; exact h.few⟩, h1, h2, h3⟩
/-- the names of all rings of so many, as a set -/
theorem names_of_all {n k : Nat} (h3 : 3 ≤ n) (h7 : n ≤ 7) (h4 : k ≤ 4) {R : List (List Nat)} (hR : ∀ r, r ∈ R ↔ r.length = n ∧ r.sum = k) (x : List Nat) : x ∈ R.map name ↔ x ∈ names n k := by
  rw [List.mem_map]
  constructor
  · rintro ⟨r, hr, rfl⟩
    obtain ⟨h1, h2⟩ := (hR r).mp hr
    have o : Ok r := ⟨by omega, by omega, by omega⟩
    have := o.name_in
    rw [h1, h2] at this
    exact this
  · intro hx
    obtain ⟨h1, h2, e⟩ := mem_names.mp hx
    exact ⟨x, (hR x).mpr ⟨h1, h2⟩, e⟩
/-- what is sorted, without doubles, and has the names of all rings is the list of names -/
theorem names_uniq {n k : Nat} (h : (n, k) ∈ sizes) {A : List (List Nat)} (hA : A.Pairwise (fun a b => less a b = true)) (hm : ∀ x, x ∈ A ↔ x ∈ names n k) : A = names n k := sorted_ext hA (names_rising h) hm

/-! ### the place of a name -/
def place (N : List (List Nat)) (x : List Nat) : Nat := (N.findIdx? fun r => r == x).getD 0
theorem rank_place (r : List Nat) : Km535.rank r = place (names r.length r.sum) (name r) := by
  unfold Km535.rank place
  rw [ksum]
theorem place_at : ∀ {N : List (List Nat)} {x : List Nat}, x ∈ N → N[place N x]? = some x ∧ ∀ j, j < place N x → N[j]? ≠ some x
  | [], x, h => by cases h
  | y :: N, x, h => by
    unfold place
    rw [List.findIdx?_cons]
    by_cases c : y = x
    · subst c
      rw [if_pos (beq_self_eq_true _)]
      exact ⟨rfl, fun j hj => absurd hj (Nat.not_lt_zero _)⟩
    · have hx : x ∈ N := by
        rcases List.mem_cons.mp h with e | e
        · exact absurd e.symm c
        · exact e
      obtain ⟨h1, h2⟩ := place_at hx
      rw [if_neg (by simpa using c)]
      cases e : N.findIdx? fun r => r == x with
      | none =>
        rw [List.findIdx?_eq_none_iff] at e
        have := e x hx
        simp at this
      | some i =>
        have ei : place N x = i := by unfold place; rw [e]; rfl
        rw [ei] at h1 h2
        show (y :: N)[i + 1]? = some x ∧ ∀ j, j < i + 1 → (y :: N)[j]? ≠ some x
        refine ⟨h1, fun j hj => ?_⟩
        cases j with
        | zero => intro z; exact c (Option.some.inj z)
        | succ j => exact h2 j (by omega)

/-! ### gathered -/
def most : List Nat → Nat
  | [] => 0
  | x :: r => max x (most r)
theorem most_ge : ∀ {l : List Nat} {x : Nat}, x ∈ l → x ≤ most l
  | y :: l, x, h => by
    unfold most
    rcases List.mem_cons.mp h with rfl | h
    · omega
    · have := most_ge h; omega
theorem most_mem : ∀ {l : List Nat}, 0 < l.length → most l ∈ l
  | [x], _ => by simp [most]
  | x :: y :: l, _ => by
    have := most_mem (l := y :: l) (by simp)
    rw [most, List.mem_cons]
    by_cases c : most (y :: l) ≤ x
    · left; omega
    · right; rw [Nat.max_eq_right (by omega)]; exact this
theorem most_uniq {l : List Nat} {m : Nat} (h : m ∈ l) (hm : ∀ x ∈ l, x ≤ m) : m = most l := Nat.le_antisymm (most_ge h) (hm _ (most_mem (List.length_pos_of_mem h)))
theorem gathered_facts : everyT (fun r => Km535.gathered r == decide (most r = r.sum)) = true := by decide +kernel
theorem Ok.gathered {r : List Nat} (h : Ok r) : Km535.gathered r = decide (most r = r.sum) := beq_iff_eq.mp (h.of_everyT gathered_facts)

/-! ### views -/
theorem map_from (f : Nat → Nat) {l : List Nat} (p : Nat) : (from_ l p).map f = from_ (l.map f) p := by
  unfold from_
  rw [List.map_map, List.length_map]
  refine List.map_congr_left fun i hi => ?_
  have hlt : (p + i) % l.length < l.length := Nat.mod_lt _ (by have := List.mem_range.mp hi; omega)
  show f (l.getD ((p + i) % l.length) 0) = (l.map f).getD ((p + i) % l.length) 0
  rw [List.getD_eq_getElem?_getD, List.getD_eq_getElem?_getD, List.getElem?_map, List.getElem?_eq_getElem hlt]
  rfl
theorem map_back (f : Nat → Nat) {l : List Nat} (p : Nat) : (back l p).map f = back (l.map f) p := by
  unfold back
  rw [List.map_map, List.length_map]
  refine List.map_congr_left fun i hi => ?_
  have hlt : (p + (l.length - i)) % l.length < l.length := Nat.mod_lt _ (by have := List.mem_range.mp hi; omega)
  show f (l.getD ((p + (l.length - i)) % l.length) 0) = (l.map f).getD ((p + (l.length - i)) % l.length) 0
  rw [List.getD_eq_getElem?_getD, List.getD_eq_getElem?_getD, List.getElem?_map, List.getElem?_eq_getElem hlt]
  rfl
/-- what is seen of a ring -/
def seen (e : Nat) (l : List Nat) : List Nat := l.map (sees e)
theorem len_seen (e : Nat) (l : List Nat) : (seen e l).length = l.length := List.length_map _
def onw (e : Nat) (l : List Nat) (p : Nat) : List Nat := from_ (seen e l) p
def bkw (e : Nat) (l : List Nat) (p : Nat) : List Nat := back (seen e l) p
theorem rowOn_eq (e : Nat) (l : List Nat) (p : Nat) : Km534.rowOn ⟨l, e⟩ p = onw e l p := map_from _ _
theorem rowBack_eq (e : Nat) (l : List Nat) (p : Nat) : Km534.rowBack ⟨l, e⟩ p = bkw e l p := map_back _ _
theorem len_on (e : Nat) (l : List Nat) (p : Nat) : (onw e l p).length = l.length := by unfold onw; rw [len_from, len_seen]
theorem len_bk (e : Nat) (l : List Nat) (p : Nat) : (bkw e l p).length = l.length := by unfold bkw; rw [len_back, len_seen]
def vw (e : Nat) (l : List Nat) (p : Nat) : List Nat := if less (bkw e l p) (onw e l p) then bkw e l p else onw e l p
theorem view_eq (e : Nat) (l : List Nat) (p : Nat) : (Km534.view ⟨l, e⟩ p).1 = vw e l p := by
  unfold Km534.view vw
  rw [rowOn_eq, rowBack_eq]
  split <;> rfl
theorem even_eq (e : Nat) (l : List Nat) (p : Nat) : Km534.even_ ⟨l, e⟩ p = (onw e l p == bkw e l p) := by
  unfold Km534.even_
  rw [rowOn_eq, rowBack_eq]

/-! ### steps -/
def lesser (e : Nat) (l : List Nat) (p : Nat) : List Int := if onw e l p = bkw e l p then [1, -1] else if less (onw e l p) (bkw e l p) = true then [1] else [-1]
/-- by the number that is told -/
def stepsOf (m : Nat) (s : List Int) : List Int := if m = 0 then [] else if m = 1 then s else s.map fun x => -x
/-- one place on, one place back -/
def goTo (n p : Nat) (s : Int) : Nat := (((p : Int) + s) % (n : Int)).toNat
theorem goTo_on (n p : Nat) : goTo n p 1 = (p + 1) % n := by
  unfold goTo
  rw [show ((p : Int) + 1) = ((p + 1 : Nat) : Int) by omega, ← Int.natCast_emod, Int.toNat_natCast]
theorem goTo_back {n p : Nat} (h : 0 < n) : goTo n p (-1) = (p + (n - 1)) % n := by
  unfold goTo
  have e : ((p : Int) + -1) % (n : Int) = ((p + (n - 1) : Nat) : Int) % (n : Int) := by
    rw [← Int.add_emod_right]
    congr 1
    omega
  rw [e, ← Int.natCast_emod, Int.toNat_natCast]
theorem lesser_cases (e : Nat) (l : List Nat) (p : Nat) : lesser e l p = [1, -1] ∨ lesser e l p = [1] ∨ lesser e l p = [-1] := by
  unfold lesser
  split
  · exact .inl rfl
  · split
    · exact .inr (.inl rfl)
    · exact .inr (.inr rfl)
/-- the rule's word for a view -/
theorem mem_goes (d : Km535.Desk) {l : List Nat} (h0 : 0 < l.length) (p q : Nat) :
    q ∈ Km535.goes d l p ↔ q ∈ (stepsOf (Km535.told d (vw d.see.eyes l p)) (lesser d.see.eyes l p)).map (goTo l.length p) := by
  unfold Km535.goes Km535.on
  simp only [view_eq, even_eq, rowOn_eq]
  generalize Km535.told d (vw d.see.eyes l p) = m
  unfold stepsOf
  by_cases c0 : m = 0
  · simp [c0]
  · rw [if_neg c0, if_neg c0]
    unfold lesser vw
    by_cases ce : onw d.see.eyes l p = bkw d.see.eyes l p
    · rw [if_pos (by simpa using ce), if_pos ce]
      by_cases c1 : m = 1
      · rw [if_pos c1]
        simp only [List.map_cons, List.map_nil, goTo_on, goTo_back h0]
      · rw [if_neg c1]
        simp only [List.map_cons, List.map_nil, Int.neg_neg, goTo_on, goTo_back h0, List.mem_cons, List.not_mem_nil, or_false]
        exact or_comm
    · rw [if_neg (by simpa using ce), if_neg ce]
      by_cases cl : less (onw d.see.eyes l p) (bkw d.see.eyes l p) = true
      · rw [if_pos cl, less_asym cl]
        by_cases c1 : m = 1
        · simp [c1, goTo_on]
        · simp [c1, goTo_back h0]
      · have cb : less (bkw d.see.eyes l p) (onw d.see.eyes l p) = true := by
          cases c : less (bkw d.see.eyes l p) (onw d.see.eyes l p) with
          | true => rfl
          | false => exact absurd (less_total (by rw [len_on, len_bk]) (by simpa using cl) c) ce
        have ne : (bkw d.see.eyes l p == onw d.see.eyes l p) = false := by simpa using fun z => ce z.symm
        rw [if_neg cl, cb]
        by_cases c1 : m = 1
        · simp [c1, ne, goTo_back h0]
        · simp [c1, ne, goTo_on]
end Gs
/-! Moves: what may come of a ring by the robots' steps, and that it is what the rule's own listing gives. -/
namespace Gs
open Km534 (less from_ back rows name names allRows sees)
open Km535 (move doAll splits different nextBy nextNames eager goes)

/-! ### one step -/
def inc (c : List Nat) (q : Nat) : List Nat := c.set q (c.getD q 0 + 1)
def dec (c : List Nat) (p : Nat) : List Nat := c.set p (c.getD p 0 - 1)
theorem move_eq (c : List Nat) (p q : Nat) : move c p q = inc (dec c p) q := rfl
theorem len_inc (c : List Nat) (q : Nat) : (inc c q).length = c.length := List.length_set
theorem len_dec (c : List Nat) (q : Nat) : (dec c q).length = c.length := List.length_set
theorem len_move (c : List Nat) (p q : Nat) : (move c p q).length = c.length := by rw [move_eq, len_inc, len_dec]
theorem getD_set (c : List Nat) (p i v : Nat) : (c.set p v).getD i 0 = if i = p ∧ p < c.length then v else c.getD i 0 := by
  rw [List.getD_eq_getElem?_getD, List.getD_eq_getElem?_getD, List.getElem?_set]
  by_cases e : p = i
  · subst e
    by_cases h : p < c.length
    · simp [h]
    · simp [h]
  · have e' : ¬ i = p := fun z => e z.symm
    simp [e, e']
theorem list_ext {a b : List Nat} (hl : a.length = b.length) (h : ∀ i, a.getD i 0 = b.getD i 0) : a = b := by
  refine List.ext_getElem? fun i => ?_
  by_cases c : i < a.length
  · have := h i
    rw [List.getD_eq_getElem?_getD, List.getD_eq_getElem?_getD, List.getElem?_eq_getElem c, List.getElem?_eq_getElem (by omega)] at this
    rw [List.getElem?_eq_getElem c, List.getElem?_eq_getElem (by omega)]
    exact congrArg some this
  · rw [List.getElem?_eq_none (by omega), List.getElem?_eq_none (by omega)]
theorem getD_inc (c : List Nat) (q i : Nat) : (inc c q).getD i 0 = c.getD i 0 + if i = q ∧ q < c.length then 1 else 0 := by
  unfold inc
  rw [getD_set]
  by_cases h : i = q ∧ q < c.length
  · rw [if_pos h, if_pos h, h.1]
  · rw [if_neg h, if_neg h]; rfl
theorem getD_dec (c : List Nat) (q i : Nat) : (dec c q).getD i 0 = c.getD i 0 - if i = q ∧ q < c.length then 1 else 0 := by
  unfold dec
  rw [getD_set]
  by_cases h : i = q ∧ q < c.length
  · rw [if_pos h, if_pos h, h.1]
  · rw [if_neg h, if_neg h]; rfl
theorem getD_move (c : List Nat) (p q i : Nat) : (move c p q).getD i 0 = (c.getD i 0 - if i = p ∧ p < c.length then 1 else 0) + if i = q ∧ q < c.length then 1 else 0 := by
  rw [move_eq, getD_inc, getD_dec, len_dec]
/-- two that go from one place: which of them first is all one -/
theorem move_comm (c : List Nat) {p a b : Nat} (ha : a ≠ p) (hb : b ≠ p) : move (move c p a) p b = move (move c p b) p a := by
  refine list_ext (by simp only [len_move]) fun i => ?_
  simp only [getD_move, len_move]
  by_cases h1 : i = p
  · subst h1
    simp [Ne.symm ha, Ne.symm hb]
  · simp only [h1, false_and, if_false, Nat.sub_zero]
    omega

/-! ### many -/
theorem doAll_app (c : List Nat) (v w : List (Nat × Nat)) : doAll c (v ++ w) = doAll (doAll c v) w := List.foldl_append
theorem doAll_cons (c : List Nat) (m : Nat × Nat) (w : List (Nat × Nat)) : doAll c (m :: w) = doAll (move c m.1 m.2) w := rfl
theorem len_doAll : ∀ (w : List (Nat × Nat)) (c : List Nat), (doAll c w).length = c.length
  | [], _ => rfl
  | m :: w, c => by rw [doAll_cons, len_doAll w, len_move]
/-- one that goes to a, past those that go to b -/
theorem doAll_past {p a b : Nat} (ha : a ≠ p) (hb : b ≠ p) : ∀ (k : Nat) (c : List Nat), doAll c (List.replicate k (p, b) ++ [(p, a)]) = doAll c ((p, a) :: List.replicate k (p, b))
  | 0, _ => rfl
  | k + 1, c => by
    rw [List.replicate_succ, List.cons_append, doAll_cons, doAll_past ha hb k, doAll_cons, doAll_cons, doAll_cons]
    rw [move_comm c hb ha]
/-- those of one place in order: first all that go to a -/
theorem doAll_order {p a b : Nat} (ha : a ≠ p) (hb : b ≠ p) : ∀ (qs : List Nat), (∀ q ∈ qs, q = a ∨ q = b) →
    ∃ k, k ≤ qs.length ∧ ∀ c, doAll c (qs.map fun q => (p, q)) = doAll c (List.replicate k (p, a) ++ List.replicate (qs.length - k) (p, b))
  | [], _ => ⟨0, Nat.le_refl _, fun _ => rfl⟩
  | q :: qs, h => by
    obtain ⟨k, hk, e⟩ := doAll_order ha hb qs fun x hx => h x (List.mem_cons_of_mem _ hx)
    rcases h q List.mem_cons_self with rfl | rfl
    · refine ⟨k + 1, Nat.succ_le_succ hk, fun c => ?_⟩
      rw [List.map_cons, doAll_cons, e, List.replicate_succ, List.length_cons, Nat.add_sub_add_right]
      rfl
    · refine ⟨k, Nat.le_succ_of_le hk, fun c => ?_⟩
      have e2 : qs.length + 1 - k = (qs.length - k) + 1 := by omega
      rw [List.map_cons, doAll_cons, e, List.length_cons, e2, List.replicate_succ, doAll_app, doAll_app, doAll_cons]
      congr 1
      -- q first, then k times a: k times a, then q
      have := doAll_past (k := k) hb ha c
      rw [doAll_cons, doAll_app] at this
      exact this.symm

/-! ### families: one part for each place, one behind another -/
inductive Fam (ok : Nat → List (Nat × Nat) → Prop) : List Nat → List (Nat × Nat) → Prop
  | nil : Fam ok [] []
  | cons {p : Nat} {b : List (Nat × Nat)} {ps : List Nat} {w : List (Nat × Nat)} (h : ok p b) (r : Fam ok ps w) : Fam ok (p :: ps) (b ++ w)
theorem Fam.mono {ok ok' : Nat → List (Nat × Nat) → Prop} {ps : List Nat} {w : List (Nat × Nat)} (f : Fam ok ps w) (h : ∀ p ∈ ps, ∀ b, ok p b → ok' p b) : Fam ok' ps w := by
  induction f with
  | nil => exact .nil
  | cons hb _ ih => exact .cons (h _ List.mem_cons_self _ hb) (ih fun p hp b hb => h p (List.mem_cons_of_mem _ hp) b hb)
theorem Fam.snoc {ok : Nat → List (Nat × Nat) → Prop} {ps : List Nat} {w : List (Nat × Nat)} (f : Fam ok ps w) {p : Nat} {b : List (Nat × Nat)} (h : ok p b) : Fam ok (ps ++ [p]) (w ++ b) := by
  induction f with
  | nil =>
    have := Fam.cons h (Fam.nil (ok := ok))
    rw [List.append_nil] at this
    exact this
  | cons hb _ ih =>
    rw [List.append_assoc]
    exact .cons hb ih
/-- places with nothing but the empty part may be left out -/
theorem Fam.filter {ok : Nat → List (Nat × Nat) → Prop} {ps : List Nat} {w : List (Nat × Nat)} (f : Fam ok ps w) (e : Nat → Bool) (h : ∀ p ∈ ps, e p = false → ∀ b, ok p b → b = []) : Fam ok (ps.filter e) w := by
  induction f with
  | nil => exact .nil
  | @cons p b ps w hb _ ih =>
    have ih' := ih fun p hp => h p (List.mem_cons_of_mem _ hp)
    cases c : e p with
    | true =>
      rw [List.filter_cons_of_pos c]
      exact .cons hb ih'
    | false =>
      rw [List.filter_cons_of_neg (by simp [c]), h p List.mem_cons_self c b hb]
      exact ih'
theorem Fam.unfilter {ok : Nat → List (Nat × Nat) → Prop} (e : Nat → Bool) : ∀ {ps : List Nat} {w : List (Nat × Nat)}, Fam ok (ps.filter e) w → (∀ p ∈ ps, e p = false → ok p []) → Fam ok ps w
  | [], w, f, _ => f
  | p :: ps, w, f, h => by
    cases c : e p with
    | true =>
      rw [List.filter_cons_of_pos c] at f
      cases f with
      | cons hb r => exact .cons hb (Fam.unfilter e r fun q hq => h q (List.mem_cons_of_mem _ hq))
    | false =>
      rw [List.filter_cons_of_neg (by simp [c])] at f
      exact Fam.cons (h p List.mem_cons_self c) (Fam.unfilter e f fun q hq => h q (List.mem_cons_of_mem _ hq))
/-- the listing of all ways -/
theorem mem_ways (here : Nat → List (List (Nat × Nat))) : ∀ (ps : List Nat) (W : List (List (Nat × Nat))) (w : List (Nat × Nat)),
    w ∈ ps.foldl (fun (w : List (List (Nat × Nat))) (p : Nat) => w.flatMap fun a => (here p).map fun b => a ++ b) W ↔ ∃ a ∈ W, ∃ v, Fam (fun p b => b ∈ here p) ps v ∧ w = a ++ v
  | [], W, w => by
    constructor
    · intro h
      exact ⟨w, h, [], .nil, (List.append_nil _).symm⟩
    · rintro ⟨a, ha, v, f, rfl⟩
      cases f
      rw [List.append_nil]
      exact ha
  | p :: ps, W, w => by
    rw [List.foldl_cons, mem_ways here ps]
    constructor
    · rintro ⟨a, ha, v, f, rfl⟩
      obtain ⟨a0, h0, ha⟩ := List.mem_flatMap.mp ha
      obtain ⟨b, hb, rfl⟩ := List.mem_map.mp ha
      exact ⟨a0, h0, b ++ v, .cons hb f, List.append_assoc ..⟩
    · rintro ⟨a, ha, v, f, rfl⟩
      cases f with
      | @cons _ b _ v hb f => exact ⟨a ++ b, List.mem_flatMap.mpr ⟨a, ha, List.mem_map.mpr ⟨b, hb, rfl⟩⟩, v, f, (List.append_assoc ..).symm⟩
theorem mem_diff_from : ∀ (l o : List (List Nat)) (x : List Nat), x ∈ l.foldl (fun (o : List (List Nat)) (x : List Nat) => if o.contains x then o else o ++ [x]) o ↔ x ∈ o ∨ x ∈ l
  | [], o, x => by simp
  | y :: l, o, x => by
    rw [List.foldl_cons, mem_diff_from l]
    by_cases c : o.contains y = true
    · rw [if_pos c]
      have := List.contains_iff_mem.mp c
      rw [List.mem_cons]
      constructor
      · rintro (h | h)
        · exact .inl h
        · exact .inr (.inr h)
      · rintro (h | rfl | h)
        · exact .inl h
        · exact .inl this
        · exact .inr h
    · rw [if_neg c, List.mem_append, List.mem_singleton, List.mem_cons, or_assoc]
theorem mem_different (l : List (List Nat)) (x : List Nat) : x ∈ different l ↔ x ∈ l := by
  unfold different
  rw [mem_diff_from]
  simp

/-! ### the plays of a ring: T p are the places to which one at p may go -/
/-- a part of a play: so many of those at p go, each to one of T p -/
def Part (l : List Nat) (T : Nat → List Nat) (p : Nat) (b : List (Nat × Nat)) : Prop := ∃ qs : List Nat, b = (qs.map fun q => (p, q)) ∧ (∀ q ∈ qs, q ∈ T p) ∧ qs.length ≤ l.getD p 0
abbrev Play (l : List Nat) (T : Nat → List Nat) (w : List (Nat × Nat)) : Prop := Fam (Part l T) (List.range l.length) w
theorem Part.nil (l : List Nat) (T : Nat → List Nat) (p : Nat) : Part l T p [] := ⟨[], rfl, fun q h => (by cases h), Nat.zero_le _⟩
theorem Part.len {l : List Nat} {T : Nat → List Nat} {p : Nat} {b : List (Nat × Nat)} (h : Part l T p b) : b.length ≤ l.getD p 0 := by
  obtain ⟨qs, rfl, _, h⟩ := h
  rw [List.length_map]
  exact h
theorem Part.idle {l : List Nat} {T : Nat → List Nat} {p : Nat} {b : List (Nat × Nat)} (h : Part l T p b) (z : l.getD p 0 = 0 ∨ T p = []) : b = [] := by
  obtain ⟨qs, rfl, h1, h2⟩ := h
  cases qs with
  | nil => rfl
  | cons q qs =>
    rcases z with z | z
    · rw [z] at h2; simp at h2
    · have := h1 q List.mem_cons_self
      rw [z] at this
      cases this
/-- robots that are eager -/
def eagerAt (l : List Nat) (T : Nat → List Nat) (p : Nat) : Bool := decide (0 < l.getD p 0) && T p != []
def cap (l : List Nat) (T : Nat → List Nat) (p : Nat) : Nat := if eagerAt l T p = true then l.getD p 0 else 0
theorem eagerAt_no {l : List Nat} {T : Nat → List Nat} {p : Nat} (h : eagerAt l T p = false) : l.getD p 0 = 0 ∨ T p = [] := by
  unfold eagerAt at h
  rw [Bool.and_eq_false_iff] at h
  rcases h with h | h
  · left; have := of_decide_eq_false h; omega
  · right; simpa using h
theorem eagerAt_yes {l : List Nat} {T : Nat → List Nat} {p : Nat} (h : eagerAt l T p = true) : 0 < l.getD p 0 ∧ T p ≠ [] := by
  unfold eagerAt at h
  rw [Bool.and_eq_true] at h
  exact ⟨of_decide_eq_true h.1, by simpa using h.2⟩
theorem Part.cap {l : List Nat} {T : Nat → List Nat} {p : Nat} {b : List (Nat × Nat)} (h : Part l T p b) : b.length ≤ Gs.cap l T p := by
  unfold Gs.cap
  cases c : eagerAt l T p with
  | true => exact h.len
  | false => rw [h.idle (eagerAt_no c)]; exact Nat.zero_le _
theorem play_cap {l : List Nat} {T : Nat → List Nat} {ps : List Nat} {w : List (Nat × Nat)} (f : Fam (Part l T) ps w) : w.length ≤ (ps.map (cap l T)).sum := by
  induction f with
  | nil => exact Nat.le_refl _
  | cons hb _ ih =>
    rw [List.length_append, List.map_cons, List.sum_cons]
    have := hb.cap
    omega
/-- all that are eager go -/
theorem play_full {l : List Nat} {T : Nat → List Nat} {ps : List Nat} {w : List (Nat × Nat)} (f : Fam (Part l T) ps w) (h : w.length = (ps.map (cap l T)).sum) : Fam (fun p b => Part l T p b ∧ b.length = cap l T p) ps w := by
  induction f with
  | nil => exact .nil
  | cons hb r ih =>
    rw [List.length_append, List.map_cons, List.sum_cons] at h
    have h1 := hb.cap
    have h2 := play_cap r
    exact .cons ⟨hb, by omega⟩ (ih (by omega))
theorem full_len {l : List Nat} {T : Nat → List Nat} {ps : List Nat} {w : List (Nat × Nat)} (f : Fam (fun p b => Part l T p b ∧ b.length = cap l T p) ps w) : w.length = (ps.map (cap l T)).sum := by
  induction f with
  | nil => rfl
  | cons hb _ ih => rw [List.length_append, List.map_cons, List.sum_cons, ih, hb.2]
end Gs
/-! Plays and the rule's own listing of what may come next. -/
namespace Gs
open Km534 (less from_ back rows name names allRows sees)
open Km535 (move doAll splits different nextBy nextNames eager goes)

/-- where one may go: at most two places, none of them where it is, all on the ring -/
structure Tok (n : Nat) (T : Nat → List Nat) : Prop where
  two : ∀ p, (T p).length ≤ 2
  off : ∀ p, p < n → ∀ q ∈ T p, q ≠ p
  on : ∀ p, ∀ q ∈ T p, q < n
theorem split_part {l : List Nat} {T : Nat → List Nat} {p x : Nat} {b : List (Nat × Nat)} (hb : b ∈ splits p (T p) x) (hx : x ≤ l.getD p 0) : Part l T p b ∧ b.length = x := by
  unfold splits at hb
  generalize hT : T p = t at hb
  match t, hb with
  | [], hb =>
    by_cases c : x = 0
    · rw [if_pos c] at hb
      obtain rfl := List.mem_singleton.mp hb
      exact ⟨Part.nil l T p, c.symm⟩
    · rw [if_neg c] at hb
      cases hb
  | [a], hb =>
    obtain rfl := List.mem_singleton.mp hb
    refine ⟨⟨List.replicate x a, by rw [List.map_replicate], fun q hq => ?_, by rw [List.length_replicate]; exact hx⟩, List.length_replicate⟩
    rw [List.eq_of_mem_replicate hq, hT]
    exact List.mem_cons_self
  | a :: a2 :: r, hb =>
    obtain ⟨k, hk, rfl⟩ := List.mem_map.mp hb
    have hk := List.mem_range.mp hk
    refine ⟨⟨List.replicate k a ++ List.replicate (x - k) a2, by rw [List.map_append, List.map_replicate, List.map_replicate], fun q hq => ?_, by rw [List.length_append, List.length_replicate, List.length_replicate]; omega⟩, by rw [List.length_append, List.length_replicate, List.length_replicate]; omega⟩
    rw [hT]
    rcases List.mem_append.mp hq with z | z
    · rw [List.eq_of_mem_replicate z]; exact List.mem_cons_self
    · rw [List.eq_of_mem_replicate z]; exact List.mem_cons_of_mem _ List.mem_cons_self
theorem part_split {n : Nat} {l : List Nat} {T : Nat → List Nat} (t : Tok n T) {p : Nat} (hp : p < n) {b : List (Nat × Nat)} (h : Part l T p b) : ∃ b' ∈ splits p (T p) b.length, ∀ c, doAll c b' = doAll c b := by
  obtain ⟨qs, rfl, h1, h2⟩ := h
  have two := t.two p
  have off := t.off p hp
  unfold splits
  generalize hT : T p = s at two off h1
  rw [List.length_map]
  match s, two, off, h1 with
  | [], _, _, h1 =>
    cases qs with
    | nil => exact ⟨[], by simp, fun _ => rfl⟩
    | cons q qs => exact absurd (h1 q List.mem_cons_self) (by simp)
  | [a], _, _, h1 =>
    refine ⟨_, List.mem_singleton.mpr rfl, fun c => ?_⟩
    have e : qs = List.replicate qs.length a := List.eq_replicate_of_mem fun q hq => List.mem_singleton.mp (h1 q hq)
    rw [← List.map_replicate (f := fun q => (p, q)), ← e]
  | [a, a2], _, off, h1 =>
    obtain ⟨k, hk, e⟩ := doAll_order (p := p) (off a List.mem_cons_self) (off a2 (List.mem_cons_of_mem _ List.mem_cons_self)) qs fun q hq => by
      have := h1 q hq
      simp only [List.mem_cons, List.not_mem_nil, or_false] at this
      exact this
    exact ⟨_, List.mem_map.mpr ⟨k, List.mem_range.mpr (by omega), rfl⟩, fun c => (e c).symm⟩
  | _ :: _ :: _ :: _, two, _, _ => exact absurd two (by simp)
/-- a play in order -/
theorem play_order {n : Nat} {l : List Nat} {T : Nat → List Nat} (t : Tok n T) {R : Nat → Nat → Prop} {ps : List Nat} {w : List (Nat × Nat)} (hps : ∀ p ∈ ps, p < n) (f : Fam (fun p b => Part l T p b ∧ R p b.length) ps w) :
    ∃ w', Fam (fun p b => b ∈ splits p (T p) b.length ∧ b.length ≤ l.getD p 0 ∧ R p b.length) ps w' ∧ w'.length = w.length ∧ ∀ c, doAll c w' = doAll c w := by
  induction f with
  | nil => exact ⟨[], .nil, rfl, fun _ => rfl⟩
  | @cons p b ps w hb _ ih =>
    obtain ⟨v, fv, lv, ev⟩ := ih fun p hp => hps p (List.mem_cons_of_mem _ hp)
    obtain ⟨b', h1, h2⟩ := part_split t (hps p List.mem_cons_self) hb.1
    have hl := (split_part (l := l) h1 hb.1.len).2
    refine ⟨b' ++ v, .cons ⟨by rw [hl]; exact h1, by rw [hl]; exact hb.1.len, by rw [hl]; exact hb.2⟩ fv, by rw [List.length_append, List.length_append, hl, lv], fun c => ?_⟩
    rw [doAll_app, doAll_app, h2, ev]
theorem Fam.one {ok : Nat → List (Nat × Nat) → Prop} (h0 : ∀ p, ok p []) {p : Nat} {b : List (Nat × Nat)} (hb : ok p b) : ∀ {ps : List Nat}, p ∈ ps → Fam ok ps b
  | q :: ps, hp => by
    have rest : ∀ ps : List Nat, Fam ok ps [] := fun ps => by
      induction ps with
      | nil => exact .nil
      | cons q ps ih => exact Fam.cons (h0 q) ih
    by_cases e : p = q
    · subst e
      have := Fam.cons hb (rest ps)
      rw [List.append_nil] at this
      exact this
    · rcases List.mem_cons.mp hp with z | z
      · exact absurd z e
      · exact Fam.cons (h0 q) (Fam.one h0 hb z)
theorem play_one {l : List Nat} {T : Nat → List Nat} {ps : List Nat} {w : List (Nat × Nat)} (f : Fam (Part l T) ps w) (h : w.length = 1) : ∃ p ∈ ps, ∃ q ∈ T p, w = [(p, q)] ∧ 0 < l.getD p 0 := by
  induction f with
  | nil => simp at h
  | @cons p b ps w hb _ ih =>
    obtain ⟨qs, rfl, h1, h2⟩ := hb
    match qs, h1, h2, h with
    | [], _, _, h =>
      obtain ⟨p', hp, q, hq, e, hl⟩ := ih (by simpa using h)
      exact ⟨p', List.mem_cons_of_mem _ hp, q, hq, by simpa using e, hl⟩
    | q :: qs, h1, h2, h =>
      rw [List.length_append, List.length_map, List.length_cons] at h
      have e1 : qs = [] := List.length_eq_zero_iff.mp (by omega)
      have e2 : w = [] := List.length_eq_zero_iff.mp (by omega)
      subst e1; subst e2
      exact ⟨p, List.mem_cons_self, q, h1 q List.mem_cons_self, rfl, by rw [List.length_cons] at h2; omega⟩

/-- how many may go -/
def goOk (a g tot : Nat) : Prop := if a = 0 then g = 1 else if a = 2 then 1 ≤ g ∧ g = tot else 1 ≤ g
/-- how many are eager -/
def tot (l : List Nat) (T : Nat → List Nat) : Nat := ((List.range l.length).map (cap l T)).sum
theorem eager_filter (d : Km535.Desk) (l : List Nat) : eager d l = (List.range l.length).filter (eagerAt l (goes d l)) := rfl
/-- WHAT MAY COME NEXT is what plays make -/
theorem mem_nextBy (d : Km535.Desk) (a : Nat) {l : List Nat} (t : Tok l.length (goes d l)) (c : List Nat) :
    c ∈ nextBy d a l ↔ ∃ w, Play l (goes d l) w ∧ goOk a w.length (tot l (goes d l)) ∧ c = doAll l w := by
  unfold nextBy goOk
  by_cases ha : a = 0
  · simp only [ha, if_true]
    rw [mem_different, List.mem_flatMap]
    constructor
    · rintro ⟨p, hp, hc⟩
      obtain ⟨q, hq, rfl⟩ := List.mem_map.mp hc
      rw [eager_filter, List.mem_filter] at hp
      obtain ⟨h1, h2⟩ := eagerAt_yes hp.2
      exact ⟨[(p, q)], Fam.one (Part.nil l _) (b := [(p, q)]) ⟨[q], rfl, fun x hx => by rw [List.mem_singleton.mp hx]; exact hq, h1⟩ hp.1, rfl, rfl⟩
    · rintro ⟨w, f, hl, rfl⟩
      obtain ⟨p, hp, q, hq, rfl, hlp⟩ := play_one f hl
      refine ⟨p, ?_, List.mem_map.mpr ⟨q, hq, rfl⟩⟩
      rw [eager_filter, List.mem_filter]
      refine ⟨hp, ?_⟩
      unfold eagerAt
      rw [Bool.and_eq_true]
      exact ⟨decide_eq_true hlp, by simpa using List.ne_nil_of_mem hq⟩
  · simp only [ha, if_false]
    rw [mem_different, List.mem_map]
    have rng : ∀ p ∈ List.range l.length, p < l.length := fun p hp => List.mem_range.mp hp
    by_cases h2 : a = 2
    · simp only [h2, if_true]
      constructor
      · rintro ⟨w, hw, rfl⟩
        rw [List.mem_filter, mem_ways (fun p => splits p (goes d l p) (l.getD p 0))] at hw
        obtain ⟨⟨a0, ha0, v, f, rfl⟩, hne⟩ := hw
        obtain rfl := List.mem_singleton.mp ha0
        rw [List.nil_append] at hne ⊢
        have f2 : Fam (fun p b => Part l (goes d l) p b ∧ b.length = cap l (goes d l) p) (List.range l.length) v := by
          rw [eager_filter] at f
          refine Fam.unfilter _ (f.mono fun p hp b hb => ?_) fun p hp hn => ⟨Part.nil _ _ _, ?_⟩
          · obtain ⟨k1, k2⟩ := split_part (l := l) hb (Nat.le_refl _)
            refine ⟨k1, ?_⟩
            unfold cap
            rw [if_pos (List.mem_filter.mp hp).2]
            exact k2
          · unfold cap
            rw [hn]
            rfl
        have e := full_len f2
        refine ⟨v, f2.mono fun p _ b hb => hb.1, ⟨?_, e⟩, rfl⟩
        cases v with
        | nil => simp at hne
        | cons => simp
      · rintro ⟨w, f, ⟨h1, hl⟩, rfl⟩
        obtain ⟨w', f', l', e'⟩ := play_order (R := fun p x => x = cap l (goes d l) p) t rng (play_full f hl)
        refine ⟨w', ?_, e' l⟩
        rw [List.mem_filter, mem_ways (fun p => splits p (goes d l p) (l.getD p 0))]
        refine ⟨⟨[], List.mem_singleton.mpr rfl, w', ?_, rfl⟩, ?_⟩
        · rw [eager_filter]
          refine (f'.filter _ fun p _ hn b hb => ?_).mono fun p hp b hb => ?_
          · have := hb.2.2
            unfold cap at this
            rw [hn] at this
            exact List.length_eq_zero_iff.mp (by simpa using this)
          · have := hb.2.2
            unfold cap at this
            rw [if_pos (List.mem_filter.mp hp).2] at this
            rw [← this]
            exact hb.1
        · cases w' with
          | nil => simp at l'; omega
          | cons => simp
    · simp only [h2, if_false]
      constructor
      · rintro ⟨w, hw, rfl⟩
        rw [List.mem_filter, mem_ways (fun p => (List.range (l.getD p 0 + 1)).flatMap fun x => splits p (goes d l p) x)] at hw
        obtain ⟨⟨a0, ha0, v, f, rfl⟩, hne⟩ := hw
        obtain rfl := List.mem_singleton.mp ha0
        rw [List.nil_append] at hne ⊢
        refine ⟨v, ?_, ?_, rfl⟩
        · rw [eager_filter] at f
          refine Fam.unfilter _ (f.mono fun p hp b hb => ?_) fun p hp hn => Part.nil _ _ _
          obtain ⟨x, hx, hb⟩ := List.mem_flatMap.mp hb
          exact (split_part (l := l) hb (by have := List.mem_range.mp hx; omega)).1
        · cases v with
          | nil => simp at hne
          | cons => simp
      · rintro ⟨w, f, h1, rfl⟩
        obtain ⟨w', f', l', e'⟩ := play_order (R := fun _ _ => True) t rng (f.mono fun p _ b hb => ⟨hb, trivial⟩)
        refine ⟨w', ?_, e' l⟩
        rw [List.mem_filter, mem_ways (fun p => (List.range (l.getD p 0 + 1)).flatMap fun x => splits p (goes d l p) x)]
        refine ⟨⟨[], List.mem_singleton.mpr rfl, w', ?_, rfl⟩, ?_⟩
        · rw [eager_filter]
          refine (f'.filter _ fun p _ hn b hb => ?_).mono fun p hp b hb => List.mem_flatMap.mpr ⟨b.length, List.mem_range.mpr (by omega), hb.1⟩
          exact (split_part (l := l) hb.1 hb.2.1).1.idle (eagerAt_no hn)
        · cases w' with
          | nil => simp at l'; omega
          | cons => simp

/-! ### sums, and that nobody goes who isn't there -/
theorem sum_set : ∀ (c : List Nat) (p v : Nat), p < c.length → (c.set p v).sum + c.getD p 0 = c.sum + v
  | x :: c, 0, v, _ => by simp; omega
  | x :: c, p + 1, v, h => by
    have := sum_set c p v (by simpa using h)
    simp only [List.set_cons_succ, List.sum_cons, List.getD_cons_succ]
    omega
theorem sum_move {c : List Nat} {p q : Nat} (hp : p < c.length) (hq : q < c.length) (h : 1 ≤ c.getD p 0) : (move c p q).sum = c.sum := by
  have h1 := sum_set c p (c.getD p 0 - 1) hp
  have h2 := sum_set (dec c p) q ((dec c p).getD q 0 + 1) (by rw [len_dec]; exact hq)
  show ((dec c p).set q ((dec c p).getD q 0 + 1)).sum = c.sum
  have h3 : (dec c p).sum + c.getD p 0 = c.sum + (c.getD p 0 - 1) := h1
  omega
theorem part_go {n : Nat} {p : Nat} (hp : p < n) : ∀ (qs : List Nat) (c : List Nat), c.length = n → (∀ q ∈ qs, q < n ∧ q ≠ p) → qs.length ≤ c.getD p 0 →
    (doAll c (qs.map fun q => (p, q))).sum = c.sum ∧ (doAll c (qs.map fun q => (p, q))).getD p 0 = c.getD p 0 - qs.length ∧ ∀ i, i ≠ p → c.getD i 0 ≤ (doAll c (qs.map fun q => (p, q))).getD i 0
  | [], c, _, _, _ => ⟨rfl, rfl, fun _ _ => Nat.le_refl _⟩
  | q :: qs, c, hc, hq, hl => by
    rw [List.length_cons] at hl
    obtain ⟨q1, q2⟩ := hq q List.mem_cons_self
    have g : (move c p q).getD p 0 = c.getD p 0 - 1 := by
      rw [getD_move]
      simp [Ne.symm q2, hc, hp]
    obtain ⟨h1, h2, h3⟩ := part_go hp qs (move c p q) (by rw [len_move]; exact hc) (fun x hx => hq x (List.mem_cons_of_mem _ hx)) (by rw [g]; omega)
    rw [List.map_cons, doAll_cons]
    refine ⟨by rw [h1, sum_move (by omega) (by omega) (by omega)], by rw [h2, g, List.length_cons]; omega, fun i hi => Nat.le_trans ?_ (h3 i hi)⟩
    rw [getD_move]
    simp [hi]
theorem play_go {n : Nat} {l : List Nat} {T : Nat → List Nat} (t : Tok n T) {ps : List Nat} {w : List (Nat × Nat)} (f : Fam (Part l T) ps w) (nd : ps.Nodup) (hps : ∀ p ∈ ps, p < n) :
    ∀ c : List Nat, c.length = n → (∀ p ∈ ps, l.getD p 0 ≤ c.getD p 0) → (doAll c w).sum = c.sum ∧ ∀ i, i ∉ ps → c.getD i 0 ≤ (doAll c w).getD i 0 := by
  induction f with
  | nil => exact fun c _ _ => ⟨rfl, fun _ _ => Nat.le_refl _⟩
  | @cons p b ps w hb _ ih =>
    intro c hc hle
    obtain ⟨n1, n2⟩ := List.nodup_cons.mp nd
    obtain ⟨qs, rfl, h1, h2⟩ := hb
    have hp := hps p List.mem_cons_self
    obtain ⟨a1, a2, a3⟩ := part_go hp qs c hc (fun q hq => ⟨t.on p q (h1 q hq), t.off p hp q (h1 q hq)⟩) (Nat.le_trans h2 (hle p List.mem_cons_self))
    obtain ⟨b1, b2⟩ := ih n2 (fun x hx => hps x (List.mem_cons_of_mem _ hx)) (doAll c (qs.map fun q => (p, q))) (by rw [len_doAll]; exact hc) (fun x hx => Nat.le_trans (hle x (List.mem_cons_of_mem _ hx)) (a3 x fun e => n1 (e ▸ hx)))
    rw [doAll_app]
    refine ⟨b1.trans a1, fun i hi => ?_⟩
    rw [List.mem_cons, not_or] at hi
    exact Nat.le_trans (a3 i hi.1) (b2 i hi.2)
theorem play_sum {l : List Nat} {T : Nat → List Nat} (t : Tok l.length T) {w : List (Nat × Nat)} (f : Play l T w) : (doAll l w).sum = l.sum :=
  (play_go t f List.nodup_range (fun p hp => List.mem_range.mp hp) l rfl fun _ _ => Nat.le_refl _).1

/-! ### stage by stage: the places ahead of p, and j of those at p, have been asked -/
def Stage (l : List Nat) (T : Nat → List Nat) (p j : Nat) (x : Nat × List Nat) : Prop :=
  ∃ (w : List (Nat × Nat)) (qs : List Nat), Fam (Part l T) (List.range p) w ∧ (∀ q ∈ qs, q ∈ T p) ∧ qs.length ≤ j ∧ x.2 = doAll l (w ++ qs.map fun q => (p, q)) ∧ x.1 = w.length + qs.length
theorem stage_zero (l : List Nat) (T : Nat → List Nat) (x : Nat × List Nat) : Stage l T 0 0 x ↔ x = (0, l) := by
  constructor
  · rintro ⟨w, qs, f, _, hl, e2, e1⟩
    cases f
    obtain rfl : qs = [] := List.length_eq_zero_iff.mp (by omega)
    exact Prod.ext e1 e2
  · rintro rfl
    exact ⟨[], [], .nil, fun q h => (by cases h), Nat.le_refl _, rfl, rfl⟩
theorem stage_more (l : List Nat) (T : Nat → List Nat) (p j : Nat) (x : Nat × List Nat) : Stage l T p (j + 1) x ↔ Stage l T p j x ∨ ∃ y, Stage l T p j y ∧ ∃ q ∈ T p, x = (y.1 + 1, move y.2 p q) := by
  constructor
  · rintro ⟨w, qs, f, h1, hl, e2, e1⟩
    by_cases c : qs.length ≤ j
    · exact .inl ⟨w, qs, f, h1, c, e2, e1⟩
    · refine .inr ?_
      have hne : qs ≠ [] := fun z => by rw [z] at c; simp at c
      have e := List.dropLast_concat_getLast hne
      have ll : qs.dropLast.length = qs.length - 1 := List.length_dropLast
      refine ⟨(w.length + qs.dropLast.length, doAll l (w ++ qs.dropLast.map fun q => (p, q))), ⟨w, qs.dropLast, f, fun q hq => h1 q (List.dropLast_subset _ hq), by omega, rfl, rfl⟩, qs.getLast hne, h1 _ (List.getLast_mem hne), Prod.ext ?_ ?_⟩
      · show x.1 = w.length + qs.dropLast.length + 1
        omega
      · show x.2 = _
        have e3 : qs.map (fun q => (p, q)) = qs.dropLast.map (fun q => (p, q)) ++ [(p, qs.getLast hne)] := by
          conv => lhs; rw [← e]
          rw [List.map_append]; rfl
        rw [e2, e3, ← List.append_assoc, doAll_app l _ [(p, qs.getLast hne)]]
        rfl
  · rintro (⟨w, qs, f, h1, hl, e2, e1⟩ | ⟨y, ⟨w, qs, f, h1, hl, e2, e1⟩, q, hq, rfl⟩)
    · exact ⟨w, qs, f, h1, Nat.le_succ_of_le hl, e2, e1⟩
    · refine ⟨w, qs ++ [q], f, fun x hx => ?_, by rw [List.length_append]; simp; omega, ?_, by rw [List.length_append, e1]; rfl⟩
      · rcases List.mem_append.mp hx with z | z
        · exact h1 x z
        · rw [List.mem_singleton.mp z]; exact hq
      · show move y.2 p q = _
        rw [List.map_append, ← List.append_assoc, doAll_app, ← e2]
        rfl
theorem stage_next (l : List Nat) (T : Nat → List Nat) (p : Nat) (x : Nat × List Nat) : Stage l T p (l.getD p 0) x ↔ Stage l T (p + 1) 0 x := by
  constructor
  · rintro ⟨w, qs, f, h1, hl, e2, e1⟩
    refine ⟨w ++ qs.map (fun q => (p, q)), [], ?_, fun q h => (by cases h), Nat.le_refl _, by rw [e2]; simp, by rw [e1, List.length_append, List.length_map]; rfl⟩
    rw [List.range_succ]
    exact f.snoc ⟨qs, rfl, h1, hl⟩
  · rintro ⟨w, qs, f, _, hl, e2, e1⟩
    obtain rfl : qs = [] := List.length_eq_zero_iff.mp (by omega)
    rw [List.range_succ] at f
    have cut : ∀ {ps : List Nat} {v : List (Nat × Nat)}, Fam (Part l T) (ps ++ [p]) v → ∃ a b, Fam (Part l T) ps a ∧ Part l T p b ∧ v = a ++ b := by
      intro ps
      induction ps with
      | nil =>
        intro v f
        cases f with
        | cons hb r =>
          cases r
          exact ⟨[], _, .nil, hb, by simp⟩
      | cons q ps ih =>
        intro v f
        cases f with
        | cons hb r =>
          obtain ⟨a, b, f1, f2, rfl⟩ := ih r
          exact ⟨_, b, .cons hb f1, f2, (List.append_assoc ..).symm⟩
    obtain ⟨a, b, f1, ⟨qs, rfl, h1, h2⟩, rfl⟩ := cut f
    exact ⟨a, qs, f1, h1, h2, by rw [e2]; simp, by rw [e1, List.length_append, List.length_map]; simp⟩
theorem stage_last (l : List Nat) (T : Nat → List Nat) (x : Nat × List Nat) : Stage l T l.length 0 x ↔ ∃ w, Play l T w ∧ x = (w.length, doAll l w) := by
  constructor
  · rintro ⟨w, qs, f, _, hl, e2, e1⟩
    obtain rfl : qs = [] := List.length_eq_zero_iff.mp (by omega)
    exact ⟨w, f, Prod.ext e1 (by rw [e2]; simp)⟩
  · rintro ⟨w, f, rfl⟩
    exact ⟨w, [], f, fun q h => (by cases h), Nat.le_refl _, by simp, rfl⟩
theorem stage_len {l : List Nat} {T : Nat → List Nat} {p j : Nat} {x : Nat × List Nat} (s : Stage l T p j x) : x.2.length = l.length := by
  obtain ⟨w, qs, _, _, _, e, _⟩ := s
  rw [e, len_doAll]
theorem stage_pos {l : List Nat} {T : Nat → List Nat} (t : Tok l.length T) {p j : Nat} {x : Nat × List Nat} (hp : p < l.length) (s : Stage l T p j x) (hj : j < l.getD p 0) : 1 ≤ x.2.getD p 0 := by
  obtain ⟨w, qs, f, h1, hl, e, _⟩ := s
  obtain ⟨a1, a2⟩ := play_go t f List.nodup_range (fun q hq => Nat.lt_trans (List.mem_range.mp hq) hp) l rfl fun _ _ => Nat.le_refl _
  have b := a2 p (by simp)
  obtain ⟨c1, c2, c3⟩ := part_go hp qs (doAll l w) (len_doAll _ _) (fun q hq => ⟨t.on p q (h1 q hq), t.off p hp q (h1 q hq)⟩) (by omega)
  rw [e, doAll_app, c2]
  omega
/-- a stage lies in the last one -/
theorem stage_up {l : List Nat} {T : Nat → List Nat} {p j : Nat} {x : Nat × List Nat} (hp : p < l.length) (hj : j ≤ l.getD p 0) (s : Stage l T p j x) : ∃ w, Play l T w ∧ x = (w.length, doAll l w) := by
  have up : ∀ k p, p + k = l.length → ∀ x, Stage l T p 0 x → Stage l T l.length 0 x := by
    intro k
    induction k with
    | zero => intro p e x s; rw [← e]; exact s
    | succ k ih =>
      rintro p e x ⟨w, qs, f, h1, hl, e2, e1⟩
      exact ih (p + 1) (by omega) x ((stage_next l T p x).mp ⟨w, qs, f, h1, by omega, e2, e1⟩)
  obtain ⟨w, qs, f, h1, hl, e2, e1⟩ := s
  exact (stage_last l T x).mp (up (l.length - (p + 1)) (p + 1) (by omega) x ((stage_next l T p x).mp ⟨w, qs, f, h1, by omega, e2, e1⟩))
end Gs
/-! What may come next, by names; how many plays there are; who gathers surely, and in how many moves. -/
namespace Gs
open Km534 (less from_ back rows name names allRows sees)
open Km535 (move doAll splits different nextBy nextNames eager goes)

theorem goes_cases (d : Km535.Desk) (l : List Nat) (p : Nat) : goes d l p = [] ∨ goes d l p = [(p + 1) % l.length, (p + (l.length - 1)) % l.length] ∨ goes d l p = [(p + 1) % l.length] ∨ goes d l p = [(p + (l.length - 1)) % l.length] := by
  unfold goes
  dsimp only
  split
  · exact .inl rfl
  · split
    · exact .inr (.inl rfl)
    · split
      · exact .inr (.inr (.inl rfl))
      · exact .inr (.inr (.inr rfl))
theorem next_ne {n p : Nat} (h : 3 ≤ n) (hp : p < n) : (p + 1) % n ≠ p := by
  by_cases c : p + 1 < n
  · rw [Nat.mod_eq_of_lt c]; omega
  · have e : p + 1 = n := by omega
    rw [e, Nat.mod_self]; omega
theorem back_ne {n p : Nat} (h : 3 ≤ n) (hp : p < n) : (p + (n - 1)) % n ≠ p := by
  by_cases c : p = 0
  · rw [c, Nat.zero_add, Nat.mod_eq_of_lt (by omega)]; omega
  · have e : p + (n - 1) = (p - 1) + n := by omega
    rw [e, Nat.add_mod_right, Nat.mod_eq_of_lt (by omega)]; omega
theorem goes_tok (d : Km535.Desk) {l : List Nat} (h : 3 ≤ l.length) : Tok l.length (goes d l) where
  two p := by
    rcases goes_cases d l p with e | e | e | e <;> rw [e] <;> simp
  off p hp q hq := by
    rcases goes_cases d l p with e | e | e | e <;> rw [e] at hq <;> simp only [List.mem_cons, List.not_mem_nil, or_false] at hq
    · rcases hq with rfl | rfl
      · exact next_ne h hp
      · exact back_ne h hp
    · rw [hq]; exact next_ne h hp
    · rw [hq]; exact back_ne h hp
  on p q hq := by
    have pos : 0 < l.length := by omega
    rcases goes_cases d l p with e | e | e | e <;> rw [e] at hq <;> simp only [List.mem_cons, List.not_mem_nil, or_false] at hq
    · rcases hq with rfl | rfl <;> exact Nat.mod_lt _ pos
    · rw [hq]; exact Nat.mod_lt _ pos
    · rw [hq]; exact Nat.mod_lt _ pos

/-! ### next names -/
theorem mem_next (d : Km535.Desk) (a : Nat) {l : List Nat} (h : Ok l) (x : List Nat) :
    x ∈ nextNames d a l ↔ ∃ w, Play l (goes d l) w ∧ goOk a w.length (tot l (goes d l)) ∧ x = name (doAll l w) := by
  unfold nextNames
  rw [mem_different, List.mem_map]
  constructor
  · rintro ⟨c, hc, rfl⟩
    obtain ⟨w, h1, h2, rfl⟩ := (mem_nextBy d a (goes_tok d h.lo) c).mp hc
    exact ⟨w, h1, h2, rfl⟩
  · rintro ⟨w, h1, h2, rfl⟩
    exact ⟨_, (mem_nextBy d a (goes_tok d h.lo) _).mpr ⟨w, h1, h2, rfl⟩, rfl⟩
theorem play_ok {d : Km535.Desk} {l : List Nat} (h : Ok l) {w : List (Nat × Nat)} (f : Play l (goes d l) w) : Ok (doAll l w) :=
  ⟨by rw [len_doAll]; exact h.lo, by rw [len_doAll]; exact h.hi, by rw [play_sum (goes_tok d h.lo) f]; exact h.few⟩
theorem next_in {d : Km535.Desk} {a : Nat} {l : List Nat} (h : Ok l) {x : List Nat} (hx : x ∈ nextNames d a l) : x ∈ names l.length l.sum := by
  obtain ⟨w, f, _, rfl⟩ := (mem_next d a h x).mp hx
  have := (play_ok h f).name_in
  rw [len_doAll, play_sum (goes_tok d h.lo) f] at this
  exact this
/-- in order -/
def nx (d : Km535.Desk) (a : Nat) (l : List Nat) : List (List Nat) := (names l.length l.sum).filter fun x => (nextNames d a l).contains x
theorem mem_nx {d : Km535.Desk} {a : Nat} {l : List Nat} (h : Ok l) {x : List Nat} : x ∈ nx d a l ↔ x ∈ nextNames d a l := by
  unfold nx
  rw [List.mem_filter, List.contains_iff_mem]
  exact ⟨fun z => z.2, fun z => ⟨next_in h z, z⟩⟩
theorem nx_rising {d : Km535.Desk} {a : Nat} {l : List Nat} (h : Ok l) : (nx d a l).Pairwise (fun a b => less a b = true) := (names_rising h.size).filter _
theorem nx_uniq {d : Km535.Desk} {a : Nat} {l : List Nat} (h : Ok l) {A : List (List Nat)} (hA : A.Pairwise (fun a b => less a b = true)) (hm : ∀ x, x ∈ A ↔ x ∈ nextNames d a l) : A = nx d a l :=
  sorted_ext hA (nx_rising h) fun x => (hm x).trans (mem_nx h).symm
/-- somebody is eager just if something may come next -/
theorem tot_pos {l : List Nat} {T : Nat → List Nat} : tot l T = 0 ↔ (List.range l.length).filter (eagerAt l T) = [] := by
  unfold tot
  rw [List.filter_eq_nil_iff]
  have key : ∀ ps : List Nat, (ps.map (cap l T)).sum = 0 ↔ ∀ p ∈ ps, ¬ eagerAt l T p = true := by
    intro ps
    induction ps with
    | nil => simp
    | cons p ps ih =>
      rw [List.map_cons, List.sum_cons, Nat.add_eq_zero_iff, ih]
      have e : cap l T p = 0 ↔ ¬ eagerAt l T p = true := by
        unfold cap
        by_cases c : eagerAt l T p = true
        · rw [if_pos c]
          have := (eagerAt_yes c).1
          constructor
          · intro z; omega
          · intro z; exact absurd c z
        · rw [if_neg c]; exact ⟨fun _ => c, fun _ => rfl⟩
      rw [e]
      simp
  exact key _
theorem eager_nil (d : Km535.Desk) (l : List Nat) : eager d l = [] ↔ tot l (goes d l) = 0 := by
  rw [eager_filter, tot_pos]
/-- all of them may go -/
theorem full_play (l : List Nat) (T : Nat → List Nat) : ∀ ps : List Nat, ∃ w, Fam (Part l T) ps w ∧ w.length = (ps.map (cap l T)).sum
  | [] => ⟨[], .nil, rfl⟩
  | p :: ps => by
    obtain ⟨w, f, e⟩ := full_play l T ps
    by_cases c : eagerAt l T p = true
    · obtain ⟨h1, h2⟩ := eagerAt_yes c
      match hT : T p, h2 with
      | q :: r, _ =>
        refine ⟨List.replicate (l.getD p 0) (p, q) ++ w, .cons ⟨List.replicate (l.getD p 0) q, by rw [List.map_replicate], fun x hx => ?_, by rw [List.length_replicate]; exact Nat.le_refl _⟩ f, ?_⟩
        · rw [List.eq_of_mem_replicate hx, hT]; exact List.mem_cons_self
        · rw [List.length_append, List.length_replicate, List.map_cons, List.sum_cons, e]
          unfold cap
          rw [if_pos c]
    · refine ⟨[] ++ w, .cons (Part.nil l T p) f, ?_⟩
      rw [List.nil_append, List.map_cons, List.sum_cons, e]
      unfold cap
      rw [if_neg c, Nat.zero_add]
theorem next_nil {d : Km535.Desk} {a : Nat} {l : List Nat} (h : Ok l) : nextNames d a l = [] ↔ eager d l = [] := by
  rw [eager_nil]
  constructor
  · intro z
    by_cases c : tot l (goes d l) = 0
    · exact c
    · exfalso
      have some : ∃ x, x ∈ nextNames d a l := by
        by_cases ha : a = 0
        · have : (List.range l.length).filter (eagerAt l (goes d l)) ≠ [] := fun z => c (tot_pos.mpr z)
          obtain ⟨p, hp⟩ := List.exists_mem_of_ne_nil _ this
          rw [List.mem_filter] at hp
          obtain ⟨h1, h2⟩ := eagerAt_yes hp.2
          obtain ⟨q, hq⟩ := List.exists_mem_of_ne_nil _ h2
          refine ⟨_, (mem_next d a h _).mpr ⟨[(p, q)], Fam.one (Part.nil l _) (b := [(p, q)]) ⟨[q], rfl, fun x hx => by rw [List.mem_singleton.mp hx]; exact hq, h1⟩ hp.1, ?_, rfl⟩⟩
          unfold goOk
          rw [if_pos ha]
          rfl
        · obtain ⟨w, f, e⟩ := full_play l (goes d l) (List.range l.length)
          refine ⟨_, (mem_next d a h _).mpr ⟨w, f, ?_, rfl⟩⟩
          have e' : w.length = tot l (goes d l) := e
          unfold goOk
          rw [if_neg ha]
          split
          · exact ⟨by omega, e'⟩
          · omega
      obtain ⟨x, hx⟩ := some
      rw [z] at hx
      cases hx
  · intro z
    refine List.eq_nil_iff_forall_not_mem.mpr fun x hx => ?_
    obtain ⟨w, f, g, _⟩ := (mem_next d a h x).mp hx
    have := play_cap f
    have e : ((List.range l.length).map (cap l (goes d l))).sum = 0 := z
    unfold goOk at g
    split at g
    · omega
    · split at g <;> omega
theorem nx_nil {d : Km535.Desk} {a : Nat} {l : List Nat} (h : Ok l) : nx d a l = [] ↔ eager d l = [] := by
  rw [← next_nil (a := a) h]
  constructor
  · intro z
    refine List.eq_nil_iff_forall_not_mem.mpr fun x hx => ?_
    have := (mem_nx h).mpr hx
    rw [z] at this
    cases this
  · intro z
    refine List.eq_nil_iff_forall_not_mem.mpr fun x hx => ?_
    have := (mem_nx h).mp hx
    rw [z] at this
    cases this

/-! ### in how many moves: one relation for both sides -/
/-- over names N, with what may come next: x takes k moves at the most -/
inductive Rank (nxt : List Nat → List (List Nat)) (good : List Nat → Bool) : List Nat → Nat → Prop
  | rest {x : List Nat} (h1 : nxt x = []) (h2 : good x = true) : Rank nxt good x 0
  | more {x : List Nat} {k : Nat} (r : List Nat → Nat) (h1 : nxt x ≠ []) (h2 : ∀ y ∈ nxt x, Rank nxt good y (r y)) (h3 : ∀ y ∈ nxt x, r y ≤ k) (h4 : ∃ y ∈ nxt x, r y = k) : Rank nxt good x (k + 1)
theorem Rank.uniq {nxt : List Nat → List (List Nat)} {good : List Nat → Bool} {x : List Nat} {k : Nat} (h : Rank nxt good x k) : ∀ {j : Nat}, Rank nxt good x j → k = j := by
  induction h with
  | rest h1 h2 =>
    intro j h
    cases h with
    | rest => rfl
    | more r g1 => exact absurd h1 g1
  | more r h1 h2 h3 h4 ih =>
    intro j h
    cases h with
    | rest g1 => exact absurd g1 h1
    | more r' g1 g2 g3 g4 =>
      obtain ⟨y, hy, ey⟩ := h4
      obtain ⟨z, hz, ez⟩ := g4
      have e1 := ih y hy (g2 y hy)
      have e2 := ih z hz (g2 z hz)
      have b1 := h3 z hz
      have b2 := g3 y hy
      omega
/-- the relation by any bound of the next ones -/
theorem Rank.mk {nxt : List Nat → List (List Nat)} {good : List Nat → Bool} {x : List Nat} (h1 : nxt x ≠ []) (f : List Nat → Nat) (h2 : ∀ y ∈ nxt x, Rank nxt good y (f y)) {m : Nat} (hm : ∃ y ∈ nxt x, f y = m) (hb : ∀ y ∈ nxt x, f y ≤ m) : Rank nxt good x (m + 1) := .more f h1 h2 hb hm
end Gs
/-! Who gathers surely: the specification's rounds and the program's passes both tell the one relation. -/
namespace Gs
open Km534 (less from_ back rows name names allRows sees)
open Km535 (move doAll splits different nextBy nextNames eager goes)

/-- pigeons -/
theorem nodup_le {α : Type} [DecidableEq α] : ∀ (l m : List α), l.Nodup → (∀ x ∈ l, x ∈ m) → l.length ≤ m.length
  | [], _, _, _ => Nat.zero_le _
  | x :: l, m, hn, hs => by
    obtain ⟨h1, h2⟩ := List.nodup_cons.mp hn
    have hx := hs x List.mem_cons_self
    have ih := nodup_le l (m.erase x) h2 fun y hy => (List.mem_erase_of_ne fun (e : y = x) => h1 (e ▸ hy)).mpr (hs y (List.mem_cons_of_mem _ hy))
    rw [List.length_erase_of_mem hx] at ih
    have := List.length_pos_of_mem hx
    rw [List.length_cons]
    omega

/-- the desk's ring is one that the calls make -/
abbrev DOk (d : Km535.Desk) : Prop := Ok (Km535.ring d)
abbrev Rk (d : Km535.Desk) (a : Nat) : List Nat → Nat → Prop := Rank (nx d a) Km535.gathered
theorem allNames_eq (d : Km535.Desk) : Km536.allNames d = names (Km535.ring d).length (Km535.ring d).sum := by
  unfold Km536.allNames Km535.n_
  rw [ksum]
  rfl
theorem ok_all {d : Km535.Desk} (h : DOk d) {x : List Nat} (hx : x ∈ Km536.allNames d) : Ok x ∧ x.length = (Km535.ring d).length ∧ x.sum = (Km535.ring d).sum ∧ name x = x := by
  rw [allNames_eq] at hx
  exact ok_of_names h hx
theorem next_all {d : Km535.Desk} (h : DOk d) {a : Nat} {x y : List Nat} (hx : x ∈ Km536.allNames d) (hy : y ∈ nx d a x) : y ∈ Km536.allNames d := by
  obtain ⟨o, e1, e2, _⟩ := ok_all h hx
  have := next_in o ((mem_nx o).mp hy)
  rw [e1, e2] at this
  rw [allNames_eq]
  exact this
theorem nodup_all {d : Km535.Desk} (h : DOk d) : (Km536.allNames d).Nodup := by
  rw [allNames_eq]
  exact names_nodup h.size
/-- below a rank every rank is there -/
theorem rank_below {nxt : List Nat → List (List Nat)} {good : List Nat → Bool} {N : List (List Nat)} (cl : ∀ x ∈ N, ∀ y ∈ nxt x, y ∈ N) : ∀ (k : Nat) (x : List Nat), x ∈ N → Rank nxt good x k → ∀ j, j ≤ k → ∃ y ∈ N, Rank nxt good y j
  | 0, x, hx, r, j, hj => ⟨x, hx, by rw [show j = 0 by omega]; exact r⟩
  | k + 1, x, hx, r, j, hj => by
    by_cases c : j = k + 1
    · exact ⟨x, hx, by rw [c]; exact r⟩
    · cases r with
      | more f h1 h2 h3 h4 =>
        obtain ⟨y, hy, e⟩ := h4
        have := h2 y hy
        rw [e] at this
        exact rank_below cl k y (cl x hx y hy) this j (by omega)
theorem rank_few {nxt : List Nat → List (List Nat)} {good : List Nat → Bool} {N : List (List Nat)} (cl : ∀ x ∈ N, ∀ y ∈ nxt x, y ∈ N) {k : Nat} {x : List Nat} (hx : x ∈ N) (r : Rank nxt good x k) : k < N.length := by
  have key : ∀ m, m ≤ k + 1 → ∃ ys : List (List Nat), ys.length = m ∧ ys.Nodup ∧ ∀ y ∈ ys, y ∈ N ∧ ∃ j, j < m ∧ Rank nxt good y j := by
    intro m
    induction m with
    | zero => exact fun _ => ⟨[], rfl, List.nodup_nil, fun y hy => (by cases hy)⟩
    | succ m ih =>
      intro hm
      obtain ⟨ys, h1, h2, h3⟩ := ih (by omega)
      obtain ⟨y, hy, ry⟩ := rank_below cl k x hx r m (by omega)
      refine ⟨y :: ys, by rw [List.length_cons, h1], List.nodup_cons.mpr ⟨fun hm => ?_, h2⟩, fun z hz => ?_⟩
      · obtain ⟨_, j, hj, rj⟩ := h3 y hm
        have := ry.uniq rj
        omega
      · rcases List.mem_cons.mp hz with rfl | hz
        · exact ⟨hy, m, by omega, ry⟩
        · obtain ⟨g1, j, hj, rj⟩ := h3 z hz
          exact ⟨g1, j, by omega, rj⟩
  obtain ⟨ys, h1, h2, h3⟩ := key (k + 1) (Nat.le_refl _)
  have := nodup_le ys N h2 fun y hy => (h3 y hy).1
  omega

/-! ### the specification's rounds -/
theorem any_key {o : List (List Nat × Nat)} {x : List Nat} : (o.any fun q => q.1 == x) = true ↔ ∃ j, (x, j) ∈ o := by
  rw [List.any_eq_true]
  constructor
  · rintro ⟨⟨y, j⟩, h, e⟩
    exact ⟨j, by rw [← beq_iff_eq.mp e]; exact h⟩
  · rintro ⟨j, h⟩
    exact ⟨(x, j), h, beq_self_eq_true x⟩
theorem done_iff {d : Km535.Desk} {a : Nat} {x : List Nat} (o : Ok x) : Km536.done d x = true ↔ Rk d a x 0 := by
  unfold Km536.done
  rw [Bool.and_eq_true, beq_iff_eq]
  constructor
  · rintro ⟨h1, h2⟩
    exact .rest ((nx_nil o).mpr h2) h1
  · intro h
    cases h with
    | rest h1 h2 => exact ⟨h2, (nx_nil o).mp h1⟩
def Rounds (d : Km535.Desk) (a k : Nat) (o : List (List Nat × Nat)) : Prop := ∀ x j, (x, j) ∈ o ↔ x ∈ Km536.allNames d ∧ Rk d a x j ∧ j < k
theorem sureUp_is {d : Km535.Desk} (h : DOk d) (a : Nat) : ∀ (f k : Nat) (o : List (List Nat × Nat)), f + k = (Km536.allNames d).length + 2 → Rounds d a k o → ∀ x j, (x, j) ∈ Km536.sureUp d a f k o ↔ x ∈ Km536.allNames d ∧ Rk d a x j
  | 0, k, o, hf, R, x, j => by
    unfold Km536.sureUp
    rw [R x j]
    constructor
    · exact fun z => ⟨z.1, z.2.1⟩
    · intro z
      have := rank_few (fun x hx y hy => next_all h (a := a) hx hy) z.1 z.2
      exact ⟨z.1, z.2, by omega⟩
  | f + 1, k, o, hf, R, x, j => by
    unfold Km536.sureUp
    simp only
    have hmore : ∀ y, y ∈ ((Km536.allNames d).filter fun r => !(o.any fun q => q.1 == r) && (if k = 0 then Km536.done d r else eager d r != [] && (nextNames d a r).all fun x => o.any fun q => q.1 == x)) ↔ y ∈ Km536.allNames d ∧ Rk d a y k := by
      intro y
      rw [List.mem_filter]
      refine and_congr_right fun hy => ?_
      obtain ⟨ok, _⟩ := ok_all h hy
      rw [Bool.and_eq_true, Bool.not_eq_true']
      constructor
      · rintro ⟨h1, h2⟩
        have out : ∀ j, (y, j) ∉ o := fun j hj => by
          rw [any_key.mpr ⟨j, hj⟩] at h1
          cases h1
        by_cases c : k = 0
        · subst c
          rw [if_pos rfl] at h2
          exact (done_iff ok).mp h2
        · rw [if_neg c, Bool.and_eq_true, List.all_eq_true] at h2
          have ne : nx d a y ≠ [] := fun z => by
            have := (nx_nil ok).mp z
            rw [this] at h2
            simp at h2
          have rr : ∀ z ∈ nx d a y, ∃ j, j < k ∧ Rk d a z j := fun z hz => by
            obtain ⟨j, hj⟩ := any_key.mp (h2.2 z ((mem_nx ok).mp hz))
            obtain ⟨_, g1, g2⟩ := (R z j).mp hj
            exact ⟨j, g2, g1⟩
          -- the greatest of them
          have top : ∃ m, m < k ∧ Rk d a y (m + 1) := by
            have pick : ∃ f : List Nat → Nat, ∀ z ∈ nx d a y, f z < k ∧ Rk d a z (f z) := by
              haveI : ∀ z, Decidable (∃ j, j < k ∧ Rk d a z j) := fun _ => Classical.propDecidable _
              refine ⟨fun z => if hz : ∃ j, j < k ∧ Rk d a z j then Classical.choose hz else 0, fun z hz => ?_⟩
              have e := rr z hz
              simp only [dif_pos e]
              exact Classical.choose_spec e
            obtain ⟨f, hf⟩ := pick
            have hpos : 0 < ((nx d a y).map f).length := by rw [List.length_map]; exact List.length_pos_iff.mpr ne
            have tm := most_mem hpos
            obtain ⟨z, hz, ez⟩ := List.mem_map.mp tm
            refine ⟨most ((nx d a y).map f), by rw [← ez]; exact (hf z hz).1, Rank.mk ne f (fun u hu => (hf u hu).2) ⟨z, hz, ez⟩ fun u hu => most_ge (List.mem_map.mpr ⟨u, hu, rfl⟩)⟩
          obtain ⟨m, hm, rm⟩ := top
          have : ¬ m + 1 < k := fun z => out (m + 1) ((R y (m + 1)).mpr ⟨hy, rm, z⟩)
          rw [show k = m + 1 by omega]
          exact rm
      · intro r
        refine ⟨?_, ?_⟩
        · cases c : o.any fun q => q.1 == y with
          | false => rfl
          | true =>
            obtain ⟨j, hj⟩ := any_key.mp c
            obtain ⟨_, g1, g2⟩ := (R y j).mp hj
            have := r.uniq g1
            omega
        · by_cases c : k = 0
          · subst c
            rw [if_pos rfl]
            exact (done_iff ok).mpr r
          · rw [if_neg c, Bool.and_eq_true, List.all_eq_true]
            cases r with
            | rest => exact absurd rfl c
            | more f h1 h2 h3 h4 =>
              refine ⟨?_, fun z hz => any_key.mpr ⟨f z, (R z (f z)).mpr ⟨?_, h2 z ((mem_nx ok).mpr hz), ?_⟩⟩⟩
              · have : eager d y ≠ [] := fun z => h1 ((nx_nil ok).mpr z)
                simpa using this
              · exact next_all h hy ((mem_nx ok).mpr hz)
              · have := h3 z ((mem_nx ok).mpr hz)
                omega
    generalize hM : ((Km536.allNames d).filter fun r => !(o.any fun q => q.1 == r) && (if k = 0 then Km536.done d r else eager d r != [] && (nextNames d a r).all fun x => o.any fun q => q.1 == x)) = M at hmore
    by_cases c : M = [] ∧ 0 < k
    · rw [if_pos (by simp [c.1, c.2]), R x j]
      constructor
      · exact fun z => ⟨z.1, z.2.1⟩
      · intro z
        refine ⟨z.1, z.2, ?_⟩
        rcases Nat.lt_or_ge j k with q | q
        · exact q
        · obtain ⟨y, hy, ry⟩ := rank_below (fun x hx y hy => next_all h (a := a) hx hy) j x z.1 z.2 k q
          have := (hmore y).mpr ⟨hy, ry⟩
          rw [c.1] at this
          cases this
    · rw [if_neg (by simpa using c)]
      refine sureUp_is h a f (k + 1) _ (by omega) (fun y i => ?_) x j
      rw [List.mem_append, R y i]
      constructor
      · rintro (⟨h1, h2, h3⟩ | z)
        · exact ⟨h1, h2, by omega⟩
        · obtain ⟨u, hu, e⟩ := List.mem_map.mp z
          obtain ⟨rfl, rfl⟩ := Prod.mk.inj e
          obtain ⟨h1, h2⟩ := (hmore u).mp hu
          exact ⟨h1, h2, by omega⟩
      · rintro ⟨h1, h2, h3⟩
        by_cases e : i = k
        · subst e
          exact .inr (List.mem_map.mpr ⟨y, (hmore y).mpr ⟨h1, h2⟩, rfl⟩)
        · exact .inl ⟨h1, h2, by omega⟩
theorem sures_is {d : Km535.Desk} (h : DOk d) (a : Nat) (x : List Nat) (j : Nat) : (x, j) ∈ Km536.sures d a ↔ x ∈ Km536.allNames d ∧ Rk d a x j :=
  sureUp_is h a _ 0 [] rfl (fun x j => ⟨fun z => (by cases z), fun z => absurd z.2.2 (Nat.not_lt_zero _)⟩) x j
/-- THE MOST MOVES are the relation's number -/
theorem longest_is {d : Km535.Desk} (h : DOk d) (a : Nat) {l : List Nat} (hl : name l ∈ Km536.allNames d) (k : Nat) : Km536.longest d a l = some k ↔ Rk d a (name l) k := by
  unfold Km536.longest
  constructor
  · intro e
    obtain ⟨⟨y, j⟩, e1, e2⟩ := Option.map_eq_some_iff.mp e
    have q1 := List.find?_some e1
    have hy : y = name l := beq_iff_eq.mp q1
    have hj : j = k := e2
    subst hy; subst hj
    exact ((sures_is h a _ _).mp (List.mem_of_find?_eq_some e1)).2
  · intro r
    have hm := (sures_is h a (name l) k).mpr ⟨hl, r⟩
    cases e : (Km536.sures d a).find? fun q => q.1 == name l with
    | none =>
      rw [List.find?_eq_none] at e
      exact absurd (beq_self_eq_true _) (e _ hm)
    | some q =>
      obtain ⟨y, j⟩ := q
      have q1 := List.find?_some e
      have hy : y = name l := beq_iff_eq.mp q1
      subst hy
      have := ((sures_is h a _ _).mp (List.mem_of_find?_eq_some e)).2.uniq r
      rw [this]
      rfl

/-! ### the program's passes: F is what its dict holds -/
def known (d : Km535.Desk) (a : Nat) (F : List Nat → Option Nat) (x : List Nat) : Option Nat :=
  if nx d a x = [] then (if Km535.gathered x = true then some 0 else none) else if (nx d a x).all (fun y => (F y).isSome) = true then some (1 + most ((nx d a x).map fun y => (F y).getD 0)) else none
theorem known_sound {d : Km535.Desk} {a : Nat} {F : List Nat → Option Nat} (hF : ∀ x k, F x = some k → Rk d a x k) {x : List Nat} {m : Nat} (h : known d a F x = some m) : Rk d a x m := by
  unfold known at h
  split at h
  · rename_i c
    split at h
    · rename_i g
      obtain rfl := Option.some.inj h
      exact .rest c g
    · cases h
  · rename_i c
    split at h
    · rename_i g
      obtain rfl := Option.some.inj h
      rw [List.all_eq_true] at g
      have rr : ∀ y ∈ nx d a x, Rk d a y ((F y).getD 0) := fun y hy => by
        have := g y hy
        cases e : F y with
        | none => rw [e] at this; cases this
        | some k => exact hF y k e
      have hpos : 0 < ((nx d a x).map fun y => (F y).getD 0).length := by rw [List.length_map]; exact List.length_pos_iff.mpr c
      obtain ⟨z, hz, ez⟩ := List.mem_map.mp (most_mem hpos)
      rw [Nat.add_comm]
      exact Rank.mk c (fun y => (F y).getD 0) rr ⟨z, hz, ez⟩ fun u hu => most_ge (List.mem_map.mpr ⟨u, hu, rfl⟩)
    · cases h
theorem known_all {d : Km535.Desk} (h : DOk d) {a : Nat} {F : List Nat → Option Nat} (hF : ∀ x k, F x = some k → Rk d a x k) (hC : ∀ x ∈ Km536.allNames d, (known d a F x).isSome = true → (F x).isSome = true) {x : List Nat} {k : Nat} (r : Rk d a x k) : x ∈ Km536.allNames d → F x = some k := by
  induction r with
  | @rest x h1 h2 =>
    intro hx
    have e : known d a F x = some 0 := by
      unfold known
      rw [if_pos h1, if_pos h2]
    have := hC x hx (by rw [e]; rfl)
    cases eF : F x with
    | none => rw [eF] at this; cases this
    | some j => rw [(hF x j eF).uniq (.rest h1 h2)]
  | @more x k f h1 h2 h3 h4 ih =>
    intro hx
    have al : (nx d a x).all (fun y => (F y).isSome) = true := List.all_eq_true.mpr fun y hy => by
      rw [ih y hy (next_all h hx hy)]
      rfl
    have := hC x hx (by
      unfold known
      rw [if_neg h1, if_pos al]
      rfl)
    cases eF : F x with
    | none => rw [eF] at this; cases this
    | some j => rw [(hF x j eF).uniq (.more f h1 h2 h3 h4)]
/-- behind the last pass the dict holds the most moves of all names -/
theorem known_end {d : Km535.Desk} (h : DOk d) {a : Nat} {F : List Nat → Option Nat} (hF : ∀ x k, F x = some k → Rk d a x k) (hC : ∀ x ∈ Km536.allNames d, (known d a F x).isSome = true → (F x).isSome = true) {x : List Nat} (hx : x ∈ Km536.allNames d) : F x = Km536.longest d a x := by
  have e := (ok_all h hx).2.2.2
  cases c : Km536.longest d a x with
  | some k =>
    have := (longest_is h a (by rw [e]; exact hx) k).mp c
    rw [e] at this
    exact known_all h hF hC this hx
  | none =>
    cases eF : F x with
    | none => rfl
    | some k =>
      have := (longest_is h a (by rw [e]; exact hx) k).mpr (by rw [e]; exact hF x k eF)
      rw [c] at this
      cases this
end Gs
/-! How many plays there are at the most. -/
namespace Gs
open Km534 (less from_ back rows name names allRows sees)
open Km535 (move doAll splits different nextBy nextNames eager goes)
/-- the places to which steps lead -/
def Ts (n : Nat) (S : Nat → List Int) (p : Nat) : List Nat := (S p).map (goTo n p)
/-- steps as the rule gives them -/
structure Stps (e : Nat) (r : List Nat) (S : Nat → List Int) : Prop where
  form : ∀ p, S p = [] ∨ S p = lesser e r p ∨ S p = (lesser e r p).map fun x => -x
  void : ∀ p, r.getD p 0 = 0 → S p = []
theorem Stps.ones {e : Nat} {r : List Nat} {S : Nat → List Int} (h : Stps e r S) (p : Nat) : ∀ s ∈ S p, s = 1 ∨ s = -1 := by
  intro s hs
  rcases h.form p with z | z | z <;> rw [z] at hs
  · cases hs
  · rcases lesser_cases e r p with y | y | y <;> rw [y] at hs <;> simp at hs <;> omega
  · rcases lesser_cases e r p with y | y | y <;> rw [y] at hs <;> simp at hs <;> omega
theorem Stps.two {e : Nat} {r : List Nat} {S : Nat → List Int} (h : Stps e r S) (p : Nat) : (S p).length ≤ (if onw e r p = bkw e r p then 2 else 1) := by
  have key : (lesser e r p).length ≤ (if onw e r p = bkw e r p then 2 else 1) := by
    unfold lesser
    by_cases c : onw e r p = bkw e r p
    · rw [if_pos c, if_pos c]; exact Nat.le_refl _
    · rw [if_neg c, if_neg c]
      split <;> exact Nat.le_refl _
  rcases h.form p with z | z | z <;> rw [z]
  · exact Nat.zero_le _
  · exact key
  · rw [List.length_map]; exact key
theorem Stps.tok {e : Nat} {r : List Nat} {S : Nat → List Int} (h : Stps e r S) (h3 : 3 ≤ r.length) : Tok r.length (Ts r.length S) where
  two p := by
    unfold Ts
    rw [List.length_map]
    have := h.two p
    split at this <;> omega
  off p hp q hq := by
    obtain ⟨s, hs, rfl⟩ := List.mem_map.mp hq
    rcases h.ones p s hs with rfl | rfl
    · rw [goTo_on]; exact next_ne h3 hp
    · rw [goTo_back (by omega)]; exact back_ne h3 hp
  on p q hq := by
    obtain ⟨s, hs, rfl⟩ := List.mem_map.mp hq
    rcases h.ones p s hs with rfl | rfl
    · rw [goTo_on]; exact Nat.mod_lt _ (by omega)
    · rw [goTo_back (by omega)]; exact Nat.mod_lt _ (by omega)

/-! ### counting ways -/
def hereAll (l : List Nat) (T : Nat → List Nat) (p : Nat) : List (List (Nat × Nat)) := (List.range (l.getD p 0 + 1)).flatMap fun x => splits p (T p) x
def waysOf (l : List Nat) (T : Nat → List Nat) (ps : List Nat) (W : List (List (Nat × Nat))) : List (List (Nat × Nat)) := ps.foldl (fun (w : List (List (Nat × Nat))) (p : Nat) => w.flatMap fun a => (hereAll l T p).map fun b => a ++ b) W
theorem len_flat_const {α β : Type} (f : α → List β) (n : Nat) : ∀ l : List α, (∀ a ∈ l, (f a).length = n) → (l.flatMap f).length = l.length * n
  | [], _ => by simp
  | a :: l, h => by
    rw [List.flatMap_cons, List.length_append, h a List.mem_cons_self, len_flat_const f n l fun b hb => h b (List.mem_cons_of_mem _ hb), List.length_cons, Nat.succ_mul]
    omega
theorem len_ways (l : List Nat) (T : Nat → List Nat) : ∀ (ps : List Nat) (W : List (List (Nat × Nat))), (waysOf l T ps W).length = W.length * (ps.map fun p => (hereAll l T p).length).foldr (· * ·) 1
  | [], W => by simp [waysOf]
  | p :: ps, W => by
    have e := len_ways l T ps (W.flatMap fun a => (hereAll l T p).map fun b => a ++ b)
    show (waysOf l T ps (W.flatMap fun a => (hereAll l T p).map fun b => a ++ b)).length = _
    rw [e, len_flat_const _ (hereAll l T p).length W fun a _ => List.length_map _, List.map_cons, List.foldr_cons, Nat.mul_assoc]
def tri : Nat → Nat
  | 0 => 1
  | x + 1 => tri x + (x + 2)
theorem len_here (l : List Nat) (T : Nat → List Nat) (p : Nat) : (hereAll l T p).length ≤ (if (T p).length = 0 then 1 else if (T p).length = 1 then l.getD p 0 + 1 else tri (l.getD p 0)) := by
  unfold hereAll
  generalize l.getD p 0 = x
  generalize T p = t
  match t with
  | [] =>
    simp only [List.length_nil, if_true]
    induction x with
    | zero => simp [splits]
    | succ x ih =>
      rw [List.range_succ, List.flatMap_append, List.length_append]
      have : ([x + 1].flatMap fun y => splits p [] y).length = 0 := by simp [splits]
      omega
  | [a] =>
    simp only [List.length_singleton, Nat.one_ne_zero, if_false, if_true]
    induction x with
    | zero => simp [splits]
    | succ x ih =>
      rw [List.range_succ, List.flatMap_append, List.length_append]
      have : ([x + 1].flatMap fun y => splits p [a] y).length = 1 := by simp [splits]
      omega
  | a :: b :: r =>
    have n0 : ¬ (a :: b :: r).length = 0 := by simp
    have n1 : ¬ (a :: b :: r).length = 1 := by simp
    rw [if_neg n0, if_neg n1]
    induction x with
    | zero => simp [splits, tri]
    | succ x ih =>
      rw [List.range_succ, List.flatMap_append, List.length_append]
      have : ([x + 1].flatMap fun y => splits p (a :: b :: r) y).length = x + 2 := by simp [splits]
      show _ ≤ tri x + (x + 2)
      omega
/-- the bound at a place -/
def bndAt (e : Nat) (r : List Nat) (p : Nat) : Nat := if r.getD p 0 = 0 then 1 else if onw e r p = bkw e r p then tri (r.getD p 0) else r.getD p 0 + 1
def bnd (e : Nat) (r : List Nat) : Nat := ((List.range r.length).map (bndAt e r)).foldr (· * ·) 1
theorem tri_ge : ∀ x, x + 1 ≤ tri x
  | 0 => Nat.le_refl _
  | x + 1 => by
    have := tri_ge x
    show x + 2 ≤ tri x + (x + 2)
    omega
theorem Stps.here {e : Nat} {r : List Nat} {S : Nat → List Int} (h : Stps e r S) (n p : Nat) : (hereAll r (Ts n S) p).length ≤ bndAt e r p := by
  have h1 := len_here r (Ts n S) p
  have e1 : (Ts n S p).length = (S p).length := List.length_map _
  rw [e1] at h1
  have h2 := h.two p
  have h3 := tri_ge (r.getD p 0)
  unfold bndAt
  by_cases c : r.getD p 0 = 0
  · rw [if_pos c]
    rw [h.void p c] at h1
    exact h1
  · rw [if_neg c]
    by_cases d : onw e r p = bkw e r p
    · rw [if_pos d] at h2 ⊢
      split at h1
      · omega
      · split at h1 <;> omega
    · rw [if_neg d] at h2 ⊢
      split at h1
      · omega
      · split at h1 <;> omega
theorem prod_le : ∀ {a b : List Nat}, a.length = b.length → (∀ i, a.getD i 0 ≤ b.getD i 0) → a.foldr (· * ·) 1 ≤ b.foldr (· * ·) 1
  | [], [], _, _ => Nat.le_refl _
  | [], _ :: _, h, _ => by simp at h
  | _ :: _, [], h, _ => by simp at h
  | x :: a, y :: b, h, hi => by
    have h0 := hi 0
    have ih := prod_le (a := a) (b := b) (by simpa using h) fun i => hi (i + 1)
    exact Nat.mul_le_mul h0 ih
theorem bnd_facts : everyT (fun r => decide (bnd 0 r ≤ 62 ∧ bnd 1 r ≤ 62 ∧ bnd 2 r ≤ 62) || r == [1, 1, 1, 1]) = true := by decide +kernel
theorem Stps.ways {e : Nat} {r : List Nat} {S : Nat → List Int} (h : Stps e r S) : (waysOf r (Ts r.length S) (List.range r.length) [[]]).length ≤ bnd e r := by
  rw [len_ways, List.length_singleton, Nat.one_mul]
  refine prod_le (by simp) fun i => ?_
  rw [List.getD_eq_getElem?_getD, List.getD_eq_getElem?_getD, List.getElem?_map, List.getElem?_map]
  by_cases c : i < r.length
  · rw [List.getElem?_range c]
    exact h.here r.length i
  · rw [List.getElem?_eq_none (by simpa using c)]
    exact Nat.le_refl _
/-- every play is one of the ways -/
theorem play_way {r : List Nat} {T : Nat → List Nat} (t : Tok r.length T) {w : List (Nat × Nat)} (f : Play r T w) : ∃ v ∈ waysOf r T (List.range r.length) [[]], v.length = w.length ∧ doAll r v = doAll r w := by
  obtain ⟨v, fv, lv, ev⟩ := play_order (R := fun _ _ => True) t (fun p hp => List.mem_range.mp hp) (f.mono fun p _ b hb => ⟨hb, trivial⟩)
  refine ⟨v, ?_, lv, ev r⟩
  unfold waysOf
  rw [mem_ways]
  exact ⟨[], List.mem_singleton.mpr rfl, v, fv.mono fun p _ b hb => List.mem_flatMap.mpr ⟨b.length, List.mem_range.mpr (by omega), hb.1⟩, rfl⟩
/-! ### the one ring with more ways: four places, one robot at each -/
def full4 (p : Nat) : List Nat := [(p + 1) % 4, (p + 3) % 4]
def dd : List (Nat × List Nat) → List (Nat × List Nat)
  | [] => []
  | x :: l => if (dd l).contains x then dd l else x :: dd l
theorem mem_dd : ∀ (l : List (Nat × List Nat)) (x : Nat × List Nat), x ∈ l → x ∈ dd l
  | y :: l, x, h => by
    unfold dd
    by_cases c : (dd l).contains y = true
    · rw [if_pos c]
      rcases List.mem_cons.mp h with rfl | h
      · exact List.contains_iff_mem.mp c
      · exact mem_dd l x h
    · rw [if_neg c]
      rcases List.mem_cons.mp h with rfl | h
      · exact List.mem_cons_self
      · exact List.mem_cons_of_mem _ (mem_dd l x h)
def plays4 : List (Nat × List Nat) := dd ((waysOf [1, 1, 1, 1] full4 [0, 1, 2, 3] [[]]).map fun w => (w.length, doAll [1, 1, 1, 1] w))
theorem plays4_few : plays4.length ≤ 62 := by decide +kernel
theorem full4_tok : Tok 4 full4 where
  two p := Nat.le_refl _
  off p hp q hq := by
    simp only [full4, List.mem_cons, List.not_mem_nil, or_false] at hq
    rcases hq with rfl | rfl <;> omega
  on p q hq := by
    simp only [full4, List.mem_cons, List.not_mem_nil, or_false] at hq
    rcases hq with rfl | rfl <;> omega
/-- FEW PLAYS: at most 62 of them -/
theorem Stps.few {e : Nat} {r : List Nat} {S : Nat → List Int} (h : Stps e r S) (he : e ≤ 2) (o : Ok r) : ∃ D : List (Nat × List Nat), D.length ≤ 62 ∧ ∀ w, Play r (Ts r.length S) w → (w.length, doAll r w) ∈ D := by
  have t := h.tok o.lo
  have z := o.of_everyT bnd_facts
  rw [Bool.or_eq_true, decide_eq_true_eq, beq_iff_eq] at z
  rcases z with z | z
  · refine ⟨(waysOf r (Ts r.length S) (List.range r.length) [[]]).map fun w => (w.length, doAll r w), ?_, fun w f => ?_⟩
    · rw [List.length_map]
      refine Nat.le_trans h.ways ?_
      match e, he with
      | 0, _ => exact z.1
      | 1, _ => exact z.2.1
      | 2, _ => exact z.2.2
    · obtain ⟨v, hv, e1, e2⟩ := play_way t f
      exact List.mem_map.mpr ⟨v, hv, by rw [e1, e2]⟩
  · refine ⟨plays4, plays4_few, fun w f => ?_⟩
    have f4 : Play r full4 w := f.mono fun p hp b hb => by
      obtain ⟨qs, e1, e2, e3⟩ := hb
      refine ⟨qs, e1, fun q hq => ?_, e3⟩
      obtain ⟨s, hs, rfl⟩ := List.mem_map.mp (e2 q hq)
      have hl : r.length = 4 := by rw [z]; rfl
      rw [hl]
      rcases h.ones p s hs with rfl | rfl
      · rw [goTo_on]; exact List.mem_cons_self
      · rw [goTo_back (by omega)]; exact List.mem_cons_of_mem _ List.mem_cons_self
    subst z
    obtain ⟨v, hv, e1, e2⟩ := play_way (r := [1, 1, 1, 1]) full4_tok f4
    refine mem_dd _ _ (List.mem_map.mpr ⟨v, hv, by rw [e1, e2]⟩)
end Gs
namespace Gs
/-! ### the list of calls -/
def args : List Nat := [2, 2, 1, 2, 1, 1, 1, 0, 0, 0, 0, 0, 0, 0, 0, 0, 0, 1, 2, 0, 1, 0, 0]
def nArg (c : Nat) : Nat := args.getD c 0
theorem shape_is {p : Int} {n k : Nat} (h : PyKm536.shape p = some (n, k)) : ∃ c : Nat, c < 23 ∧ p = (c : Int) ∧ n = nArg c ∧ k = 0 := by
  by_cases c0 : 0 ≤ p
  · by_cases c1 : p < 23
    · obtain ⟨c, rfl⟩ := Int.eq_ofNat_of_zero_le c0
      have hc : c < 23 := by omega
      refine ⟨c, hc, rfl, ?_⟩
      have all : ∀ c : Fin 23, PyKm536.shape ((c.val : Nat) : Int) = some (nArg c.val, 0) := by decide
      have e := all ⟨c, hc⟩
      rw [show PyKm536.shape ((c : Nat) : Int) = some (nArg c, 0) from e] at h
      injection h with h
      injection h with h1 h2
      exact ⟨h1.symm, h2.symm⟩
    · exfalso
      unfold PyKm536.shape at h
      simp only [show ∀ q : Int, q < 23 → (p = q) = False from fun q hq => by simp; omega, if_false, show (0:Int) < 23 by decide, show (1:Int) < 23 by decide, show (2:Int) < 23 by decide, show (3:Int) < 23 by decide, show (4:Int) < 23 by decide, show (5:Int) < 23 by decide, show (6:Int) < 23 by decide, show (7:Int) < 23 by decide, show (8:Int) < 23 by decide, show (9:Int) < 23 by decide, show (10:Int) < 23 by decide, show (11:Int) < 23 by decide, show (12:Int) < 23 by decide, show (13:Int) < 23 by decide, show (14:Int) < 23 by decide, show (15:Int) < 23 by decide, show (16:Int) < 23 by decide, show (17:Int) < 23 by decide, show (18:Int) < 23 by decide, show (19:Int) < 23 by decide, show (20:Int) < 23 by decide, show (21:Int) < 23 by decide, show (22:Int) < 23 by decide] at h
      cases h
  · exfalso
    unfold PyKm536.shape at h
    repeat rw [if_neg (by omega)] at h
    cases h
theorem calls_cons {f : Nat} {p : Int} {r : List Int} {cs : List (List (List Int))} (h : PyFlat.calls PyKm536.shape f (p :: r) = some cs) :
    ∃ c : Nat, c < 23 ∧ p = (c : Int) ∧ nArg c ≤ r.length ∧ ∃ cs' f', cs = [p :: r.take (nArg c)] :: cs' ∧ PyFlat.calls PyKm536.shape f' (r.drop (nArg c)) = some cs' := by
  cases f with
  | zero => cases h
  | succ f =>
    simp only [PyFlat.calls, PyFlat.call] at h
    cases es : PyKm536.shape p with
    | none => rw [es] at h; cases h
    | some q =>
      obtain ⟨n, k⟩ := q
      rw [es] at h
      obtain ⟨c, hc, ep, en, ek⟩ := shape_is es
      subst en ek
      refine ⟨c, hc, ep, ?_⟩
      by_cases hl : r.length < nArg c
      · simp only [hl, if_true] at h
        cases h
      · simp only [hl, if_false, PyFlat.rows] at h
        cases e2 : PyFlat.calls PyKm536.shape f (r.drop (nArg c)) with
        | none => rw [e2] at h; cases h
        | some cs' =>
          rw [e2] at h
          injection h with h
          exact ⟨by omega, cs', f, h.symm, e2⟩
theorem whole_id (c : List (List Int)) : PyKm536.whole c = c := by
  unfold PyKm536.whole
  split <;> rfl
theorem map_whole (cs : List (List (List Int))) : cs.map PyKm536.whole = cs := by
  rw [show PyKm536.whole = id from funext whole_id, List.map_id]
/-- what is left to answer -/
def rest (st : Km536.State) (cs : List (List (List Int))) : List Int := PyFlat.told (PyFlat.played Km536Neutral.step st cs)
theorem rest_nil (st : Km536.State) : rest st [] = [] := rfl
theorem rest_cons {st : Km536.State} {c : List (List Int)} {cs : List (List (List Int))} {cl : Km536.Call} (h : Km536Neutral.callOf c = some cl) :
    rest st (c :: cs) = (((Km536.step st cl).2.num :: (Km536.step st cl).2.nums).length : Int) :: ((Km536.step st cl).2.num :: (Km536.step st cl).2.nums) ++ rest (Km536.step st cl).1 cs := by
  have e : Km536Neutral.step st c = ((Km536.step st cl).1, (Km536.step st cl).2.num :: (Km536.step st cl).2.nums) := by
    unfold Km536Neutral.step
    rw [h]
  unfold rest PyFlat.told
  rw [PyFlat.played, e]
  rfl
theorem nat_of {z : Int} (h : Km536Neutral.natural z = true) : ∃ n : Nat, z = (n : Int) := by
  unfold Km536Neutral.natural at h
  rw [Bool.and_eq_true] at h
  exact Int.eq_ofNat_of_zero_le (of_decide_eq_true h.1)
/-- a call that may be asked: its number and its numbers -/
def callN (c : Nat) (xs : List Nat) : Option Km536.Call := Km536Neutral.callOf [(c : Int) :: xs.map fun (x : Nat) => (x : Int)]
theorem asked_call {p : Int} {r : List Int} (h : Km536Neutral.asked1 [p :: r] = true) : ∃ (xs : List Nat) (cl : Km536.Call), r = (xs.map fun (x : Nat) => (x : Int)) ∧ Km536Neutral.callOf [p :: r] = some cl := by
  unfold Km536Neutral.asked1 at h
  have two : ∀ {a b : Int}, Km536Neutral.naturals [a, b] = true → ∃ xs : List Nat, [a, b] = xs.map fun (x : Nat) => (x : Int) := fun {a b} h => by
    simp only [Km536Neutral.naturals, List.all_cons, List.all_nil, Bool.and_true, Bool.and_eq_true] at h
    obtain ⟨x, rfl⟩ := nat_of h.1
    obtain ⟨y, rfl⟩ := nat_of h.2
    exact ⟨[x, y], rfl⟩
  have one : ∀ {a : Int}, Km536Neutral.naturals [a] = true → ∃ xs : List Nat, [a] = xs.map fun (x : Nat) => (x : Int) := fun {a} h => by
    simp only [Km536Neutral.naturals, List.all_cons, List.all_nil, Bool.and_true] at h
    obtain ⟨x, rfl⟩ := nat_of h
    exact ⟨[x], rfl⟩
  split at h
  all_goals first
    | (cases h; done)
    | (rename_i e; injection e with e _; injection e with e1 e2; subst e1 e2; first | exact (let ⟨xs, hx⟩ := two h; ⟨xs, _, hx, rfl⟩) | exact (let ⟨xs, hx⟩ := one h; ⟨xs, _, hx, rfl⟩) | exact ⟨[], _, rfl, rfl⟩)
end Gs
namespace Gs
open Km534 (names name)
open Km535 (nextNames different)
/-! ### soonest: walks over names -/
inductive Wk (d : Km535.Desk) (a : Nat) (s : List Nat) : Nat → List Nat → Prop
  | start : Wk d a s 0 s
  | more {k : Nat} {x y : List Nat} (h : Wk d a s k x) (hy : y ∈ nx d a x) : Wk d a s (k + 1) y
theorem Wk.all {d : Km535.Desk} (h : DOk d) {a : Nat} {s : List Nat} (hs : s ∈ Km536.allNames d) {k : Nat} {x : List Nat} (w : Wk d a s k x) : x ∈ Km536.allNames d := by
  induction w with
  | start => exact hs
  | more _ hy ih => exact next_all h ih hy
theorem diff_nodup_from : ∀ (l o : List (List Nat)), o.Nodup → (l.foldl (fun (o : List (List Nat)) (x : List Nat) => if o.contains x then o else o ++ [x]) o).Nodup
  | [], _, h => h
  | x :: l, o, h => by
    rw [List.foldl_cons]
    by_cases c : o.contains x = true
    · rw [if_pos c]
      exact diff_nodup_from l o h
    · rw [if_neg c]
      refine diff_nodup_from l _ (List.nodup_append.mpr ⟨h, (by simp), fun p hp q hq e => c ?_⟩)
      rw [← List.mem_singleton.mp hq, ← e]
      exact List.contains_iff_mem.mpr hp
theorem diff_nodup (l : List (List Nat)) : (different l).Nodup := diff_nodup_from l [] List.nodup_nil
/-- what an answer of soonest tells -/
def Soon (d : Km535.Desk) (a : Nat) (s : List Nat) : Option Nat → Prop
  | some m => (∃ x, Wk d a s m x ∧ Km536.done d x = true) ∧ ∀ j, j < m → ∀ x, Wk d a s j x → Km536.done d x = false
  | none => ∀ j x, Wk d a s j x → Km536.done d x = false
theorem Soon.uniq {d : Km535.Desk} {a : Nat} {s : List Nat} {o p : Option Nat} (h : Soon d a s o) (g : Soon d a s p) : o = p := by
  have no : ∀ {b : Bool}, b = true → b = false → False := fun h g => by rw [h] at g; cases g
  cases o with
  | none =>
    cases p with
    | none => rfl
    | some m =>
      obtain ⟨⟨x, w, e⟩, _⟩ := g
      exact (no e (h m x w)).elim
  | some n =>
    obtain ⟨⟨x, w, e⟩, b⟩ := h
    cases p with
    | none => exact (no e (g n x w)).elim
    | some m =>
      obtain ⟨⟨y, v, i⟩, c⟩ := g
      rcases Nat.lt_trichotomy n m with z | z | z
      · exact (no e (c n z x w)).elim
      · rw [z]
      · exact (no i (b m z y v)).elim
theorem soonUp_is {d : Km535.Desk} (h : DOk d) {a : Nat} {s : List Nat} (hs : s ∈ Km536.allNames d) : ∀ (f k : Nat) (now old : List (List Nat)),
    (∀ x, x ∈ old ↔ ∃ j, j ≤ k ∧ Wk d a s j x) → (∀ x, x ∈ now ↔ Wk d a s k x ∧ ∀ j, j < k → ¬ Wk d a s j x) → (∀ j, j < k → ∀ x, Wk d a s j x → Km536.done d x = false) → old.Nodup → (Km536.allNames d).length < old.length + f →
    Soon d a s (Km536.soonestUp d a f k now old)
  | 0, k, now, old, ho, _, _, nd, hf => by
    have := nodup_le old (Km536.allNames d) nd fun x hx => by
      obtain ⟨j, _, w⟩ := (ho x).mp hx
      exact w.all h hs
    omega
  | f + 1, k, now, old, ho, hn, hd, nd, hf => by
    unfold Km536.soonestUp
    by_cases c : (now.any fun r => Km536.done d r) = true
    · rw [if_pos c]
      obtain ⟨x, hx, e⟩ := List.any_eq_true.mp c
      exact ⟨⟨x, ((hn x).mp hx).1, e⟩, hd⟩
    · rw [if_neg c]
      have hd2 : ∀ j, j < k + 1 → ∀ x, Wk d a s j x → Km536.done d x = false := fun j hj x w => by
        by_cases e : ∃ i, i < k ∧ Wk d a s i x
        · obtain ⟨i, hi, v⟩ := e
          exact hd i hi x v
        · have ej : j = k := by
            rcases Nat.lt_or_ge j k with z | z
            · exact (e ⟨j, z, w⟩).elim
            · omega
          rw [ej] at w
          cases ed : Km536.done d x with
          | false => rfl
          | true => exact (c (List.any_eq_true.mpr ⟨x, (hn x).mpr ⟨w, fun i hi v => e ⟨i, hi, v⟩⟩, ed⟩)).elim
      have hx2 : ∀ x, x ∈ ((different (now.flatMap fun r => nextNames d a r)).filter fun r => !old.contains r) ↔ Wk d a s (k + 1) x ∧ ∀ j, j < k + 1 → ¬ Wk d a s j x := fun x => by
        rw [List.mem_filter, mem_different, List.mem_flatMap]
        constructor
        · rintro ⟨⟨y, hy, hx⟩, hc⟩
          have wy := ((hn y).mp hy).1
          have nx' : x ∈ nx d a y := (mem_nx (ok_all h (wy.all h hs)).1).mpr hx
          refine ⟨.more wy nx', fun j hj w => ?_⟩
          have : x ∈ old := (ho x).mpr ⟨j, by omega, w⟩
          rw [List.contains_iff_mem.mpr this] at hc
          cases hc
        · rintro ⟨w, hno⟩
          have hold : x ∉ old := fun z => by
            obtain ⟨j, hj, v⟩ := (ho x).mp z
            exact hno j (by omega) v
          cases w with
          | more v hy =>
            rename_i y
            refine ⟨⟨y, (hn y).mpr ⟨v, fun j hj u => hno (j + 1) (by omega) (.more u hy)⟩, (mem_nx (ok_all h (v.all h hs)).1).mp hy⟩, ?_⟩
            cases e : old.contains x with
            | false => rfl
            | true => exact (hold (List.contains_iff_mem.mp e)).elim
      generalize hg : ((different (now.flatMap fun r => nextNames d a r)).filter fun r => !old.contains r) = next at hx2
      dsimp only
      by_cases cn : next = []
      · rw [if_pos cn]
        have cl : ∀ j x, Wk d a s j x → x ∈ old := fun j x w => by
          induction w with
          | start => exact (ho s).mpr ⟨0, Nat.zero_le _, .start⟩
          | more v hy ih =>
            rename_i j' x' y
            obtain ⟨i, hi, u⟩ := (ho x').mp ih
            by_cases e : ∃ m, m < k + 1 ∧ Wk d a s m y
            · obtain ⟨m, hm, um⟩ := e
              exact (ho y).mpr ⟨m, by omega, um⟩
            · have ik : i = k := by
                rcases Nat.lt_or_ge i k with z | z
                · exact (e ⟨i + 1, by omega, .more u hy⟩).elim
                · omega
              rw [ik] at u
              have : y ∈ next := (hx2 y).mpr ⟨.more u hy, fun m hm um => e ⟨m, hm, um⟩⟩
              rw [cn] at this
              cases this
        intro j x w
        obtain ⟨i, hi, v⟩ := (ho x).mp (cl j x w)
        exact hd2 i (by omega) x v
      · rw [if_neg cn]
        refine soonUp_is h hs f (k + 1) next (old ++ next) (fun x => ?_) hx2 hd2 ?_ ?_
        · rw [List.mem_append, ho, hx2]
          constructor
          · rintro (⟨j, hj, w⟩ | ⟨w, _⟩)
            · exact ⟨j, by omega, w⟩
            · exact ⟨k + 1, Nat.le_refl _, w⟩
          · rintro ⟨j, hj, w⟩
            by_cases e : ∃ i, i ≤ k ∧ Wk d a s i x
            · exact .inl e
            · have ej : j = k + 1 := by
                rcases Nat.lt_or_ge j (k + 1) with z | z
                · exact (e ⟨j, by omega, w⟩).elim
                · omega
              rw [ej] at w
              exact .inr ⟨w, fun i hi v => e ⟨i, by omega, v⟩⟩
        · refine List.nodup_append.mpr ⟨nd, ?_, fun p hp q hq e => ?_⟩
          · rw [← hg]
            exact (diff_nodup _).filter _
          · rw [← e] at hq
            obtain ⟨j, hj, w⟩ := (ho p).mp hp
            exact ((hx2 p).mp hq).2 j (by omega) w
        · rw [List.length_append]
          have : 0 < next.length := List.length_pos_iff.mpr cn
          omega
theorem few_all {d : Km535.Desk} (h : DOk d) : (Km536.allNames d).length ≤ 20 := by
  rw [allNames_eq]
  exact names_few h.size
theorem soonest_is {d : Km535.Desk} (h : DOk d) (a : Nat) {l : List Nat} (hl : name l ∈ Km536.allNames d) : Soon d a (name l) (Km536.soonest d a l) := by
  refine soonUp_is h hl 300 0 [name l] [name l] (fun x => ?_) (fun x => ?_) (fun j hj => by omega) (by simp) ?_
  · rw [List.mem_singleton]
    constructor
    · rintro rfl
      exact ⟨0, Nat.le_refl _, .start⟩
    · rintro ⟨j, hj, w⟩
      have : j = 0 := by omega
      subst this
      cases w
      rfl
  · rw [List.mem_singleton]
    constructor
    · rintro rfl
      exact ⟨.start, fun j hj => by omega⟩
    · rintro ⟨w, _⟩
      cases w
      rfl
  · have := few_all h
    show _ < 1 + 300
    omega
/-! ### bad -/
def nb (d : Km535.Desk) (a : Nat) (r : List Nat) : Option (List Nat) := (nx d a r).find? fun x => !Km536.sure d a x
theorem find_nb {d : Km535.Desk} (h : DOk d) {a : Nat} {r : List Nat} (hr : r ∈ Km536.allNames d) : ((Km536.allNames d).find? fun x => (nextNames d a r).contains x && !Km536.sure d a x) = nb d a r := by
  unfold nb nx
  rw [List.find?_filter, allNames_eq]
  obtain ⟨_, e1, e2, _⟩ := ok_all h hr
  rw [e1, e2]
  refine congrArg (fun p => List.find? p _) (funext fun x => ?_)
  cases (nextNames d a r).contains x <;> cases Km536.sure d a x <;> rfl
theorem nb_next {d : Km535.Desk} {a : Nat} {r x : List Nat} (e : nb d a r = some x) : x ∈ nx d a r ∧ Km536.sure d a x = false := by
  have h1 := List.mem_of_find?_eq_some e
  have h2 := List.find?_some e
  exact ⟨h1, by simpa using h2⟩
/-- how far a bad play is -/
structure Bad (d : Km535.Desk) (a : Nat) (l : List Nat) (w : List (List Nat)) : Prop where
  fuel : ∃ f, f + w.length = 301 ∧ Km536.bad d a l = Km536.badUp d a f w
  once : w.Nodup
  all : ∀ x ∈ w, x ∈ Km536.allNames d
theorem Bad.start {d : Km535.Desk} {a : Nat} {l : List Nat} (hl : name l ∈ Km536.allNames d) : Bad d a l [name l] := ⟨⟨300, rfl, rfl⟩, by simp, fun x hx => by rw [List.mem_singleton.mp hx]; exact hl⟩
theorem Bad.len {d : Km535.Desk} (h : DOk d) {a : Nat} {l : List Nat} {w : List (List Nat)} (b : Bad d a l w) : w.length ≤ 20 := Nat.le_trans (nodup_le w _ b.once b.all) (few_all h)
theorem Bad.step {d : Km535.Desk} (h : DOk d) {a : Nat} {l : List Nat} {w : List (List Nat)} {r : List Nat} (b : Bad d a l (w ++ [r])) :
    (nb d a r = none → Km536.bad d a l = w ++ [r]) ∧ ∀ x, nb d a r = some x → (x ∈ w ++ [r] → Km536.bad d a l = w ++ [r] ++ [x]) ∧ (x ∉ w ++ [r] → Bad d a l (w ++ [r] ++ [x])) := by
  obtain ⟨f, ef, e⟩ := b.fuel
  have hlen := b.len h
  have hr := b.all r (by simp)
  cases f with
  | zero => omega
  | succ f =>
    have e2 : Km536.bad d a l = match nb d a r with
        | none => w ++ [r]
        | some x => if (w ++ [r]).contains x then w ++ [r] ++ [x] else Km536.badUp d a f (w ++ [r] ++ [x]) := by
      rw [e, Km536.badUp, List.getLast?_append, ← find_nb h hr]
      rfl
    refine ⟨fun z => by rw [e2, z], fun x z => ⟨fun hx => ?_, fun hx => ⟨⟨f, ?_, ?_⟩, ?_, ?_⟩⟩⟩
    · rw [e2, z]
      dsimp only
      rw [if_pos (List.contains_iff_mem.mpr hx)]
    · rw [List.length_append]
      show f + (_ + 1) = _
      omega
    · rw [e2, z]
      dsimp only
      rw [if_neg fun y => hx (List.contains_iff_mem.mp y)]
    · refine List.nodup_append.mpr ⟨b.once, (by simp), fun p hp q hq y => hx ?_⟩
      rw [← List.mem_singleton.mp hq, ← y]
      exact hp
    · intro y hy
      rcases List.mem_append.mp hy with z1 | z1
      · exact b.all y z1
      · rw [List.mem_singleton.mp z1]
        exact next_all h hr (nb_next z).1
end Gs
namespace Gs
open Km534 (names name)
open Km535 (nextNames different)
/-! ### worst: the first of those that take the most -/
def vOf : Option Nat → Nat
  | none => 1000
  | some k => k
def topStep (v : List Nat → Nat) (o : Option (List Nat)) (x : List Nat) : Option (List Nat) := match o with
  | none => some x
  | some y => if v y < v x then some x else some y
def firstTop (v : List Nat → Nat) (l : List (List Nat)) : Option (List Nat) := l.foldl (topStep v) none
theorem longest_few {d : Km535.Desk} (h : DOk d) {a : Nat} {x : List Nat} (hx : x ∈ Km536.allNames d) {k : Nat} (e : Km536.longest d a x = some k) : k < 20 := by
  obtain ⟨_, _, _, en⟩ := ok_all h hx
  have r := (longest_is h a (l := x) (by rw [en]; exact hx) k).mp e
  rw [en] at r
  have := rank_few (fun x hx y hy => next_all h hx hy) hx r
  have := few_all h
  omega
def wStep (f : List Nat → Option Nat) (o : Option (List Nat)) (x : List Nat) : Option (List Nat) := match o with
  | none => some x
  | some y => match f x, f y with
    | none, some _ => some x
    | some i, some j => if j < i then some x else some y
    | _, none => some y
theorem wStep_is {f : List Nat → Option Nat} {x y : List Nat} (hx : ∀ k, f x = some k → k < 20) (hy : ∀ k, f y = some k → k < 20) : wStep f (some y) x = topStep (fun x => vOf (f x)) (some y) x := by
  unfold wStep topStep
  dsimp only
  split
  · rename_i j e1 e2
    have := hy j e2
    refine (if_pos ?_).symm
    show vOf (f y) < vOf (f x)
    rw [e1, e2]
    show j < 1000
    omega
  · rename_i i j e1 e2
    have e : (vOf (f y) < vOf (f x)) = (j < i) := by rw [e1, e2]; rfl
    by_cases c : j < i
    · rw [if_pos c]
      exact (if_pos (e ▸ c)).symm
    · rw [if_neg c]
      exact (if_neg (e ▸ c)).symm
  · rename_i e2
    refine (if_neg ?_).symm
    show ¬ vOf (f y) < vOf (f x)
    rw [e2]
    cases e3 : f x with
    | none => exact Nat.lt_irrefl _
    | some k =>
      have := hx k e3
      show ¬ 1000 < k
      omega
theorem wFold_is {f : List Nat → Option Nat} : ∀ (l : List (List Nat)) (o : Option (List Nat)), (∀ x ∈ l, ∀ k, f x = some k → k < 20) → (∀ x, o = some x → ∀ k, f x = some k → k < 20) → l.foldl (wStep f) o = l.foldl (topStep fun x => vOf (f x)) o
  | [], _, _, _ => rfl
  | x :: l, o, hl, ho => by
    have hx := hl x (List.mem_cons_self ..)
    have es : wStep f o x = topStep (fun x => vOf (f x)) o x := by
      cases o with
      | none => rfl
      | some y => exact wStep_is hx (ho y rfl)
    rw [List.foldl_cons, List.foldl_cons, es]
    refine wFold_is l _ (fun z hz => hl z (List.mem_cons_of_mem _ hz)) fun z hz => ?_
    unfold topStep at hz
    cases o with
    | none =>
      injection hz with hz
      rw [← hz]
      exact hx
    | some y =>
      dsimp only at hz
      split at hz
      · injection hz with hz
        rw [← hz]
        exact hx
      · injection hz with hz
        rw [← hz]
        exact ho y rfl
theorem worst_is {d : Km535.Desk} (h : DOk d) (a : Nat) : Km536.worst d a (Km535.ring d) = firstTop (fun x => vOf (Km536.longest d a x)) (nx d a (Km535.ring d)) := by
  have e0 : ((Km536.allNames d).filter fun x => (nextNames d a (Km535.ring d)).contains x) = nx d a (Km535.ring d) := by
    unfold nx
    rw [allNames_eq]
  have hin : ∀ x ∈ nx d a (Km535.ring d), x ∈ Km536.allNames d := fun x hx => by
    rw [← e0] at hx
    exact (List.mem_filter.mp hx).1
  show ((Km536.allNames d).filter fun x => (nextNames d a (Km535.ring d)).contains x).foldl (wStep (Km536.longest d a)) none = _
  rw [e0]
  exact wFold_is _ none (fun x hx k e => longest_few h (hin x hx) e) fun x z => by cases z
theorem top_from (v : List Nat → Nat) : ∀ (l : List (List Nat)) (y : List Nat), ∃ x, l.foldl (topStep v) (some y) = some x ∧ (x = y ∨ x ∈ l) ∧ v y ≤ v x ∧ ∀ z ∈ l, v z ≤ v x
  | [], y => ⟨y, rfl, .inl rfl, Nat.le_refl _, fun z hz => by cases hz⟩
  | z :: l, y => by
    rw [List.foldl_cons]
    by_cases c : v y < v z
    · have e : topStep v (some y) z = some z := if_pos c
      rw [e]
      obtain ⟨x, h1, h2, h3, h4⟩ := top_from v l z
      refine ⟨x, h1, .inr ?_, by omega, fun u hu => ?_⟩
      · rcases h2 with h2 | h2
        · rw [h2]; exact List.mem_cons_self ..
        · exact List.mem_cons_of_mem _ h2
      · rcases List.mem_cons.mp hu with e2 | e2
        · rw [e2]; exact h3
        · exact h4 u e2
    · have e : topStep v (some y) z = some y := if_neg c
      rw [e]
      obtain ⟨x, h1, h2, h3, h4⟩ := top_from v l y
      refine ⟨x, h1, ?_, h3, fun u hu => ?_⟩
      · rcases h2 with h2 | h2
        · exact .inl h2
        · exact .inr (List.mem_cons_of_mem _ h2)
      · rcases List.mem_cons.mp hu with e2 | e2
        · rw [e2]; omega
        · exact h4 u e2
theorem top_nil (v : List Nat → Nat) : firstTop v [] = none := rfl
theorem top_some {v : List Nat → Nat} {l : List (List Nat)} (h : l ≠ []) : ∃ x, firstTop v l = some x ∧ x ∈ l ∧ ∀ z ∈ l, v z ≤ v x := by
  cases l with
  | nil => exact (h rfl).elim
  | cons y l =>
    obtain ⟨x, h1, h2, h3, h4⟩ := top_from v l y
    refine ⟨x, h1, ?_, fun z hz => ?_⟩
    · rcases h2 with h2 | h2
      · rw [h2]; exact List.mem_cons_self ..
      · exact List.mem_cons_of_mem _ h2
    · rcases List.mem_cons.mp hz with e | e
      · rw [e]; exact h3
      · exact h4 z e
/-- the first of all that take the most: how it is found from the left -/
theorem top_is {v : List Nat → Nat} {l m : List (List Nat)} {x : List Nat} (h1 : ∀ z ∈ l, v z < v x) (h2 : ∀ z ∈ m, v z ≤ v x) : firstTop v (l ++ x :: m) = some x := by
  unfold firstTop
  rw [List.foldl_append, List.foldl_cons]
  have e : topStep v (l.foldl (topStep v) none) x = some x := by
    cases hl : l with
    | nil => rfl
    | cons y t =>
      obtain ⟨u, e1, e2, e3, e4⟩ := top_from v t y
      have : u ∈ l := by
        rw [hl]
        rcases e2 with z | z
        · rw [z]; exact List.mem_cons_self ..
        · exact List.mem_cons_of_mem _ z
      show topStep v (t.foldl (topStep v) (some y)) x = _
      rw [e1]
      exact if_pos (h1 u this)
  rw [e]
  have stay : ∀ m : List (List Nat), (∀ z ∈ m, v z ≤ v x) → m.foldl (topStep v) (some x) = some x := by
    intro m
    induction m with
    | nil => intro _; rfl
    | cons z m ih =>
      intro hm
      rw [List.foldl_cons]
      have e2 : topStep v (some x) z = some x := if_neg (by have := hm z (List.mem_cons_self ..); omega)
      rw [e2]
      exact ih fun u hu => hm u (List.mem_cons_of_mem _ hu)
  exact stay m h2
end Gs
namespace Gs
/-- a call, by its number and its numbers -/
inductive CallIs : Nat → List Nat → Km536.Call → Prop
  | c0 (x y : Nat) : CallIs 0 [x, y] (.begin_ x y)
  | c1 (x y : Nat) : CallIs 1 [x, y] (.put x y)
  | c2 (x : Nat) : CallIs 2 [x] (.eyes x)
  | c3 (x y : Nat) : CallIs 3 [x, y] (.tell x y)
  | c4 (x : Nat) : CallIs 4 [x] (.untell x)
  | c5 (x : Nat) : CallIs 5 [x] (.at_ x)
  | c6 (x : Nat) : CallIs 6 [x] (.jump x)
  | c7 : CallIs 7 [] .ring
  | c8 : CallIs 8 [] .rank
  | c9 : CallIs 9 [] .done
  | c10 : CallIs 10 [] .sure
  | c11 : CallIs 11 [] .longest
  | c12 : CallIs 12 [] .sures
  | c13 : CallIs 13 [] .beginnings
  | c14 : CallIs 14 [] .soonest
  | c15 : CallIs 15 [] .bad
  | c16 : CallIs 16 [] .worst
  | c17 (x : Nat) : CallIs 17 [x] (.ifAt x)
  | c18 (x y : Nat) : CallIs 18 [x, y] (.ifTell x y)
  | c19 : CallIs 19 [] .allAt
  | c20 (x : Nat) : CallIs 20 [x] (.longestOf x)
  | c21 : CallIs 21 [] .hopeless
  | c22 : CallIs 22 [] .told
theorem ints0 {xs : List Nat} (h : (xs.map fun (x : Nat) => (x : Int)) = []) : xs = [] := List.map_eq_nil_iff.mp h
theorem ints1 {xs : List Nat} {a : Int} (h : (xs.map fun (x : Nat) => (x : Int)) = [a]) : xs = [a.toNat] := by
  match xs, h with
  | [x], h =>
    injection h with h _
    rw [← h]
    rfl
theorem ints2 {xs : List Nat} {a b : Int} (h : (xs.map fun (x : Nat) => (x : Int)) = [a, b]) : xs = [a.toNat, b.toNat] := by
  match xs, h with
  | [x, y], h =>
    injection h with h g
    injection g with g _
    rw [← h, ← g]
    rfl
theorem callN_is {c : Nat} {xs : List Nat} {cl : Km536.Call} (h : callN c xs = some cl) : CallIs c xs cl := by
  unfold callN Km536Neutral.callOf at h
  split at h
  · rename_i e
    injection e with e _
    injection e with e1 e2
    have ec : c = 0 := by omega
    rw [ec, ints2 e2]
    injection h with h
    rw [← h]
    exact .c0 _ _
  · rename_i e
    injection e with e _
    injection e with e1 e2
    have ec : c = 1 := by omega
    rw [ec, ints2 e2]
    injection h with h
    rw [← h]
    exact .c1 _ _
  · rename_i e
    injection e with e _
    injection e with e1 e2
    have ec : c = 2 := by omega
    rw [ec, ints1 e2]
    injection h with h
    rw [← h]
    exact .c2 _
  · rename_i e
    injection e with e _
    injection e with e1 e2
    have ec : c = 3 := by omega
    rw [ec, ints2 e2]
    injection h with h
    rw [← h]
    exact .c3 _ _
  · rename_i e
    injection e with e _
    injection e with e1 e2
    have ec : c = 4 := by omega
    rw [ec, ints1 e2]
    injection h with h
    rw [← h]
    exact .c4 _
  · rename_i e
    injection e with e _
    injection e with e1 e2
    have ec : c = 5 := by omega
    rw [ec, ints1 e2]
    injection h with h
    rw [← h]
    exact .c5 _
  · rename_i e
    injection e with e _
    injection e with e1 e2
    have ec : c = 6 := by omega
    rw [ec, ints1 e2]
    injection h with h
    rw [← h]
    exact .c6 _
  · rename_i e
    injection e with e _
    injection e with e1 e2
    have ec : c = 7 := by omega
    rw [ec, ints0 e2]
    injection h with h
    rw [← h]
    exact .c7
  · rename_i e
    injection e with e _
    injection e with e1 e2
    have ec : c = 8 := by omega
    rw [ec, ints0 e2]
    injection h with h
    rw [← h]
    exact .c8
  · rename_i e
    injection e with e _
    injection e with e1 e2
    have ec : c = 9 := by omega
    rw [ec, ints0 e2]
    injection h with h
    rw [← h]
    exact .c9
  · rename_i e
    injection e with e _
    injection e with e1 e2
    have ec : c = 10 := by omega
    rw [ec, ints0 e2]
    injection h with h
    rw [← h]
    exact .c10
  · rename_i e
    injection e with e _
    injection e with e1 e2
    have ec : c = 11 := by omega
    rw [ec, ints0 e2]
    injection h with h
    rw [← h]
    exact .c11
  · rename_i e
    injection e with e _
    injection e with e1 e2
    have ec : c = 12 := by omega
    rw [ec, ints0 e2]
    injection h with h
    rw [← h]
    exact .c12
  · rename_i e
    injection e with e _
    injection e with e1 e2
    have ec : c = 13 := by omega
    rw [ec, ints0 e2]
    injection h with h
    rw [← h]
    exact .c13
  · rename_i e
    injection e with e _
    injection e with e1 e2
    have ec : c = 14 := by omega
    rw [ec, ints0 e2]
    injection h with h
    rw [← h]
    exact .c14
  · rename_i e
    injection e with e _
    injection e with e1 e2
    have ec : c = 15 := by omega
    rw [ec, ints0 e2]
    injection h with h
    rw [← h]
    exact .c15
  · rename_i e
    injection e with e _
    injection e with e1 e2
    have ec : c = 16 := by omega
    rw [ec, ints0 e2]
    injection h with h
    rw [← h]
    exact .c16
  · rename_i e
    injection e with e _
    injection e with e1 e2
    have ec : c = 17 := by omega
    rw [ec, ints1 e2]
    injection h with h
    rw [← h]
    exact .c17 _
  · rename_i e
    injection e with e _
    injection e with e1 e2
    have ec : c = 18 := by omega
    rw [ec, ints2 e2]
    injection h with h
    rw [← h]
    exact .c18 _ _
  · rename_i e
    injection e with e _
    injection e with e1 e2
    have ec : c = 19 := by omega
    rw [ec, ints0 e2]
    injection h with h
    rw [← h]
    exact .c19
  · rename_i e
    injection e with e _
    injection e with e1 e2
    have ec : c = 20 := by omega
    rw [ec, ints1 e2]
    injection h with h
    rw [← h]
    exact .c20 _
  · rename_i e
    injection e with e _
    injection e with e1 e2
    have ec : c = 21 := by omega
    rw [ec, ints0 e2]
    injection h with h
    rw [← h]
    exact .c21
  · rename_i e
    injection e with e _
    injection e with e1 e2
    have ec : c = 22 := by omega
    rw [ec, ints0 e2]
    injection h with h
    rw [← h]
    exact .c22
  · cases h
end Gs
/-! What may come next of a ring, turned or mirrored: the same names. -/
namespace Gs
open Km534 (less from_ back rows name names allRows sees)
open Km535 (move doAll splits different nextBy nextNames eager goes)
theorem getD_from {l : List Nat} {s i : Nat} (hi : i < l.length) : (from_ l s).getD i 0 = l.getD ((s + i) % l.length) 0 := by
  unfold from_
  rw [List.getD_eq_getElem?_getD, List.getElem?_map, List.getElem?_range hi]
  rfl
theorem getD_back {l : List Nat} {s i : Nat} (hi : i < l.length) : (back l s).getD i 0 = l.getD ((s + (l.length - i)) % l.length) 0 := by
  unfold back
  rw [List.getD_eq_getElem?_getD, List.getElem?_map, List.getElem?_range hi]
  rfl
theorem getD_out {l : List Nat} {i : Nat} (h : l.length ≤ i) : l.getD i 0 = 0 := by
  rw [List.getD_eq_getElem?_getD, List.getElem?_eq_none h]
  rfl
theorem ext_lt {a b : List Nat} {n : Nat} (ha : a.length = n) (hb : b.length = n) (h : ∀ i, i < n → a.getD i 0 = b.getD i 0) : a = b :=
  list_ext (ha.trans hb.symm) fun i => by
    by_cases c : i < n
    · exact h i c
    · rw [getD_out (by omega), getD_out (by omega)]
theorem five {n : Nat} (h3 : 3 ≤ n) (h7 : n ≤ 7) : n = 3 ∨ n = 4 ∨ n = 5 ∨ n = 6 ∨ n = 7 := by omega
/-! ### turnings and mirrorings, one behind another -/
section
variable {c : List Nat} {s p : Nat}
theorem from_from (h3 : 3 ≤ c.length) (h7 : c.length ≤ 7) : from_ (from_ c s) p = from_ c ((s + p) % c.length) := by
  refine ext_lt (n := c.length) (by rw [len_from, len_from]) (len_from _ _) fun i hi => ?_
  rw [getD_from (by rw [len_from]; exact hi), len_from, getD_from (Nat.mod_lt _ (by omega)), getD_from hi]
  congr 1
  generalize c.length = n at *
  rcases five h3 h7 with rfl | rfl | rfl | rfl | rfl <;> omega
theorem back_from (h3 : 3 ≤ c.length) (h7 : c.length ≤ 7) : back (from_ c s) p = back c ((s + p) % c.length) := by
  refine ext_lt (n := c.length) (by rw [len_back, len_from]) (len_back _ _) fun i hi => ?_
  rw [getD_back (by rw [len_from]; exact hi), len_from, getD_from (Nat.mod_lt _ (by omega)), getD_back hi]
  congr 1
  generalize c.length = n at *
  rcases five h3 h7 with rfl | rfl | rfl | rfl | rfl <;> omega
theorem from_back (h3 : 3 ≤ c.length) (h7 : c.length ≤ 7) (hp : p < c.length) : from_ (back c s) p = back c ((s + (c.length - p)) % c.length) := by
  refine ext_lt (n := c.length) (by rw [len_from, len_back]) (len_back _ _) fun i hi => ?_
  rw [getD_from (by rw [len_back]; exact hi), len_back, getD_back (Nat.mod_lt _ (by omega)), getD_back hi]
  congr 1
  generalize c.length = n at *
  rcases five h3 h7 with rfl | rfl | rfl | rfl | rfl <;> omega
theorem back_back (h3 : 3 ≤ c.length) (h7 : c.length ≤ 7) (hp : p < c.length) : back (back c s) p = from_ c ((s + (c.length - p)) % c.length) := by
  refine ext_lt (n := c.length) (by rw [len_back, len_back]) (len_from _ _) fun i hi => ?_
  rw [getD_back (by rw [len_back]; exact hi), len_back, getD_back (Nat.mod_lt _ (by omega)), getD_from hi]
  congr 1
  generalize c.length = n at *
  rcases five h3 h7 with rfl | rfl | rfl | rfl | rfl <;> omega
theorem name_turn (h3 : 3 ≤ c.length) (h7 : c.length ≤ 7) (hs : s < c.length) : name (from_ c s) = name c := by
  refine (name_uniq (by rw [len_from]; omega) ?_ fun x hx => ?_).symm
  · obtain ⟨q, hq, e | e⟩ := mem_rows.mp (name_mem (l := c) (by omega))
    · refine mem_rows.mpr ⟨(q + (c.length - s)) % c.length, by rw [len_from]; exact Nat.mod_lt _ (by omega), .inl ?_⟩
      rw [from_from h3 h7, e]
      congr 1
      generalize c.length = n at *
      rcases five h3 h7 with rfl | rfl | rfl | rfl | rfl <;> omega
    · refine mem_rows.mpr ⟨(q + (c.length - s)) % c.length, by rw [len_from]; exact Nat.mod_lt _ (by omega), .inr ?_⟩
      rw [back_from h3 h7, e]
      congr 1
      generalize c.length = n at *
      rcases five h3 h7 with rfl | rfl | rfl | rfl | rfl <;> omega
  · obtain ⟨q, hq, e | e⟩ := mem_rows.mp hx
    · rw [from_from h3 h7] at e
      exact name_le (mem_rows.mpr ⟨_, Nat.mod_lt _ (by omega), .inl e⟩)
    · rw [back_from h3 h7] at e
      exact name_le (mem_rows.mpr ⟨_, Nat.mod_lt _ (by omega), .inr e⟩)
theorem name_mirror (h3 : 3 ≤ c.length) (h7 : c.length ≤ 7) (hs : s < c.length) : name (back c s) = name c := by
  refine (name_uniq (by rw [len_back]; omega) ?_ fun x hx => ?_).symm
  · obtain ⟨q, hq, e | e⟩ := mem_rows.mp (name_mem (l := c) (by omega))
    · refine mem_rows.mpr ⟨(s + (c.length - q)) % c.length, by rw [len_back]; exact Nat.mod_lt _ (by omega), .inr ?_⟩
      rw [back_back h3 h7 (Nat.mod_lt _ (by omega)), e]
      congr 1
      generalize c.length = n at *
      rcases five h3 h7 with rfl | rfl | rfl | rfl | rfl <;> omega
    · refine mem_rows.mpr ⟨(s + (c.length - q)) % c.length, by rw [len_back]; exact Nat.mod_lt _ (by omega), .inl ?_⟩
      rw [from_back h3 h7 (Nat.mod_lt _ (by omega)), e]
      congr 1
      generalize c.length = n at *
      rcases five h3 h7 with rfl | rfl | rfl | rfl | rfl <;> omega
  · obtain ⟨q, hq, e | e⟩ := mem_rows.mp hx
    · rw [len_back] at hq
      rw [from_back h3 h7 hq] at e
      exact name_le (mem_rows.mpr ⟨_, Nat.mod_lt _ (by omega), .inr e⟩)
    · rw [len_back] at hq
      rw [back_back h3 h7 hq] at e
      exact name_le (mem_rows.mpr ⟨_, Nat.mod_lt _ (by omega), .inl e⟩)
theorem sum_rev : ∀ l : List Nat, l.reverse.sum = l.sum
  | [] => rfl
  | x :: l => by
    rw [List.reverse_cons, List.sum_append, sum_rev l, List.sum_cons, List.sum_cons, List.sum_nil]
    omega
theorem sum_from {l : List Nat} (h : s ≤ l.length) : (from_ l s).sum = l.sum := by
  rw [from_eq h, List.sum_append]
  have e : (l.take s ++ l.drop s).sum = l.sum := by rw [List.take_append_drop]
  rw [List.sum_append] at e
  omega
theorem sum_back (h3 : 3 ≤ c.length) (h7 : c.length ≤ 7) (hs : s < c.length) : (back c s).sum = c.sum := by
  have e : back c s = (from_ c ((s + 1) % c.length)).reverse := by
    refine List.ext_getElem? fun i => ?_
    by_cases hi : i < c.length
    · rw [List.getElem?_reverse (by rw [len_from]; exact hi), len_from]
      unfold back from_
      rw [List.getElem?_map, List.getElem?_map, List.getElem?_range hi, List.getElem?_range (by omega)]
      show some (c.getD _ 0) = some (c.getD _ 0)
      congr 2
      generalize c.length = n at *
      rcases five h3 h7 with rfl | rfl | rfl | rfl | rfl <;> omega
    · rw [List.getElem?_eq_none (by rw [len_back]; omega), List.getElem?_eq_none (by rw [List.length_reverse, len_from]; omega)]
  rw [e, sum_rev, sum_from (Nat.le_of_lt (Nat.mod_lt _ (by omega)))]
end
/-! ### plays in any order -/
def cF (w : List (Nat × Nat)) (i : Nat) : Nat := (w.filter fun m => m.1 == i).length
def cT (w : List (Nat × Nat)) (i : Nat) : Nat := (w.filter fun m => m.2 == i).length
theorem cF_cons (m : Nat × Nat) (w : List (Nat × Nat)) (i : Nat) : cF (m :: w) i = cF w i + if m.1 = i then 1 else 0 := by
  unfold cF
  by_cases c : m.1 = i
  · rw [if_pos c, List.filter_cons_of_pos (by simpa using c)]; rfl
  · rw [if_neg c, List.filter_cons_of_neg (by simpa using c)]; rfl
theorem cT_cons (m : Nat × Nat) (w : List (Nat × Nat)) (i : Nat) : cT (m :: w) i = cT w i + if m.2 = i then 1 else 0 := by
  unfold cT
  by_cases c : m.2 = i
  · rw [if_pos c, List.filter_cons_of_pos (by simpa using c)]; rfl
  · rw [if_neg c, List.filter_cons_of_neg (by simpa using c)]; rfl
theorem cF_app (v w : List (Nat × Nat)) (i : Nat) : cF (v ++ w) i = cF v i + cF w i := by
  unfold cF
  rw [List.filter_append, List.length_append]
theorem doAll_at : ∀ (w : List (Nat × Nat)) (l : List Nat), (∀ m ∈ w, m.1 < l.length ∧ m.2 < l.length ∧ m.2 ≠ m.1) → (∀ i, cF w i ≤ l.getD i 0) → ∀ i, (doAll l w).getD i 0 + cF w i = l.getD i 0 + cT w i
  | [], l, _, _, i => rfl
  | m :: w, l, hm, hc, i => by
    obtain ⟨h1, h2, h3⟩ := hm m List.mem_cons_self
    have g : ∀ j, (move l m.1 m.2).getD j 0 = (l.getD j 0 - if m.1 = j then 1 else 0) + if m.2 = j then 1 else 0 := fun j => by
      rw [getD_move]
      congr 1
      · congr 1
        by_cases c : m.1 = j
        · rw [if_pos c, if_pos ⟨c.symm, h1⟩]
        · rw [if_neg c, if_neg fun z => c z.1.symm]
      · by_cases c : m.2 = j
        · rw [if_pos c, if_pos ⟨c.symm, h2⟩]
        · rw [if_neg c, if_neg fun z => c z.1.symm]
    have ih := doAll_at w (move l m.1 m.2) (fun x hx => by rw [len_move]; exact hm x (List.mem_cons_of_mem _ hx)) (fun j => by
      have := hc j
      rw [cF_cons] at this
      rw [g]
      by_cases c : m.1 = j
      · rw [if_pos c] at this ⊢
        split <;> omega
      · rw [if_neg c] at this ⊢
        split <;> omega) i
    have hci := hc i
    rw [doAll_cons, cF_cons, cT_cons]
    rw [g] at ih
    rw [cF_cons] at hci
    by_cases c : m.1 = i
    · rw [if_pos c] at ih hci ⊢
      omega
    · rw [if_neg c] at ih hci ⊢
      omega
structure Loose (l : List Nat) (T : Nat → List Nat) (w : List (Nat × Nat)) : Prop where
  go : ∀ m ∈ w, m.1 < l.length ∧ m.2 ∈ T m.1
  cap : ∀ i, cF w i ≤ l.getD i 0
theorem cF_one (p : Nat) (qs : List Nat) (i : Nat) : cF (qs.map fun q => (p, q)) i = if p = i then qs.length else 0 := by
  unfold cF
  by_cases c : p = i
  · rw [if_pos c, List.filter_eq_self.mpr, List.length_map]
    intro m hm
    obtain ⟨q, _, rfl⟩ := List.mem_map.mp hm
    simpa using c
  · rw [if_neg c, List.filter_eq_nil_iff.mpr]
    · rfl
    · intro m hm
      obtain ⟨q, _, rfl⟩ := List.mem_map.mp hm
      simpa using c
theorem fam_loose {l : List Nat} {T : Nat → List Nat} {ps : List Nat} {w : List (Nat × Nat)} (f : Fam (Part l T) ps w) (nd : ps.Nodup) : (∀ m ∈ w, m.1 ∈ ps ∧ m.2 ∈ T m.1) ∧ ∀ i, cF w i ≤ if i ∈ ps then l.getD i 0 else 0 := by
  induction f with
  | nil => exact ⟨fun m hm => (by cases hm), fun i => Nat.zero_le _⟩
  | @cons p b ps w hb _ ih =>
    obtain ⟨n1, n2⟩ := List.nodup_cons.mp nd
    obtain ⟨i1, i2⟩ := ih n2
    obtain ⟨qs, rfl, h1, h2⟩ := hb
    refine ⟨fun m hm => ?_, fun i => ?_⟩
    · rcases List.mem_append.mp hm with z | z
      · obtain ⟨q, hq, rfl⟩ := List.mem_map.mp z
        exact ⟨List.mem_cons_self, h1 q hq⟩
      · exact ⟨List.mem_cons_of_mem _ (i1 m z).1, (i1 m z).2⟩
    · rw [cF_app, cF_one]
      have := i2 i
      by_cases c : p = i
      · subst c
        rw [if_pos rfl, if_pos List.mem_cons_self]
        rw [if_neg n1] at this
        omega
      · rw [if_neg c]
        by_cases d : i ∈ ps
        · rw [if_pos d] at this
          rw [if_pos (List.mem_cons_of_mem _ d)]
          omega
        · rw [if_neg d] at this
          omega
theorem play_loose {l : List Nat} {T : Nat → List Nat} {w : List (Nat × Nat)} (f : Play l T w) : Loose l T w := by
  obtain ⟨h1, h2⟩ := fam_loose f List.nodup_range
  refine ⟨fun m hm => ⟨List.mem_range.mp (h1 m hm).1, (h1 m hm).2⟩, fun i => ?_⟩
  have := h2 i
  split at this <;> omega
/-- by places -/
def byPlace (w : List (Nat × Nat)) (ps : List Nat) : List (Nat × Nat) := ps.flatMap fun p => w.filter fun m => m.1 == p
theorem by_fam {l : List Nat} {T : Nat → List Nat} {w : List (Nat × Nat)} (h : Loose l T w) : ∀ ps : List Nat, Fam (Part l T) ps (byPlace w ps)
  | [] => .nil
  | p :: ps => by
    show Fam (Part l T) (p :: ps) ((w.filter fun m => m.1 == p) ++ byPlace w ps)
    refine .cons ⟨(w.filter fun m => m.1 == p).map (·.2), ?_, fun q hq => ?_, ?_⟩ (by_fam h ps)
    · rw [List.map_map]
      refine (List.map_id _).symm.trans (List.map_congr_left fun m hm => ?_)
      have e : m.1 = p := by simpa using (List.mem_filter.mp hm).2
      show m = (p, m.2)
      rw [← e]
    · obtain ⟨m, hm, rfl⟩ := List.mem_map.mp hq
      obtain ⟨h1, h2⟩ := List.mem_filter.mp hm
      have e : m.1 = p := by simpa using h2
      rw [← e]
      exact (h.go m h1).2
    · rw [List.length_map]
      exact h.cap p
theorem by_count (P : Nat × Nat → Bool) (w : List (Nat × Nat)) : ∀ ps : List Nat, ps.Nodup → ((byPlace w ps).filter P).length = (w.filter fun m => P m && ps.contains m.1).length
  | [], _ => by
    have e : (w.filter fun m => P m && ([] : List Nat).contains m.1) = [] := List.filter_eq_nil_iff.mpr fun m _ => by simp
    rw [e]
    rfl
  | p :: ps, nd => by
    obtain ⟨n1, n2⟩ := List.nodup_cons.mp nd
    show (((w.filter fun m => m.1 == p) ++ byPlace w ps).filter P).length = _
    rw [List.filter_append, List.length_append, by_count P w ps n2, List.filter_filter]
    clear nd n2
    induction w with
    | nil => rfl
    | cons m w ih =>
      have two : ∀ (b : Bool) (f : Nat × Nat → Bool), f m = b → ((m :: w).filter f).length = (w.filter f).length + if b = true then 1 else 0 := fun b f e => by
        cases b with
        | true => rw [List.filter_cons_of_pos e]; rfl
        | false => rw [List.filter_cons_of_neg (by rw [e]; decide)]; rfl
      rw [two _ _ rfl, two _ (fun m => P m && ps.contains m.1) rfl, two _ (fun m => P m && (p :: ps).contains m.1) rfl]
      have e : (p :: ps).contains m.1 = (m.1 == p || ps.contains m.1) := List.contains_cons
      rw [e]
      by_cases c : m.1 = p
      · have f1 : (m.1 == p) = true := by simpa using c
        have f2 : ps.contains m.1 = false := by
          cases d : ps.contains m.1 with
          | false => rfl
          | true => exact (n1 (by rw [← c]; exact List.contains_iff_mem.mp d)).elim
        rw [f1, f2, Bool.and_true, Bool.and_false, Bool.true_or, Bool.and_true]
        simp only [Bool.false_eq_true, if_false]
        omega
      · have f1 : (m.1 == p) = false := by simpa using c
        rw [f1, Bool.and_false, Bool.false_or]
        simp only [Bool.false_eq_true, if_false]
        omega
theorem by_all {l : List Nat} {T : Nat → List Nat} {w : List (Nat × Nat)} (h : Loose l T w) (P : Nat × Nat → Bool) : ((byPlace w (List.range l.length)).filter P).length = (w.filter P).length := by
  rw [by_count P w _ List.nodup_range]
  congr 1
  refine List.filter_congr fun m hm => ?_
  rw [List.contains_iff_mem.mpr (List.mem_range.mpr (h.go m hm).1), Bool.and_true]
theorem loose_play {l : List Nat} {T : Nat → List Nat} (t : Tok l.length T) {w : List (Nat × Nat)} (h : Loose l T w) : ∃ v, Play l T v ∧ v.length = w.length ∧ doAll l v = doAll l w := by
  have f := by_fam h (List.range l.length)
  have hv := play_loose f
  have good : ∀ {u : List (Nat × Nat)}, Loose l T u → ∀ m ∈ u, m.1 < l.length ∧ m.2 < l.length ∧ m.2 ≠ m.1 := fun hu m hm => ⟨(hu.go m hm).1, t.on _ _ (hu.go m hm).2, t.off _ (hu.go m hm).1 _ (hu.go m hm).2⟩
  refine ⟨_, f, ?_, ?_⟩
  · have := by_all h fun _ => true
    rw [List.filter_eq_self.mpr fun _ _ => rfl, List.filter_eq_self.mpr fun _ _ => rfl] at this
    exact this
  · refine list_ext (by rw [len_doAll, len_doAll]) fun i => ?_
    have a := doAll_at _ l (good hv) hv.cap i
    have b := doAll_at _ l (good h) h.cap i
    have e1 : cF (byPlace w (List.range l.length)) i = cF w i := by_all h _
    have e2 : cT (byPlace w (List.range l.length)) i = cT w i := by_all h _
    omega
theorem mem_next_loose (d : Km535.Desk) (a : Nat) {l : List Nat} (h : Ok l) (x : List Nat) :
    x ∈ nextNames d a l ↔ ∃ w, Loose l (goes d l) w ∧ goOk a w.length (tot l (goes d l)) ∧ x = name (doAll l w) := by
  rw [mem_next d a h]
  constructor
  · rintro ⟨w, h1, h2, h3⟩
    exact ⟨w, play_loose h1, h2, h3⟩
  · rintro ⟨w, h1, h2, h3⟩
    obtain ⟨v, e1, e2, e3⟩ := loose_play (goes_tok d h.lo) h1
    exact ⟨v, e1, by rw [e2]; exact h2, by rw [e3]; exact h3⟩
/-! ### one ring and another that is the same, turned or mirrored -/
structure Iso (d : Km535.Desk) (l l' : List Nat) (to bk : Nat → Nat) : Prop where
  len : l'.length = l.length
  toL : ∀ i, i < l.length → to i < l.length
  bkL : ∀ i, i < l.length → bk i < l.length
  toB : ∀ i, i < l.length → to (bk i) = i
  bkT : ∀ i, i < l.length → bk (to i) = i
  at_ : ∀ i, i < l.length → l'.getD i 0 = l.getD (to i) 0
  go : ∀ q, q < l.length → ∀ z ∈ goes d l q, bk z ∈ goes d l' (bk q)
  tot : tot l' (goes d l') = tot l (goes d l)
  nm : ∀ c c' : List Nat, c.length = l.length → c'.length = l.length → (∀ i, i < l.length → c'.getD i 0 = c.getD (to i) 0) → name c' = name c
theorem len_filter_map (bk : Nat → Nat) (P : Nat × Nat → Bool) (w : List (Nat × Nat)) : ((w.map fun m => (bk m.1, bk m.2)).filter P).length = (w.filter fun m => P (bk m.1, bk m.2)).length := by
  rw [List.filter_map, List.length_map]
  rfl
theorem Iso.next {d : Km535.Desk} {l l' : List Nat} {to bk : Nat → Nat} (I : Iso d l l' to bk) (o : Ok l) (o' : Ok l') {a : Nat} {x : List Nat} (hx : x ∈ nextNames d a l) : x ∈ nextNames d a l' := by
  obtain ⟨w, h1, h2, h3⟩ := (mem_next_loose d a o x).mp hx
  have t := goes_tok d o.lo
  have t' := goes_tok d o'.lo
  have good : ∀ m ∈ w, m.1 < l.length ∧ m.2 < l.length ∧ m.2 ≠ m.1 := fun m hm => ⟨(h1.go m hm).1, t.on _ _ (h1.go m hm).2, t.off _ (h1.go m hm).1 _ (h1.go m hm).2⟩
  have same : ∀ {i j : Nat}, i < l.length → j < l.length → (bk j == i) = (j == to i) := fun {i j} hi hj => by
    by_cases c : j = to i
    · rw [c, I.bkT i hi, beq_self_eq_true, beq_self_eq_true]
    · rw [beq_eq_false_iff_ne.mpr c]
      exact beq_eq_false_iff_ne.mpr fun z => c (by rw [← z, I.toB j hj])
  have eF : ∀ i, i < l.length → cF (w.map fun m => (bk m.1, bk m.2)) i = cF w (to i) := fun i hi => by
    unfold cF
    rw [len_filter_map]
    congr 1
    exact List.filter_congr fun m hm => same hi (good m hm).1
  have eT : ∀ i, i < l.length → cT (w.map fun m => (bk m.1, bk m.2)) i = cT w (to i) := fun i hi => by
    unfold cT
    rw [len_filter_map]
    congr 1
    exact List.filter_congr fun m hm => same hi (good m hm).2.1
  have L : Loose l' (goes d l') (w.map fun m => (bk m.1, bk m.2)) := by
    refine ⟨fun m hm => ?_, fun i => ?_⟩
    · obtain ⟨u, hu, rfl⟩ := List.mem_map.mp hm
      exact ⟨by rw [I.len]; exact I.bkL _ (good u hu).1, I.go _ (good u hu).1 _ (h1.go u hu).2⟩
    · by_cases hi : i < l.length
      · rw [eF i hi, I.at_ i hi]
        exact h1.cap _
      · have z : cF (w.map fun m => (bk m.1, bk m.2)) i = 0 := by
          unfold cF
          rw [List.filter_eq_nil_iff.mpr]
          · rfl
          · intro m hm
            obtain ⟨u, hu, rfl⟩ := List.mem_map.mp hm
            have := I.bkL _ (good u hu).1
            simp
            omega
        omega
  have good' : ∀ m ∈ (w.map fun m => (bk m.1, bk m.2)), m.1 < l'.length ∧ m.2 < l'.length ∧ m.2 ≠ m.1 := fun m hm => ⟨(L.go m hm).1, t'.on _ _ (L.go m hm).2, t'.off _ (L.go m hm).1 _ (L.go m hm).2⟩
  refine (mem_next_loose d a o' x).mpr ⟨_, L, ?_, ?_⟩
  · rw [List.length_map, I.tot]
    exact h2
  · rw [h3]
    refine (I.nm _ _ (len_doAll _ _) (by rw [len_doAll, I.len]) fun i hi => ?_).symm
    have a1 := doAll_at _ l' good' L.cap i
    have a2 := doAll_at w l good h1.cap (to i)
    rw [eF i hi, eT i hi, I.at_ i hi] at a1
    omega
/-! ### views -/
theorem seen_from (e : Nat) (l : List Nat) (s : Nat) : seen e (from_ l s) = from_ (seen e l) s := map_from _ _
theorem seen_back (e : Nat) (l : List Nat) (s : Nat) : seen e (back l s) = back (seen e l) s := map_back _ _
theorem goes_none (d : Km535.Desk) {l : List Nat} (h0 : 0 < l.length) (p : Nat) : goes d l p = [] ↔ Km535.told d (vw d.see.eyes l p) = 0 := by
  have key : goes d l p = [] ↔ stepsOf (Km535.told d (vw d.see.eyes l p)) (lesser d.see.eyes l p) = [] := by
    constructor
    · intro z
      refine List.eq_nil_iff_forall_not_mem.mpr fun s hs => ?_
      have := (mem_goes d h0 p (goTo l.length p s)).mpr (List.mem_map.mpr ⟨s, hs, rfl⟩)
      rw [z] at this
      cases this
    · intro z
      refine List.eq_nil_iff_forall_not_mem.mpr fun q hq => ?_
      have := (mem_goes d h0 p q).mp hq
      rw [z] at this
      cases this
  rw [key]
  unfold stepsOf
  have ne : lesser d.see.eyes l p ≠ [] := by rcases lesser_cases d.see.eyes l p with e | e | e <;> rw [e] <;> simp
  by_cases c : Km535.told d (vw d.see.eyes l p) = 0
  · simp [c]
  · rw [if_neg c]
    constructor
    · intro z
      exfalso
      by_cases c1 : Km535.told d (vw d.see.eyes l p) = 1
      · rw [if_pos c1] at z; exact ne z
      · rw [if_neg c1] at z; exact ne (List.map_eq_nil_iff.mp z)
    · intro z; exact (c z).elim
theorem cap_same {d : Km535.Desk} {l l' : List Nat} {p p' : Nat} (h0 : 0 < l.length) (h0' : 0 < l'.length) (h1 : l'.getD p' 0 = l.getD p 0) (h2 : vw d.see.eyes l' p' = vw d.see.eyes l p) : cap l' (goes d l') p' = cap l (goes d l) p := by
  unfold cap eagerAt
  rw [h1]
  have e : (goes d l' p' != []) = (goes d l p != []) := by
    by_cases c : goes d l p = []
    · have c' : goes d l' p' = [] := (goes_none d h0' p').mpr (by rw [h2]; exact (goes_none d h0 p).mp c)
      rw [c, c']
    · have c' : goes d l' p' ≠ [] := fun z => c ((goes_none d h0 p).mpr (by rw [← h2]; exact (goes_none d h0' p').mp z))
      have f1 : (goes d l p != []) = true := by simpa using c
      have f2 : (goes d l' p' != []) = true := by simpa using c'
      rw [f1, f2]
  rw [e]
theorem on_from (e : Nat) {l : List Nat} (h3 : 3 ≤ l.length) (h7 : l.length ≤ 7) (s i : Nat) : onw e (from_ l s) i = onw e l ((s + i) % l.length) := by
  unfold onw
  rw [seen_from, from_from (by rw [len_seen]; exact h3) (by rw [len_seen]; exact h7), len_seen]
theorem bk_from (e : Nat) {l : List Nat} (h3 : 3 ≤ l.length) (h7 : l.length ≤ 7) (s i : Nat) : bkw e (from_ l s) i = bkw e l ((s + i) % l.length) := by
  unfold bkw
  rw [seen_from, back_from (by rw [len_seen]; exact h3) (by rw [len_seen]; exact h7), len_seen]
theorem on_back (e : Nat) {l : List Nat} (h3 : 3 ≤ l.length) (h7 : l.length ≤ 7) (s : Nat) {i : Nat} (hi : i < l.length) : onw e (back l s) i = bkw e l ((s + (l.length - i)) % l.length) := by
  unfold onw bkw
  rw [seen_back, from_back (by rw [len_seen]; exact h3) (by rw [len_seen]; exact h7) (by rw [len_seen]; exact hi), len_seen]
theorem bk_back (e : Nat) {l : List Nat} (h3 : 3 ≤ l.length) (h7 : l.length ≤ 7) (s : Nat) {i : Nat} (hi : i < l.length) : bkw e (back l s) i = onw e l ((s + (l.length - i)) % l.length) := by
  unfold onw bkw
  rw [seen_back, back_back (by rw [len_seen]; exact h3) (by rw [len_seen]; exact h7) (by rw [len_seen]; exact hi), len_seen]
theorem vw_swap {e : Nat} {l l' : List Nat} {p p' : Nat} (hl : l'.length = l.length) (h1 : onw e l' p' = bkw e l p) (h2 : bkw e l' p' = onw e l p) : vw e l' p' = vw e l p := by
  unfold vw
  rw [h1, h2]
  cases c : less (bkw e l p) (onw e l p) with
  | true => rw [less_asym c]; rfl
  | false =>
    cases c2 : less (onw e l p) (bkw e l p) with
    | true => rfl
    | false =>
      have := less_total (by rw [len_on, len_bk]) c2 c
      rw [this]
theorem lesser_swap {e : Nat} {l l' : List Nat} {p p' : Nat} (h1 : onw e l' p' = bkw e l p) (h2 : bkw e l' p' = onw e l p) {s : Int} (hs : s ∈ lesser e l p) : -s ∈ lesser e l' p' := by
  unfold lesser at hs ⊢
  rw [h1, h2]
  by_cases c : onw e l p = bkw e l p
  · rw [if_pos c] at hs
    rw [if_pos c.symm]
    simp at hs ⊢
    omega
  · rw [if_neg c] at hs
    rw [if_neg fun z => c z.symm]
    by_cases c2 : less (onw e l p) (bkw e l p) = true
    · rw [if_pos c2] at hs
      rw [less_asym c2]
      simp at hs ⊢
      omega
    · rw [if_neg c2] at hs
      have c3 : less (bkw e l p) (onw e l p) = true := by
        cases c3 : less (bkw e l p) (onw e l p) with
        | true => rfl
        | false => exact (c (less_total (by rw [len_on, len_bk]) (by simpa using c2) c3)).elim
      rw [c3]
      simp at hs ⊢
      omega
theorem steps_ones {e m : Nat} {l : List Nat} {p : Nat} {s : Int} (h : s ∈ stepsOf m (lesser e l p)) : s = 1 ∨ s = -1 := by
  unfold stepsOf at h
  split at h
  · cases h
  · split at h
    · rcases lesser_cases e l p with z | z | z <;> rw [z] at h <;> simp at h <;> omega
    · rcases lesser_cases e l p with z | z | z <;> rw [z] at h <;> simp at h <;> omega
theorem steps_swap {m : Nat} {S S' : List Int} (h : ∀ s ∈ S, -s ∈ S') {s : Int} (hs : s ∈ stepsOf m S) : -s ∈ stepsOf m S' := by
  unfold stepsOf at hs ⊢
  by_cases c0 : m = 0
  · rw [if_pos c0] at hs; cases hs
  · rw [if_neg c0] at hs ⊢
    by_cases c1 : m = 1
    · rw [if_pos c1] at hs ⊢
      exact h s hs
    · rw [if_neg c1] at hs ⊢
      obtain ⟨x, hx, rfl⟩ := List.mem_map.mp hs
      exact List.mem_map.mpr ⟨-x, h x hx, rfl⟩
theorem lesser_same {e : Nat} {l l' : List Nat} {p p' : Nat} (h1 : onw e l' p' = onw e l p) (h2 : bkw e l' p' = bkw e l p) : lesser e l' p' = lesser e l p := by
  unfold lesser
  rw [h1, h2]
theorem vw_same {e : Nat} {l l' : List Nat} {p p' : Nat} (h1 : onw e l' p' = onw e l p) (h2 : bkw e l' p' = bkw e l p) : vw e l' p' = vw e l p := by
  unfold vw
  rw [h1, h2]
theorem getD_caps (f : Nat → Nat) {n i : Nat} (h : i < n) : ((List.range n).map f).getD i 0 = f i := by
  rw [List.getD_eq_getElem?_getD, List.getElem?_map, List.getElem?_range h]
  rfl
/-- turned -/
theorem iso_turn (d : Km535.Desk) {l : List Nat} (o : Ok l) {s : Nat} (hs : s < l.length) : Iso d l (from_ l s) (fun i => (s + i) % l.length) (fun q => (q + (l.length - s)) % l.length) := by
  have h3 := o.lo
  have h7 := o.hi
  have bt : ∀ q, q < l.length → (s + (q + (l.length - s)) % l.length) % l.length = q := fun q hq => by
    generalize l.length = n at *
    rcases five h3 h7 with rfl | rfl | rfl | rfl | rfl <;> omega
  refine ⟨len_from _ _, fun i _ => Nat.mod_lt _ (by omega), fun i _ => Nat.mod_lt _ (by omega), bt, fun i hi => ?_, fun i hi => getD_from hi, fun q hq z hz => ?_, ?_, fun c c' hc hc' h => ?_⟩
  · generalize l.length = n at *
    rcases five h3 h7 with rfl | rfl | rfl | rfl | rfl <;> omega
  · obtain ⟨st, hst, rfl⟩ := List.mem_map.mp ((mem_goes d (by omega) q z).mp hz)
    have o1 : onw d.see.eyes (from_ l s) ((q + (l.length - s)) % l.length) = onw d.see.eyes l q := by rw [on_from _ h3 h7, bt q hq]
    have o2 : bkw d.see.eyes (from_ l s) ((q + (l.length - s)) % l.length) = bkw d.see.eyes l q := by rw [bk_from _ h3 h7, bt q hq]
    refine (mem_goes d (by rw [len_from]; omega) _ _).mpr (List.mem_map.mpr ⟨st, ?_, ?_⟩)
    · rw [vw_same o1 o2, lesser_same o1 o2]
      exact hst
    · rw [len_from]
      rcases steps_ones hst with rfl | rfl
      · rw [goTo_on, goTo_on]
        generalize l.length = n at *
        rcases five h3 h7 with rfl | rfl | rfl | rfl | rfl <;> omega
      · rw [goTo_back (by omega), goTo_back (by omega)]
        generalize l.length = n at *
        rcases five h3 h7 with rfl | rfl | rfl | rfl | rfl <;> omega
  · unfold tot
    rw [len_from]
    have e : (List.range l.length).map (cap (from_ l s) (goes d (from_ l s))) = from_ ((List.range l.length).map (cap l (goes d l))) s := by
      refine ext_lt (n := l.length) (by simp) (by rw [len_from]; simp) fun i hi => ?_
      rw [getD_caps _ hi, getD_from (by simpa using hi), List.length_map, List.length_range, getD_caps _ (Nat.mod_lt _ (by omega))]
      exact cap_same (by omega) (by rw [len_from]; omega) (getD_from hi) (vw_same (on_from _ h3 h7 _ _) (bk_from _ h3 h7 _ _))
    rw [e, sum_from (by simp; omega)]
  · have e : c' = from_ c s := ext_lt hc' (by rw [len_from, hc]) fun i hi => by
      rw [h i hi, getD_from (by omega), hc]
    rw [e, name_turn (by omega) (by omega) (by omega)]
/-- mirrored -/
theorem iso_mirror (d : Km535.Desk) {l : List Nat} (o : Ok l) {s : Nat} (hs : s < l.length) : Iso d l (back l s) (fun i => (s + (l.length - i)) % l.length) (fun q => (s + (l.length - q)) % l.length) := by
  have h3 := o.lo
  have h7 := o.hi
  have bt : ∀ q, q < l.length → (s + (l.length - (s + (l.length - q)) % l.length)) % l.length = q := fun q hq => by
    generalize l.length = n at *
    rcases five h3 h7 with rfl | rfl | rfl | rfl | rfl <;> omega
  have lt : ∀ q : Nat, (s + (l.length - q)) % l.length < l.length := fun q => Nat.mod_lt _ (by omega)
  refine ⟨len_back _ _, fun i _ => lt i, fun i _ => lt i, bt, bt, fun i hi => getD_back hi, fun q hq z hz => ?_, ?_, fun c c' hc hc' h => ?_⟩
  · obtain ⟨st, hst, rfl⟩ := List.mem_map.mp ((mem_goes d (by omega) q z).mp hz)
    have o1 : onw d.see.eyes (back l s) ((s + (l.length - q)) % l.length) = bkw d.see.eyes l q := by rw [on_back _ h3 h7 _ (lt q), bt q hq]
    have o2 : bkw d.see.eyes (back l s) ((s + (l.length - q)) % l.length) = onw d.see.eyes l q := by rw [bk_back _ h3 h7 _ (lt q), bt q hq]
    refine (mem_goes d (by rw [len_back]; omega) _ _).mpr (List.mem_map.mpr ⟨-st, ?_, ?_⟩)
    · rw [vw_swap (len_back _ _) o1 o2]
      exact steps_swap (fun x hx => lesser_swap o1 o2 hx) hst
    · rw [len_back]
      rcases steps_ones hst with rfl | rfl
      · rw [goTo_back (by omega), goTo_on]
        generalize l.length = n at *
        rcases five h3 h7 with rfl | rfl | rfl | rfl | rfl <;> omega
      · rw [show -(-1 : Int) = 1 from rfl, goTo_on, goTo_back (by omega)]
        generalize l.length = n at *
        rcases five h3 h7 with rfl | rfl | rfl | rfl | rfl <;> omega
  · unfold tot
    rw [len_back]
    have lc : ((List.range l.length).map (cap l (goes d l))).length = l.length := by simp
    have e : (List.range l.length).map (cap (back l s) (goes d (back l s))) = back ((List.range l.length).map (cap l (goes d l))) s := by
      refine ext_lt (n := l.length) (by simp) (by rw [len_back]; simp) fun i hi => ?_
      rw [getD_caps _ hi, getD_back (by simpa using hi), List.length_map, List.length_range, getD_caps _ (Nat.mod_lt _ (by omega))]
      exact cap_same (by omega) (by rw [len_back]; omega) (getD_back hi) (vw_swap (len_back _ _) (on_back _ h3 h7 _ hi) (bk_back _ h3 h7 _ hi))
    rw [e, sum_back (by rw [lc]; exact h3) (by rw [lc]; exact h7) (by rw [lc]; exact hs)]
  · have e : c' = back c s := ext_lt hc' (by rw [len_back, hc]) fun i hi => by
      rw [h i hi, getD_back (by omega), hc]
    rw [e, name_mirror (by omega) (by omega) (by omega)]
theorem next_name {d : Km535.Desk} {l : List Nat} (o : Ok l) (a : Nat) (x : List Nat) : x ∈ nextNames d a (name l) ↔ x ∈ nextNames d a l := by
  have h3 := o.lo
  have h7 := o.hi
  have on := o.name_ok
  obtain ⟨s, hs, e | e⟩ := mem_rows.mp (name_mem (l := l) (by omega))
  · constructor
    · intro hx
      have I := iso_turn d on (s := (l.length - s) % l.length) (by rw [len_name]; exact Nat.mod_lt _ (by omega))
      have b : from_ (name l) ((l.length - s) % l.length) = l := by
        rw [e, from_from h3 h7]
        have z : (s + (l.length - s) % l.length) % l.length = 0 := by
          generalize l.length = n at *
          rcases five h3 h7 with rfl | rfl | rfl | rfl | rfl <;> omega
        rw [z, from_eq (Nat.zero_le _)]
        simp
      rw [b] at I
      exact I.next on o hx
    · intro hx
      have I := iso_turn d o hs
      rw [← e] at I
      exact I.next o on hx
  · constructor
    · intro hx
      have I := iso_mirror d on (s := s) (by rw [len_name]; exact hs)
      have b : back (name l) s = l := by
        rw [e, back_back h3 h7 hs]
        have z : (s + (l.length - s)) % l.length = 0 := by
          rw [Nat.add_sub_cancel' (Nat.le_of_lt hs), Nat.mod_self]
        rw [z, from_eq (Nat.zero_le _)]
        simp
      rw [b] at I
      exact I.next on o hx
    · intro hx
      have I := iso_mirror d o hs
      rw [← e] at I
      exact I.next o on hx
theorem nx_name {d : Km535.Desk} {l : List Nat} (o : Ok l) (a : Nat) : nx d a (name l) = nx d a l := by
  refine sorted_ext (nx_rising o.name_ok) (nx_rising o) fun x => ?_
  rw [mem_nx o.name_ok, mem_nx o]
  exact next_name o a x
end Gs
/-! The surveys' mathematics; soonest by rounds; hopeless. -/
namespace Gs
open Km534 (names name from_ back)
open Km535 (nextNames)
/-! ### hopeless -/
def ownTurn (r : List Nat) : Bool := ((List.range (r.length - 1)).map fun i => from_ r (1 + i) == r).any id
def leaves (n p : Nat) : Bool := ((List.range n).map fun i => (p + (n - i)) % n == i).any id
def ownMirror (r : List Nat) : Bool := (((List.range r.length).filter fun p => !leaves r.length p).map fun p => back r p == r).any id
theorem hopeless_facts : everyT (fun r => Km536.hopeless r == (decide (0 < r.sum) && (ownTurn r || ownMirror r))) = true := by decide +kernel
theorem Ok.hopeless {r : List Nat} (h : Ok r) : Km536.hopeless r = (decide (0 < r.sum) && (ownTurn r || ownMirror r)) := beq_iff_eq.mp (h.of_everyT hopeless_facts)
theorem apart_facts : everyT (fun r => Km536.apart r == decide (most r ≤ 1)) = true := by decide +kernel
theorem Ok.apart {r : List Nat} (h : Ok r) : Km536.apart r = decide (most r ≤ 1) := beq_iff_eq.mp (h.of_everyT apart_facts)
/-! ### how many gather surely -/
theorem range_getD (N : List (List Nat)) : (List.range N.length).map (fun i => N.getD i []) = N := by
  refine List.ext_getElem? fun i => ?_
  rw [List.getElem?_map]
  by_cases h : i < N.length
  · rw [List.getElem?_range h]
    show some (N.getD i []) = _
    rw [List.getD_eq_getElem?_getD, List.getElem?_eq_getElem h]
    rfl
  · rw [List.getElem?_eq_none (by simpa using h), List.getElem?_eq_none (by omega)]
    rfl
theorem sureRanks_len (d : Km535.Desk) (a : Nat) : (Km536.sureRanks d a).length = ((Km536.allNames d).filter fun x => Km536.sure d a x).length := by
  unfold Km536.sureRanks
  generalize Km536.allNames d = N
  have e : (N.filter fun x => Km536.sure d a x) = ((List.range N.length).filter fun i => Km536.sure d a (N.getD i [])).map fun i => N.getD i [] := by
    conv => lhs; rw [← range_getD N]
    rw [List.filter_map]
    rfl
  rw [e, List.length_map]
/-- a list of different names that holds just those that gather surely -/
theorem sure_count {d : Km535.Desk} (h : DOk d) {a : Nat} {L : List (List Nat)} (nd : L.Nodup) (hm : ∀ x, x ∈ L ↔ x ∈ Km536.allNames d ∧ Km536.sure d a x = true) : L.length = (Km536.sureRanks d a).length := by
  rw [sureRanks_len]
  refine Nat.le_antisymm (nodup_le _ _ nd fun x hx => ?_) (nodup_le _ _ ((nodup_all h).filter _) fun x hx => ?_)
  · obtain ⟨h1, h2⟩ := (hm x).mp hx
    exact List.mem_filter.mpr ⟨h1, h2⟩
  · obtain ⟨h1, h2⟩ := List.mem_filter.mp hx
    exact (hm x).mpr ⟨h1, h2⟩
/-! ### soonest, round by round -/
structure Bfs (d : Km535.Desk) (a : Nat) (s : List Nat) (k : Nat) (now old : List (List Nat)) : Prop where
  was : ∀ x, x ∈ old ↔ ∃ j, j ≤ k ∧ Wk d a s j x
  is : ∀ x, x ∈ now ↔ Wk d a s k x ∧ ∀ j, j < k → ¬ Wk d a s j x
  no : ∀ j, j < k → ∀ x, Wk d a s j x → Km536.done d x = false
  once : old.Nodup
theorem Bfs.start (d : Km535.Desk) (a : Nat) (s : List Nat) : Bfs d a s 0 [s] [s] where
  was x := by
    rw [List.mem_singleton]
    constructor
    · rintro rfl; exact ⟨0, Nat.le_refl _, .start⟩
    · rintro ⟨j, hj, w⟩
      obtain rfl : j = 0 := by omega
      cases w
      rfl
  is x := by
    rw [List.mem_singleton]
    constructor
    · rintro rfl; exact ⟨.start, fun j hj => by omega⟩
    · rintro ⟨w, _⟩
      cases w
      rfl
  no j hj := by omega
  once := by simp
theorem Bfs.hit {d : Km535.Desk} {a : Nat} {s : List Nat} {k : Nat} {now old : List (List Nat)} (b : Bfs d a s k now old) {x : List Nat} (hx : x ∈ now) (e : Km536.done d x = true) : Soon d a s (some k) := ⟨⟨x, ((b.is x).mp hx).1, e⟩, b.no⟩
theorem Bfs.stop {d : Km535.Desk} {a : Nat} {s : List Nat} {k : Nat} {old : List (List Nat)} (b : Bfs d a s k [] old) : Soon d a s none := by
  have out : ∀ x, Wk d a s k x → ∃ j, j < k ∧ Wk d a s j x := fun x w => by
    by_cases e : ∃ j, j < k ∧ Wk d a s j x
    · exact e
    · exact absurd ((b.is x).mpr ⟨w, fun j hj v => e ⟨j, hj, v⟩⟩) (by simp)
  have cl : ∀ j x, Wk d a s j x → ∃ i, i < k ∧ Wk d a s i x := fun j x w => by
    induction w with
    | start =>
      by_cases c : k = 0
      · subst c
        exact out _ .start
      · exact ⟨0, by omega, .start⟩
    | more v hy ih =>
      obtain ⟨i, hi, u⟩ := ih
      by_cases c : i + 1 < k
      · exact ⟨i + 1, c, .more u hy⟩
      · have e : i + 1 = k := by omega
        exact out _ (e ▸ .more u hy)
  intro j x w
  obtain ⟨i, hi, v⟩ := cl j x w
  exact b.no i hi x v
theorem Bfs.next {d : Km535.Desk} {a : Nat} {s : List Nat} {k : Nat} {now old F : List (List Nat)} (b : Bfs d a s k now old) (hd : ∀ x ∈ now, Km536.done d x = false) (hF : ∀ x, x ∈ F ↔ (∃ y ∈ now, x ∈ nx d a y) ∧ x ∉ old) (nd : F.Nodup) : Bfs d a s (k + 1) F (old ++ F) := by
  have hx2 : ∀ x, x ∈ F ↔ Wk d a s (k + 1) x ∧ ∀ j, j < k + 1 → ¬ Wk d a s j x := fun x => by
    rw [hF]
    constructor
    · rintro ⟨⟨y, hy, hx⟩, hc⟩
      exact ⟨.more ((b.is y).mp hy).1 hx, fun j hj w => hc ((b.was x).mpr ⟨j, by omega, w⟩)⟩
    · rintro ⟨w, hno⟩
      have ho : x ∉ old := fun z => by
        obtain ⟨j, hj, v⟩ := (b.was x).mp z
        exact hno j (by omega) v
      cases w with
      | more v hy =>
        rename_i y
        exact ⟨⟨y, (b.is y).mpr ⟨v, fun j hj u => hno (j + 1) (by omega) (.more u hy)⟩, hy⟩, ho⟩
  refine ⟨fun x => ?_, hx2, fun j hj x w => ?_, ?_⟩
  · rw [List.mem_append, b.was, hx2]
    constructor
    · rintro (⟨j, hj, w⟩ | ⟨w, _⟩)
      · exact ⟨j, by omega, w⟩
      · exact ⟨k + 1, Nat.le_refl _, w⟩
    · rintro ⟨j, hj, w⟩
      by_cases e : ∃ i, i ≤ k ∧ Wk d a s i x
      · exact .inl e
      · have ej : j = k + 1 := by
          rcases Nat.lt_or_ge j (k + 1) with z | z
          · exact (e ⟨j, by omega, w⟩).elim
          · omega
        rw [ej] at w
        exact .inr ⟨w, fun i hi v => e ⟨i, by omega, v⟩⟩
  · by_cases e : ∃ i, i < k ∧ Wk d a s i x
    · obtain ⟨i, hi, v⟩ := e
      exact b.no i hi x v
    · have ej : j = k := by
        rcases Nat.lt_or_ge j k with z | z
        · exact (e ⟨j, z, w⟩).elim
        · omega
      rw [ej] at w
      exact hd x ((b.is x).mpr ⟨w, fun i hi v => e ⟨i, hi, v⟩⟩)
  · refine List.nodup_append.mpr ⟨b.once, nd, fun p hp q hq e => ?_⟩
    rw [← e] at hq
    exact ((hF p).mp hq).2 hp
theorem Bfs.few {d : Km535.Desk} (h : DOk d) {a : Nat} {s : List Nat} (hs : s ∈ Km536.allNames d) {k : Nat} {now old : List (List Nat)} (b : Bfs d a s k now old) : old.length ≤ (Km536.allNames d).length :=
  nodup_le _ _ b.once fun x hx => by
    obtain ⟨j, _, w⟩ := (b.was x).mp hx
    exact w.all h hs
theorem Bfs.now_all {d : Km535.Desk} (h : DOk d) {a : Nat} {s : List Nat} (hs : s ∈ Km536.allNames d) {k : Nat} {now old : List (List Nat)} (b : Bfs d a s k now old) {x : List Nat} (hx : x ∈ now) : x ∈ Km536.allNames d := ((b.is x).mp hx).1.all h hs
/-! ### done, by what may come next -/
theorem done_nx {d : Km535.Desk} (a : Nat) {x : List Nat} (o : Ok x) : Km536.done d x = (Km535.gathered x && decide ((nx d a x).length = 0)) := by
  unfold Km536.done
  congr 1
  by_cases c : nx d a x = []
  · rw [(nx_nil o).mp c, c]
    rfl
  · have h1 : Km535.eager d x ≠ [] := fun z => c ((nx_nil o).mpr z)
    have h2 : (Km535.eager d x == []) = false := by simpa using h1
    rw [h2, decide_eq_false fun z => c (List.length_eq_zero_iff.mp z)]
/-! ### worst: the two ways of finding it -/
theorem top_unsure {v : List Nat → Nat} {l : List (List Nat)} {P : List Nat → Bool} (hP : ∀ x ∈ l, P x = true → v x = 1000) (hN : ∀ x ∈ l, P x = false → v x < 1000) {x : List Nat} (h : l.find? P = some x) : firstTop v l = some x := by
  obtain ⟨px, l1, l2, e, no⟩ := List.find?_eq_some_iff_append.mp h
  subst e
  have vx := hP x (by simp) px
  refine top_is (fun z hz => ?_) fun z hz => ?_
  · rw [vx]
    exact hN z (by simp [hz]) (by simpa using no z hz)
  · rw [vx]
    cases c : P z with
    | true => rw [hP z (by simp [hz]) c]; exact Nat.le_refl _
    | false => have := hN z (by simp [hz]) c; omega
theorem top_most {v : List Nat → Nat} {l : List (List Nat)} {m : Nat} (hm : ∀ x ∈ l, v x ≤ m) {x : List Nat} (h : (l.filter fun y => v y == m).head? = some x) : firstTop v l = some x := by
  rw [List.head?_filter] at h
  obtain ⟨px, l1, l2, e, no⟩ := List.find?_eq_some_iff_append.mp h
  subst e
  have vx : v x = m := by simpa using px
  refine top_is (fun z hz => ?_) fun z hz => ?_
  · have h1 := hm z (by simp [hz])
    have h2 : ¬ v z = m := by simpa using no z hz
    omega
  · rw [vx]
    exact hm z (by simp [hz])
end Gs
/-! Sets whose members are tuples of whole numbers, or tuples that hold such tuples: kept, searched, added to. -/
namespace GsR
open PySem PySem.Spec PyProof.Rows L2

mutual
/-- numbers alone, at any depth -/
def numK : NestedKey → Bool
  | .none => false
  | .num _ => true
  | .text _ => false
  | .tup ks => numKs ks
def numKs : List NestedKey → Bool
  | [] => true
  | k :: ks => numK k && numKs ks
end
section
variable {P : Program} {w : World}
def PlainAt (P : Program) (w : World) (n : Nat) (s : Shared) (v : Value) : Prop :=
  (∀ (A : Around) (E : Value → Shared → Prop) (Q : Bool → Shared → Prop), Q false s → wpAny (model P w) A (ofAClassStatement n v) Q E s) ∧
  (∀ (A : Around) (E : Value → Shared → Prop) (Q : Bool → Shared → Prop), Q true s → wpAny (model P w) A (hashByValue n v) Q E s)
theorem PlainAt.int (n : Nat) (s : Shared) (i : Int) (t : Tok) : PlainAt P w n s (.int i t) :=
  ⟨fun A E Q q => by rw [L2.ofAClass_int]; exact wpAny_pure q, fun A E Q q => by rw [L2.hashBy_int]; exact wpAny_pure q⟩
theorem PlainAt.bool (n : Nat) (s : Shared) (b : Bool) : PlainAt P w n s (.bool b) :=
  ⟨fun A E Q q => by
    have e : ofAClassStatement n (.bool b) = pure false := by cases n <;> rfl
    rw [e]; exact wpAny_pure q, fun A E Q q => by
    have e : hashByValue n (.bool b) = pure true := by cases n <;> rfl
    rw [e]; exact wpAny_pure q⟩
theorem PlainAt.tup {n : Nat} {s : Shared} {a : Addr} {ob : Obj} {vs : Array Value} {m : Nat} (hg : s.heap.get? a = some ob) (hcl : ob.cls = .type "tuple") (hda : ob.data = .seq vs m) (al : ∀ v ∈ vs.toList, PlainAt P w n s v) : PlainAt P w (n + 1) s (.ref a) := by
  have ty : s.TypeIs (.ref a) "tuple" := ⟨ob, hg, hcl⟩
  refine ⟨fun A E Q q => ?_, fun A E Q q => ?_⟩
  · unfold ofAClassStatement
    refine wpAny_bind (wpAny_typeOf ty ?_)
    dsimp only
    have e1 : (("tuple" : String) == "tuple") = true := by decide
    simp only [e1, if_true, Bool.not_true, Bool.false_eq_true, if_false]
    try refine wpAny_bind (wpAny_pure ?_)
    try simp only [Bool.not_true, Bool.false_eq_true, if_false]
    show wpAny _ _ (seqItems? (.ref a) >>= _) _ _ s
    refine wpAny_bind (wpAny_seqItems hg hda ?_)
    dsimp only
    refine wpAny_bind ?_
    show wpAny _ _ (forIn vs _ _) _ _ s
    rw [← Array.forIn_toList]
    refine wpAny_forIn_list _ (fun more r s1 => r.1 = none ∧ s1 = s ∧ ∀ v ∈ more, PlainAt P w n s v) _ ?_ ?_ _ _ ⟨rfl, rfl, al⟩
    · rintro v more r s1 ⟨hr, rfl, ha⟩
      refine wpAny_bind ((ha v List.mem_cons_self).1 _ _ _ ?_)
      simp only [Bool.false_eq_true, if_false]
      exact wpAny_pure ⟨rfl, rfl, fun u hu => ha u (List.mem_cons_of_mem _ hu)⟩
    · rintro ⟨r1, r2⟩ s1 ⟨hr, rfl, _⟩
      simp only at hr
      subst hr
      exact wpAny_pure q
  · unfold hashByValue
    refine wpAny_bind (wpAny_specialOf ty F.slot_tuple_hash.lookup ?_)
    show wpAny _ _ (seqItems? (.ref a) >>= _) _ _ s
    refine wpAny_bind (wpAny_seqItems hg hda ?_)
    refine wpAny_bind ?_
    show wpAny _ _ (forIn vs _ _) _ _ s
    rw [← Array.forIn_toList]
    refine wpAny_forIn_list _ (fun more r s1 => r.1 = none ∧ s1 = s ∧ ∀ v ∈ more, PlainAt P w n s v) _ ?_ ?_ _ _ ⟨rfl, rfl, al⟩
    · rintro v more r s1 ⟨hr, rfl, ha⟩
      refine wpAny_bind ((ha v List.mem_cons_self).2 _ _ _ ?_)
      simp only [Bool.not_true, Bool.false_eq_true, if_false]
      exact wpAny_pure ⟨rfl, rfl, fun u hu => ha u (List.mem_cons_of_mem _ hu)⟩
    · rintro ⟨r1, r2⟩ s1 ⟨hr, rfl, _⟩
      simp only at hr
      subst hr
      exact wpAny_pure q
mutual
theorem plain_key : ∀ (k : NestedKey) (v : Value) (n : Nat) (s : Shared), NestedIs s.heap k v → numK k = true → k.depth ≤ n → PlainAt P w n s v
  | .none, _, _, _, _, hk, _ => by simp [numK] at hk
  | .text y, _, _, _, _, hk, _ => by simp [numK] at hk
  | .num i, _, n, s, x, _, _ => by
    cases x with
    | bool => exact PlainAt.bool n s _
    | int i t => exact PlainAt.int n s i t
  | .tup ks, _, n, s, x, hk, hn => by
    cases x with
    | tup hg hc hd al =>
      simp only [NestedKey.depth] at hn
      cases n with
      | zero => omega
      | succ n => exact PlainAt.tup hg hc hd (plain_keys ks _ n s al (by rw [numK] at hk; exact hk) (by omega))
theorem plain_keys : ∀ (ks : List NestedKey) (vs : List Value) (n : Nat) (s : Shared), NestedAll s.heap ks vs → numKs ks = true → NestedKey.depthAll ks ≤ n → ∀ v ∈ vs, PlainAt P w n s v
  | [], _, _, _, x, _, _, v, hv => by cases x; cases hv
  | k :: ks, _, n, s, x, hk, hn, v, hv => by
    cases x with
    | cons x1 x2 =>
      simp only [NestedKey.depthAll] at hn
      rw [numKs, Bool.and_eq_true] at hk
      rcases List.mem_cons.mp hv with e | hv
      · rw [e]; exact plain_key k _ n s x1 hk.1 (by omega)
      · exact plain_keys ks _ n s x2 hk.2 (by omega) v hv
end
end

/-- the tuple at a is the key k -/
structure At (h : Heap) (k : NestedKey) (a : Addr) : Prop where
  is : NestedIs h k (.ref a)
  dp : k.depth ≤ 8
  nm : numK k = true
theorem At.inj {h : Heap} {k j : NestedKey} {a : Addr} (x : At h k a) (y : At h j a) : k = j := NestedIs.inj _ _ _ x.is y.is
theorem At.mono {h h' : Heap} {k : NestedKey} {a : Addr} (x : At h k a) (kp : ∀ b o vs n, h.get? b = some o → o.data = .seq vs n → h'.get? b = some o) : At h' k a := ⟨NestedIs.at kp _ _ x.is, x.dp, x.nm⟩
theorem At.keep {h h' : Heap} {k : NestedKey} {a : Addr} (x : At h k a) (kp : ∀ b o, h.get? b = some o → h'.get? b = some o) : At h' k a := x.mono fun b o _ _ e _ => kp b o e
theorem At.past {h h' : Heap} {k : NestedKey} {a b : Addr} {o : Obj} {es : Array (Int × Value)} {ep : Nat} {t : SetTable} (x : At h k b) (ho : h.get? a = some o) (hd : o.data = .set es ep t) (sb : Heap.SameBut a h h') : At h' k b :=
  x.mono fun c oc vs n e hs => by
    refine (sb.2 c fun z => ?_).trans e
    subst z
    rw [ho] at e
    cases e
    rw [hd] at hs
    cases hs
section
variable {P : Program} {w : World} {A : Around} {E : Value → Shared → Prop} {s : Shared}
/-- a search among such tuples shows nothing -/
theorem At.unseen {k : NestedKey} {b : Addr} {Q : Bool → Shared → Prop} (x : At s.heap k b) {ys : List Value} (al : ∀ y ∈ ys, ∃ j c, y = Value.ref c ∧ At s.heap j c) (q : Q false s) : wpAny (model P w) A (searchCouldBeSeen (.ref b) ys) Q E s := by
  unfold searchCouldBeSeen
  refine wpAny_bind ?_
  refine wpAny_forIn_list _ (fun more r s1 => r.1 = none ∧ s1 = s ∧ ∀ y ∈ more, ∃ j c, y = Value.ref c ∧ At s.heap j c) _ ?_ ?_ _ _ ⟨rfl, rfl, al⟩
  · rintro v more r s1 ⟨hr, rfl, ha⟩
    obtain ⟨j, c, rfl, hc⟩ := ha v List.mem_cons_self
    have on : ∀ y ∈ more, ∃ j c, y = Value.ref c ∧ At s1.heap j c := fun u hu => ha u (List.mem_cons_of_mem _ hu)
    dsimp only
    by_cases hv : (b == c || (carriedByValue (.ref b) && carriedByValue (.ref c))) = true
    · exact wp_if_pos hv (wpAny_pure ⟨rfl, rfl, on⟩)
    · refine wp_if_neg hv ?_
      refine wpAny_bind (quiet_key k _ 8 s1 x.is x.dp _ _ _ ?_)
      simp only [Bool.not_true, Bool.false_eq_true, if_false]
      refine wpAny_bind (quiet_key j _ 8 s1 hc.is hc.dp _ _ _ ?_)
      simp only [Bool.not_true, Bool.false_eq_true, if_false]
      refine wpAny_bind ((plain_key (P := P) (w := w) k _ 8 s1 x.is x.nm x.dp).1 _ _ _ ?_)
      simp only [Bool.false_eq_true, if_false]
      refine wpAny_bind ((plain_key (P := P) (w := w) j _ 8 s1 hc.is hc.nm hc.dp).1 _ _ _ ?_)
      simp only [Bool.false_eq_true, if_false]
      exact wpAny_pure ⟨rfl, rfl, on⟩
  · rintro ⟨r1, r2⟩ s1 ⟨hr, rfl, _⟩
    simp only at hr
    subst hr
    exact wpAny_pure q
end
end GsR
namespace GsR
open PySem PySem.Spec PyProof.Rows L2

/-- the table's entries for the members L (address, key) -/
def ents (w : World) (L : List (Addr × NestedKey)) : List (Int × Value) := L.map fun m => (m.2.hash w, Value.ref m.1)
structure Tb (w : World) (h : Heap) (a : Addr) (L : List (Addr × NestedKey)) (es : Array (Int × Value)) (ep : Nat) (t : SetTable) : Prop where
  obj : ∃ o, h.get? a = some o ∧ o.ExactSet ∧ o.data = .set es ep t
  ent : es.toList = ents w L
  tok : TabOk t (L.map fun m => m.2.hash w)
  once : (L.map (·.2)).Nodup
  mem : ∀ m ∈ L, At h m.2 m.1
  pla : t.plain = true
  led : w.params.followText "set-order" = true ∨ t.led = true
  room : L.length * 5 < t.mask * 3
  few : L.length < 64
section
variable {P : Program} {w : World} {A : Around} {E : Value → Shared → Prop} {s : Shared} {a : Addr} {L : List (Addr × NestedKey)} {es : Array (Int × Value)} {ep : Nat} {t : SetTable}
theorem ents_len (w : World) (L : List (Addr × NestedKey)) : (ents w L).length = L.length := List.length_map _
theorem size_of_ents (e : es.toList = ents w L) : es.size = L.length := by
  have q := congrArg List.length e
  rw [ents_len, Array.length_toList] at q
  exact q
theorem fits_of (h1 : t.place.size = es.size) (h2 : t.dummies = #[]) (h3 : es.size ≤ t.mask) : t.fits es.size = true := by
  unfold SetTable.fits SetTable.fill
  rw [h2, Bool.and_eq_true, beq_iff_eq, decide_eq_true_eq]
  exact ⟨h1, by show t.place.size + 0 ≤ t.mask; omega⟩
theorem Tb.size (T : Tb w s.heap a L es ep t) : es.size = L.length := size_of_ents T.ent
theorem Tb.psize (T : Tb w s.heap a L es ep t) : t.place.size = L.length := by
  have q := T.tok.sz
  rw [List.length_map] at q
  exact q
theorem Tb.fits (T : Tb w s.heap a L es ep t) : t.fits es.size = true := by
  have h1 := T.size
  have h2 := T.psize
  have h3 := T.room
  exact fits_of (by omega) T.tok.dm (by omega)
theorem Tb.entry (T : Tb w s.heap a L es ep t) {i : Nat} {m : Addr × NestedKey} (e : L[i]? = some m) : es[i]? = some (m.2.hash w, Value.ref m.1) := by
  have q : es.toList[i]? = (ents w L)[i]? := by rw [T.ent]
  rw [Array.getElem?_toList] at q
  rw [q, ents, List.getElem?_map, e]
  rfl
theorem Tb.stays (T : Tb w s.heap a L es ep t) : ¬ t.gaveWay = true := by
  unfold SetTable.gaveWay
  rw [L2.mask_odd T.tok.mok]
  decide

/-- where the way of the hash stands behind c steps -/
abbrev pr (t : SetTable) (h : Int) (c : Nat) : SetTable.Probe := nth t.mask (runAt t.mask (SetTable.bits h % (t.mask + 1)) (SetTable.bits h)) c
theorem pr_dummy (t : SetTable) (h : Int) (c : Nat) : (pr t h c).dummy = none := by
  have on : ∀ (n : Nat) (p : SetTable.Probe), p.dummy = none → (nth t.mask p n).dummy = none := by
    intro n
    induction n with
    | zero => exact fun p z => z
    | succ n ih =>
      intro p z
      refine ih (adv t.mask p) ?_
      unfold adv
      split <;> exact z
  exact on c _ rfl
theorem pr_add (t : SetTable) (h : Int) (c q : Nat) : nth t.mask (pr t h c) q = pr t h (c + q) := (nth_add t.mask c _ q).symm

/-- the search from the c-th step of the way on; the K-th is the first empty one -/
theorem Tb.seek (T : Tb w s.heap a L es ep t) {x : Addr} {k : NestedKey} (X : At s.heap k x) (hu : A.units + 8 < cLine) {K : Nat} (hKf : K < 10 * SetTable.turns t.mask) (hK : way t.mask (k.hash w) K ∉ t.place.toList) (hKb : ∀ c, c < K → way t.mask (k.hash w) c ∈ t.place.toList)
    {Q : SetFound → Shared → Prop} (yes : k ∈ L.map (·.2) → Q (.there none) s) (no : k ∉ L.map (·.2) → Q (.free (way t.mask (k.hash w) K) false) s) :
    ∀ (f c : Nat) (st : Option SetTable.Probe), st.getD (t.probeStart (k.hash w)) = pr t (k.hash w) c → c ≤ K → K - c < f →
      (∀ (i : Nat) m, L[i]? = some m → m.2 = k → ∃ c', c ≤ c' ∧ c' < K ∧ t.place.toList[i]? = some (way t.mask (k.hash w) c')) → wpAny (model P w) A (setSearchFrom a (.ref x) (k.hash w) true f st) Q E s
  | 0, c, st, _, _, hf, _ => absurd hf (Nat.not_lt_zero _)
  | f + 1, c, st, hst, hc, hf, left => by
    obtain ⟨o, ho, hex, hd⟩ := T.obj
    rw [L2.setSearchFrom_succ]
    refine wpAny_bind (wpAny_setState_of ho hd T.fits ?_)
    dsimp only
    refine wp_if_neg T.stays ?_
    try refine wpAny_bind (wpAny_pure ?_)
    have jat : ∀ q, (nth t.mask (pr t (k.hash w) c) q).j = way t.mask (k.hash w) (c + q) := fun q => congrArg SetTable.Probe.j (pr_add t (k.hash w) c q)
    have hat : ∀ (i : Nat) (m : Addr × NestedKey), L[i]? = some m → (es[i]?.map (·.1)).getD 0 = m.2.hash w := fun i m e => by rw [T.entry e]; rfl
    have two := go_spec t T.tok.ris T.tok.dm (fun i => (es[i]?.map (·.1)).getD 0) (k.hash w) (10 * SetTable.turns t.mask) (K - c) (pr t (k.hash w) c) (pr_dummy t _ c) (by omega)
      (fun q hq => by rw [jat]; exact hKb (c + q) (by omega)) (by rw [jat, show c + (K - c) = K by omega]; exact hK)
    -- who has the key is not passed before
    have notYet : ∀ (m : Nat), (∀ (k' i' : Nat), k' < m → t.place.toList[i']? = some (nth t.mask (pr t (k.hash w) c) k').j → (es[i']?.map fun (e : Int × Value) => e.1).getD 0 ≠ k.hash w) → ∀ (i : Nat) u, L[i]? = some u → u.2 = k → ∃ c', c + m ≤ c' ∧ c' < K ∧ t.place.toList[i]? = some (way t.mask (k.hash w) c') := fun m hm i u hi hk => by
      obtain ⟨c', a1, a2, a3⟩ := left i u hi hk
      refine ⟨c', ?_, a2, a3⟩
      rcases Nat.lt_or_ge c' (c + m) with z | z
      · refine absurd ?_ (hm (c' - c) i (by omega) (by rw [jat, show c + (c' - c) = c' by omega]; exact a3))
        rw [hat i u hi, hk]
      · exact z
    rcases two with ⟨q, i, hq, hi, hh, hno, hpr⟩ | ⟨hno, hpr⟩
    · have hpr2 : t.probe (fun i => (es[i]?.map (·.1)).getD 0) (k.hash w) (st.getD (t.probeStart (k.hash w))) = some (.candidate (way t.mask (k.hash w) (c + q)) i (pr t (k.hash w) (c + (q + 1)))) := by
        rw [hst, ← jat, ← pr_add]
        exact hpr
      rw [hpr2]
      dsimp only
      rw [jat] at hi
      have hil : i < L.length := by
        have h1 := (List.getElem?_eq_some_iff.mp hi).1
        rw [Array.length_toList, T.psize] at h1
        exact h1
      obtain ⟨m, hm⟩ : ∃ m, L[i]? = some m := ⟨L[i], List.getElem?_eq_getElem hil⟩
      have inL : m ∈ L := List.mem_of_getElem? hm
      have go : wpAny (model P w) A (searchRest a (.ref x) (k.hash w) true f es t (way t.mask (k.hash w) (c + q)) i (pr t (k.hash w) (c + (q + 1)))) Q E s := by
        unfold searchRest
        rw [T.entry hm]
        dsimp only
        refine wpAny_bind (wpAny_holding ((nestedKind P w).eqBool (x := m.2) (y := k) hu ⟨(T.mem m inL).is, (T.mem m inL).dp⟩ ⟨X.is, X.dp⟩ ?_))
        refine wpAny_bind (wpAny_setState_of ho hd T.fits ?_)
        dsimp only
        by_cases same : m.2 = k
        · exact wp_if_pos (by simp [same]) (wpAny_pure (yes (List.mem_map.mpr ⟨m, inL, same⟩)))
        · refine wp_if_neg (by simp [same]) ?_
          try refine wpAny_bind (wpAny_pure ?_)
          rw [L2.sameMem]
          dsimp only
          have live : t.slot (way t.mask (k.hash w) (c + q)) = .live i := slot_live T.tok.ris hi
          simp only [if_true, live, T.entry hm]
          refine wpAny_bind (wpAny_isSame_ref_self (wpAny_bind (wpAny_pure ?_)))
          simp only [if_true]
          refine wp_if_neg (by simp [same]) ?_
          refine Tb.seek T X hu hKf hK hKb yes no f (c + (q + 1)) _ rfl (by omega) (by omega) fun i0 u hi0 hk0 => ?_
          obtain ⟨c', a1, a2, a3⟩ := notYet q hno i0 u hi0 hk0
          refine ⟨c', ?_, a2, a3⟩
          rcases Nat.lt_or_ge (c + q) c' with y | y
          · omega
          · exfalso
            have ec : c' = c + q := Nat.le_antisymm y a1
            rw [ec] at a3
            have l2 := slot_live T.tok.ris a3
            rw [live] at l2
            injection l2 with l2
            rw [← l2, hm] at hi0
            exact same ((congrArg Prod.snd (Option.some.inj hi0)).trans hk0)
      by_cases hl : t.led = true
      · refine wp_if_neg (by simp [hl]) ?_
        try refine wpAny_bind (wpAny_pure ?_)
        exact go
      · refine wp_if_pos (by simp [hl]) ?_
        refine wpAny_bind (X.unseen (fun y hy => ?_) ?_)
        · obtain ⟨e, he, ee⟩ := List.mem_map.mp hy
          have he1 : e ∈ es ∧ e.1 = k.hash w := by simpa using he
          have he2 : e ∈ es.toList := by simpa using he1.1
          rw [T.ent] at he2
          obtain ⟨u, hu2, e2⟩ := List.mem_map.mp he2
          exact ⟨u.2, u.1, by rw [← ee, ← e2], T.mem u hu2⟩
        · refine wp_if_neg (by decide) ?_
          try refine wpAny_bind (wpAny_pure ?_)
          exact go
    · have hpr2 : t.probe (fun i => (es[i]?.map (·.1)).getD 0) (k.hash w) (st.getD (t.probeStart (k.hash w))) = some (.empty (way t.mask (k.hash w) K) none) := by
        have e2 : way t.mask (k.hash w) K = (nth t.mask (pr t (k.hash w) c) (K - c)).j := by rw [jat, show c + (K - c) = K by omega]
        rw [hst, e2]
        exact hpr
      rw [hpr2]
      dsimp only
      refine wpAny_pure (no fun hm => ?_)
      obtain ⟨u, h0, hk0⟩ := List.mem_map.mp hm
      obtain ⟨i0, hi0, e0⟩ := List.getElem_of_mem h0
      obtain ⟨c', a1, a2, _⟩ := notYet (K - c) hno i0 u (by rw [List.getElem?_eq_getElem hi0, e0]) hk0
      omega
/-- the search as adding asks for it -/
theorem Tb.search (T : Tb w s.heap a L es ep t) {x : Addr} {k : NestedKey} (X : At s.heap k x) (hu : A.units + 8 < cLine) {Q : SetFound → Shared → Prop} (yes : k ∈ L.map (·.2) → Q (.there none) s)
    (no : ∀ K, k ∉ L.map (·.2) → way t.mask (k.hash w) K ∉ t.place.toList → (∀ c, c < K → way t.mask (k.hash w) c ∈ t.place.toList) → Q (.free (way t.mask (k.hash w) K) false) s) : wpAny (model P w) A (setSearch a (.ref x) (k.hash w) true) Q E s := by
  have hroom := T.room
  obtain ⟨K, hKf, hK, hKb⟩ := T.tok.first (by rw [List.length_map]; omega) (k.hash w)
  have lid : 10 * SetTable.turns t.mask ≤ 1420 := by
    unfold SetTable.turns
    rcases T.tok.mok with e | e | e <;> omega
  unfold setSearch
  refine T.seek X hu hKf hK hKb yes (fun hn => no K hn hK hKb) 100000 0 none rfl (Nat.zero_le _) (by omega) fun i m hm hk => ?_
  have hi : (L.map fun m => m.2.hash w)[i]? = some (k.hash w) := by
    rw [List.getElem?_map, hm, ← hk]
    rfl
  have hil : i < t.place.toList.length := by
    rw [Array.length_toList, T.psize]
    exact (List.getElem?_eq_some_iff.mp hm).1
  obtain ⟨c, hc, e⟩ := T.tok.before hK hi (List.getElem?_eq_getElem hil)
  exact ⟨c, Nat.zero_le _, hc, by rw [List.getElem?_eq_getElem hil, e]⟩
end
end GsR
namespace GsR
open PySem PySem.Spec PyProof.Rows L2
section
variable {P : Program} {w : World} {A : Around} {E : Value → Shared → Prop} {s : Shared} {a : Addr} {L : List (Addr × NestedKey)} {es : Array (Int × Value)} {ep : Nat} {t : SetTable}
theorem ents_put (w : World) (L : List (Addr × NestedKey)) (p : Nat) (m : Addr × NestedKey) : ents w (L.take p ++ m :: L.drop p) = (ents w L).take p ++ (m.2.hash w, Value.ref m.1) :: (ents w L).drop p := by
  simp only [ents, List.map_append, List.map_cons, List.map_take, List.map_drop]
/-- entries in another order are entries of the members in another order -/
theorem ents_order {order : Array Nat} (he : es.toList = ents w L) (hp : order.toList.Perm (List.range L.length)) :
    ∃ M, (order.filterMap (es[·]?)).toList = ents w M ∧ M.Perm L ∧ (M.map fun m => m.2.hash w) = order.toList.map fun i => (es.map (·.1)).getD i 0 := by
  have hsz := size_of_ents he
  have at_ : ∀ i (h : i < L.length), es[i]? = some ((L[i]).2.hash w, Value.ref (L[i]).1) := fun i h => by
    have q : es.toList[i]? = (ents w L)[i]? := by rw [he]
    rw [Array.getElem?_toList] at q
    rw [q, ents, List.getElem?_map, List.getElem?_eq_getElem h]
    rfl
  have pick : ∀ l : List Nat, (∀ i ∈ l, i < L.length) → l.filterMap (fun i => es[i]?) = ents w (l.filterMap fun i => L[i]?) ∧ ((l.filterMap fun i => L[i]?).map fun m => m.2.hash w) = l.map fun i => (es.map (·.1)).getD i 0 := by
    intro l
    induction l with
    | nil => exact fun _ => ⟨rfl, rfl⟩
    | cons i l ih =>
      intro hl
      have hi := hl i List.mem_cons_self
      obtain ⟨e1, e2⟩ := ih fun j hj => hl j (List.mem_cons_of_mem _ hj)
      have e3 : (es.map (·.1)).getD i 0 = (L[i]).2.hash w := by
        have e4 : (es.map (·.1))[i]? = some ((L[i]).2.hash w) := by
          rw [Array.getElem?_map, at_ i hi]
          rfl
        simp [Array.getD_eq_getD_getElem?, e4]
      rw [List.filterMap_cons_some (at_ i hi), List.filterMap_cons_some (List.getElem?_eq_getElem hi), e1, List.map_cons, List.map_cons, e2, e3]
      exact ⟨rfl, rfl⟩
  obtain ⟨e1, e2⟩ := pick order.toList fun i hi => List.mem_range.mp (hp.mem_iff.mp hi)
  refine ⟨order.toList.filterMap fun i => L[i]?, by first | (rw [Array.toList_filterMap]; exact e1) | simpa using e1, ?_, e2⟩
  have all : (List.range L.length).filterMap (fun i => L[i]?) = L := by
    have upto : ∀ n, n ≤ L.length → (List.range n).filterMap (fun i => L[i]?) = L.take n := by
      intro n
      induction n with
      | zero => exact fun _ => rfl
      | succ n ih =>
        intro hn
        have hlt : n < L.length := hn
        rw [List.range_succ, List.filterMap_append, ih (Nat.le_of_lt hlt), List.take_add_one, List.getElem?_eq_getElem hlt, List.filterMap_cons_some (List.getElem?_eq_getElem hlt)]
        rfl
    rw [upto _ (Nat.le_refl _), List.take_length]
  have pm := hp.filterMap (fun i => L[i]?)
  rw [all] at pm
  exact pm

/-- the table laid anew, larger -/
theorem relay {o : Obj} (ho : s.heap.get? a = some o) (hex : o.ExactSet) (hd : o.data = .set es ep t) (he : es.toList = ents w L) (hsz : t.place.size = es.size) (hdm : t.dummies = #[]) (hfl : es.size ≤ t.mask) (nd : (L.map (·.2)).Nodup) (mem : ∀ m ∈ L, At s.heap m.2 m.1) (pl : t.plain = true)
    (ld : w.params.followText "set-order" = true ∨ t.led = true) (few : L.length < 64) {wanted M : Nat} (hw : SetTable.sizeAbove wanted - 1 = M) (hM : MaskOk M) (hw2 : SetTable.sizeAbove wanted ≤ 128) (hn : L.length * 5 < M * 3) {Q : Unit → Shared → Prop}
    (q : ∀ h' L' es' ep' t', Heap.SameBut a s.heap h' → Tb w h' a L' es' ep' t' → L'.Perm L → Q () { s with heap := h' }) : wpAny (model P w) A (setRelay a wanted) Q E s := by
  have hsl := size_of_ents he
  obtain ⟨t2, order, e, hp, T2, em, el, ep2, _⟩ := relaid_ok t (hs := es.map (·.1)) (wanted := wanted) hw hM (by rw [Array.size_map, hsl]; omega)
  rw [Array.size_map, hsl] at hp
  obtain ⟨M2, r1, r2, r3⟩ := ents_order he hp
  rw [← r3] at T2
  have hs2 : (order.filterMap (es[·]?)).size = es.size := by rw [size_of_ents r1, r2.length_eq, hsl]
  rw [setRelay_eq]
  refine wpAny_bind (wpAny_setState_of ho hd (fits_of hsz hdm hfl) ?_)
  dsimp only
  refine wp_if_neg (by rw [sizeLine_eq]; omega) ?_
  try refine wpAny_bind (wpAny_pure ?_)
  rw [e]
  dsimp only
  refine wpAny_bind (wp_if_neg (by rw [hs2]; simp) ?_)
  try refine wpAny_bind (wpAny_pure ?_)
  refine wpAny_pure ?_
  dsimp only
  refine wpAny_storeSet_of ho hd ?_ (by rw [hs2, hsl, sizeLine_eq]; omega)
  have sb : Heap.SameBut a s.heap (s.heap.update a (Obj.putSet (order.filterMap (es[·]?)) t2)) := Heap.SameBut.update ..
  exact q _ M2 (order.filterMap (es[·]?)) (ep + 1) t2 sb ⟨⟨_, store_at ho hd, ⟨hex.1, hex.2.1, hex.2.2⟩, rfl⟩, r1, T2, (r2.map (·.2)).nodup_iff.mpr nd, fun m hm => (mem m (r2.mem_iff.mp hm)).past ho hd sb, by rw [ep2]; exact pl, by rw [el]; exact ld, by rw [r2.length_eq, em]; exact hn, by rw [r2.length_eq]; exact few⟩ r2

/-- one more member, or one that is there already -/
theorem Tb.add (T : Tb w s.heap a L es ep t) {x : Addr} {k : NestedKey} (X : At s.heap k x) (hu : A.units + 8 < cLine) (hfew : L.length + 1 < 64) {Q : Bool → Shared → Prop}
    (q : ∀ b h' L' es' ep' t', Heap.SameBut a s.heap h' → Tb w h' a L' es' ep' t' → (k ∈ L.map (·.2) → L' = L) → (k ∉ L.map (·.2) → L'.Perm ((x, k) :: L)) → Q b { s with heap := h' }) : wpAny (model P w) A (setAddHashed a (.ref x) (k.hash w)) Q E s := by
  obtain ⟨o, ho, hex, hd⟩ := T.obj
  have hsl := T.size
  have hroom := T.room
  unfold setAddHashed
  refine wpAny_holding ?_
  rw [show (100000 : Nat) = 99999 + 1 from rfl, setAddHashedIn_succ]
  refine wpAny_bind (wpAny_setState_of ho hd T.fits ?_)
  dsimp only
  refine wp_if_neg (by simp [byScan, Value.scannable]) ?_
  try refine wpAny_bind (wpAny_pure ?_)
  refine wpAny_bind (T.search X hu (fun hm => ?_) fun K hm hK hb => ?_)
  · exact wpAny_pure (q false s.heap L es ep t (Heap.SameBut.refl a s.heap) T (fun _ => rfl) fun z => absurd hm z)
  · dsimp only
    refine wpAny_bind (wpAny_setState_of ho hd T.fits ?_)
    dsimp only
    obtain ⟨q1, q2, q3, q4, q5, q6, q7, q8, q9⟩ := T.tok.put hK hb
    have hp1 : (t.put (way t.mask (k.hash w) K)).1.plain = true := by rw [q6]; exact T.pla
    generalize hpt : t.put (way t.mask (k.hash w) K) = pt at q1 q3 q4 q5 q6 q7 q8 q9 hp1 ⊢
    obtain ⟨t1, p⟩ := pt
    dsimp only at q1 q3 q4 q5 q6 q7 q8 q9 hp1 ⊢
    subst q1
    first
      | (refine wpAny_bind ?_; refine wp_if_pos hp1 ?_; refine (plain_key (P := P) (w := w) k _ 8 s X.is X.nm X.dp).2 _ _ _ ?_)
      | refine wp_if_pos hp1 (wpAny_bind ((plain_key (P := P) (w := w) k _ 8 s X.is X.nm X.dp).2 _ _ _ ?_))
    simp only [if_true]
    have hin : (SetTable.insertAt es (SetTable.below t.place (way t.mask (k.hash w) K)) (k.hash w, Value.ref x)).toList = ents w (L.take (SetTable.below t.place (way t.mask (k.hash w) K)) ++ (x, k) :: L.drop (SetTable.below t.place (way t.mask (k.hash w) K))) := by
      rw [SetTable.toList_insertAt, ents_put, T.ent]
    generalize SetTable.below t.place (way t.mask (k.hash w) K) = p at q2 q3 hin ⊢
    have pm := put_perm L p (x, k)
    have hlen : (L.take p ++ (x, k) :: L.drop p).length = L.length + 1 := pm.length_eq
    have hhs : (L.take p ++ (x, k) :: L.drop p).map (fun m => m.2.hash w) = (L.map fun m => m.2.hash w).take p ++ k.hash w :: (L.map fun m => m.2.hash w).drop p := by
      simp only [List.map_append, List.map_cons, List.map_take, List.map_drop]
    rw [← hhs] at q3
    have nd1 : ((L.take p ++ (x, k) :: L.drop p).map (·.2)).Nodup := (pm.map (·.2)).nodup_iff.mpr (List.nodup_cons.mpr ⟨hm, T.once⟩)
    have hes : (SetTable.insertAt es p (k.hash w, Value.ref x)).size = L.length + 1 := (size_of_ents hin).trans hlen
    generalize SetTable.insertAt es p (k.hash w, Value.ref x) = es1 at hin hes ⊢
    generalize L.take p ++ (x, k) :: L.drop p = L1 at pm hlen q3 nd1 hin
    refine wpAny_bind (wpAny_storeSet_of ho hd ?_ (by rw [hes, sizeLine_eq]; omega))
    have sb : Heap.SameBut a s.heap (s.heap.update a (Obj.putSet es1 t1)) := Heap.SameBut.update ..
    have ho1 := store_at (es' := es1) (t' := t1) ho hd
    generalize s.heap.update a (Obj.putSet es1 t1) = h1 at sb ho1 ⊢
    have mem1 : ∀ m ∈ L1, At h1 m.2 m.1 := fun m hm1 => by
      rcases List.mem_cons.mp (pm.mem_iff.mp hm1) with e | hm1
      · rw [e]; exact X.past ho hd sb
      · exact (T.mem m hm1).past ho hd sb
    have ld1 : w.params.followText "set-order" = true ∨ t1.led = true := by rw [q5]; exact T.led
    by_cases hf : t1.tooFull = true
    · first
        | (refine wpAny_bind ?_; refine wp_if_pos (by simp [hf]) ?_)
        | (refine wp_if_pos (by simp [hf]) ?_; refine wpAny_bind ?_)
      have hfull : (L.length + 1) * 5 ≥ t1.mask * 3 := by
        have z := hf
        unfold SetTable.tooFull at z
        rw [decide_eq_true_eq, q9, List.length_map] at z
        exact z
      rw [hsl]
      have hsz1 : t1.place.size = es1.size := by
        have z := q3.sz
        rw [List.length_map, hlen] at z
        rw [z, hes]
      have cases2 : (t.mask = 7 ∧ L.length = 4) ∨ (t.mask = 31 ∧ L.length = 18) := by
        rcases T.tok.mok with e | e | e
        · left; rw [q4, e] at hfull; rw [e] at hroom; exact ⟨e, by omega⟩
        · right; rw [q4, e] at hfull; rw [e] at hroom; exact ⟨e, by omega⟩
        · exfalso; rw [q4, e] at hfull; omega
      have go : ∀ M, SetTable.sizeAbove (SetTable.grown (L.length + 1)) - 1 = M → MaskOk M → SetTable.sizeAbove (SetTable.grown (L.length + 1)) ≤ 128 → (L.length + 1) * 5 < M * 3 →
          wpAny (model P w) A (setRelay a (SetTable.grown (L.length + 1))) (fun _ s' => wpAny (model P w) A (pure true) Q E s') E { s with heap := h1 } := fun M g1 g2 g3 g4 =>
        relay (s := { s with heap := h1 }) ho1 ⟨hex.1, hex.2.1, hex.2.2⟩ rfl hin hsz1 q3.dm (by rw [hes, q4]; rcases cases2 with ⟨e, e2⟩ | ⟨e, e2⟩ <;> omega) nd1 mem1 hp1 ld1 (by rw [hlen]; exact hfew) g1 g2 g3 (by rw [hlen]; exact g4)
          fun h2 M2 es2 ep2 t2 sb2 R2 pm2 => wpAny_pure (q true h2 M2 es2 ep2 t2 (sb.trans sb2) R2 (fun z => absurd z hm) fun _ => pm2.trans pm)
      rcases cases2 with ⟨_, e2⟩ | ⟨_, e2⟩
      · exact go 31 (by rw [e2, size_20]) (.inr (.inl rfl)) (by rw [e2, size_20]; decide) (by omega)
      · exact go 127 (by rw [e2, size_76]) (.inr (.inr rfl)) (by rw [e2, size_76]; decide) (by omega)
    · first
        | refine wp_if_neg (by simp [hf]) ?_
        | (refine wpAny_bind ?_; refine wp_if_neg (by simp [hf]) ?_; refine wpAny_pure ?_)
      refine wpAny_pure (q true h1 L1 es1 (ep + 1) t1 sb ⟨⟨_, ho1, ⟨hex.1, hex.2.1, hex.2.2⟩, rfl⟩, hin, q3, nd1, mem1, hp1, ld1, ?_, by rw [hlen]; exact hfew⟩ (fun z => absurd z hm) fun _ => pm)
      have z := hf
      unfold SetTable.tooFull at z
      rw [decide_eq_true_eq, q9, List.length_map] at z
      rw [hlen]
      omega
theorem Tb.keep {h h' : Heap} (T : Tb w h a L es ep t) (ha : ∀ o, h.get? a = some o → h'.get? a = some o) (hm : ∀ m ∈ L, At h' m.2 m.1) : Tb w h' a L es ep t := by
  obtain ⟨o, ho, r⟩ := T.obj
  exact ⟨⟨o, ha o ho, r⟩, T.ent, T.tok, T.once, hm, T.pla, T.led, T.room, T.few⟩
/-- a new set -/
theorem Tb.fresh {h : Heap} {a : Addr} (ho : h.get? a = some { cls := .type "set", dict := none, data := .set #[] 0 (.fresh 0 0 (!w.params.followText "set-order")) }) : Tb w h a [] #[] 0 (.fresh 0 0 (!w.params.followText "set-order")) where
  obj := ⟨_, ho, ⟨rfl, rfl, rfl⟩, rfl⟩
  ent := rfl
  tok := ⟨List.Pairwise.nil, rfl, rfl, .inl rfl, fun x hx => (by cases hx), fun i h j hi => (by simp at hi)⟩
  once := List.nodup_nil
  mem := fun p hp => (by cases hp)
  pla := rfl
  led := by
    show _ ∨ (!w.params.followText "set-order") = true
    cases w.params.followText "set-order"
    · exact .inr rfl
    · exact .inl rfl
  room := by show 0 * 5 < 7 * 3; decide
  few := by show 0 < 64; decide
end
end GsR
namespace GsR
open PySem PySem.Spec PyProof.Rows L2
abbrev Mem := Addr × NestedKey
/-- what the set has behind the first i items -/
structure Had (ks : List Mem) (i : Nat) (L : List Mem) : Prop where
  sub : ∀ m ∈ L, m ∈ ks.take i
  all : ∀ m ∈ ks.take i, m.2 ∈ L.map (·.2)
theorem took {α : Type} {l : List α} {i : Nat} {x : α} (h : l[i]? = some x) : l.take (i + 1) = l.take i ++ [x] := by
  rw [List.take_add_one, h]
  rfl
theorem Had.none (ks : List Mem) : Had ks 0 [] := ⟨fun m h => (by cases h), fun m h => (by simp at h)⟩
theorem Had.old {ks L : List Mem} {i : Nat} {x : Mem} (g : Had ks i L) (h : ks[i]? = some x) (hx : x.2 ∈ L.map (·.2)) : Had ks (i + 1) L := by
  refine ⟨fun m hm => ?_, fun m hm => ?_⟩ <;> rw [took h] at *
  · exact List.mem_append_left _ (g.sub m hm)
  · rcases List.mem_append.mp hm with z | z
    · exact g.all m z
    · rw [List.mem_singleton.mp z]; exact hx
theorem Had.new {ks L M : List Mem} {i : Nat} {x : Mem} (g : Had ks i L) (h : ks[i]? = some x) (pm : M.Perm (x :: L)) : Had ks (i + 1) M := by
  refine ⟨fun m hm => ?_, fun m hm => ?_⟩ <;> rw [took h] at *
  · rcases List.mem_cons.mp (pm.mem_iff.mp hm) with e | z
    · rw [e]; exact List.mem_append_right _ (List.mem_singleton.mpr rfl)
    · exact List.mem_append_left _ (g.sub m z)
  · rw [(pm.map (·.2)).mem_iff, List.map_cons]
    rcases List.mem_append.mp hm with z | z
    · exact List.mem_cons_of_mem _ (g.all m z)
    · rw [List.mem_singleton.mp z]; exact List.mem_cons_self
/-- members without doubles among the keys D -/
theorem few_of {D : List NestedKey} {L : List Mem} (nd : (L.map (·.2)).Nodup) (hs : ∀ m ∈ L, m.2 ∈ D) : L.length ≤ D.length := by
  have pig : ∀ (l m : List NestedKey), l.Nodup → (∀ x ∈ l, x ∈ m) → l.length ≤ m.length := by
    intro l
    induction l with
    | nil => exact fun _ _ _ => Nat.zero_le _
    | cons x l ih =>
      intro m hn hs
      obtain ⟨h1, h2⟩ := List.nodup_cons.mp hn
      have hx := hs x List.mem_cons_self
      have q := ih (m.erase x) h2 fun y hy => (List.mem_erase_of_ne fun (e : y = x) => h1 (e ▸ hy)).mpr (hs y (List.mem_cons_of_mem _ hy))
      rw [List.length_erase_of_mem hx] at q
      have := List.length_pos_of_mem hx
      rw [List.length_cons]
      omega
  have q := pig (L.map (·.2)) D nd fun x hx => by
    obtain ⟨m, hm, e⟩ := List.mem_map.mp hx
    rw [← e]
    exact hs m hm
  rw [List.length_map] at q
  exact q
section
variable {P : Program} {w : World} {A : Around} {E : Value → Shared → Prop} {s : Shared}
/-- the loop that fills a set -/
theorem fill {I : Addr} {fp wr : List Addr} {G : Array GenState → Array GenState → Prop} {n : Nat} {Pv : Nat → Value → Prop} {St : Nat → Shared → Prop} {R : Result → Shared → Prop} (W : WalksS P w A.in1 I fp wr G n Pv St) (S : Addr) (out : S ∉ fp) (ks : List Mem) (hn : n = ks.length)
    {D : List NestedKey} (hD : ∀ m ∈ ks, m.2 ∈ D) (hD2 : D.length ≤ 62) (hval : ∀ i v, Pv i v → ∃ m, ks[i]? = some m ∧ v = .ref m.1) (h0 : Heap) (hk : ∀ m ∈ ks, At h0 m.2 m.1) (nS : h0.get? S = none) (nw : ∀ b ∈ wr, h0.get? b = none) (hu : A.in1.units + 8 < cLine) :
    ∀ (k i : Nat) (s : Shared), n - i = k → i ≤ n → St i s → (∀ b o, h0.get? b = some o → s.heap.get? b = some o) → (∃ L es ep t, Tb w s.heap S L es ep t ∧ Had ks i L) →
      (∀ s' L es ep t, Moved (S :: wr) G s s' → Tb w s'.heap S L es ep t → Had ks n L → (∀ b o, h0.get? b = some o → s'.heap.get? b = some o) → R (.ok (.ret .none)) s') → codeAny (model P w) A (.builtin "set.update.loop" ⟨[.ref S, .ref I], []⟩) R s := by
  have outw : S ∉ wr := fun z => out (W.sub _ z)
  have more : ∀ b ∈ wr, b ∈ S :: wr := fun b hb => List.mem_cons_of_mem _ hb
  have over : ∀ {u u' : Shared}, Moved wr G u u' → (∀ b o, h0.get? b = some o → u.heap.get? b = some o) → ∀ b o, h0.get? b = some o → u'.heap.get? b = some o := fun mv kp b o e =>
    mv.heap b o (fun hb => by rw [nw b hb] at e; cases e) (kp b o e)
  intro k
  induction k with
  | zero =>
    intro i s hki hi hst kp ⟨L, es, ep, t, T, g⟩ hR
    obtain rfl : i = n := by omega
    refine codeAny_builtin F.entry_set_update_loop ?_
    rw [Around.under_plainId F.plain_set_update_loop _]
    show wpAny _ A.in1 (pyNext (.ref I) >>= _) _ _ s
    refine wpAny_bind (W.done s _ _ hst fun s1 mv => ?_)
    show wpAny _ A.in1 (ret Value.none) _ _ s1
    have kp1 := over mv kp
    exact wpAny_pure (hR s1 L es ep t (mv.mono more) (T.keep (fun o e => mv.heap S o outw e) fun m hm => (hk m (List.mem_of_mem_take (g.sub m hm))).keep kp1) g kp1)
  | succ k ih =>
    intro i s hki hi hst kp ⟨L, es, ep, t, T, g⟩ hR
    have hlt : i < n := by omega
    refine codeAny_builtin F.entry_set_update_loop ?_
    rw [Around.under_plainId F.plain_set_update_loop _]
    show wpAny _ A.in1 (pyNext (.ref I) >>= _) _ _ s
    refine wpAny_bind (W.item i s _ _ hlt hst fun v s1 hP hst1 mv => ?_)
    obtain ⟨m, hm, rfl⟩ := hval i v hP
    have kp1 := over mv kp
    have T1 : Tb w s1.heap S L es ep t := T.keep (fun o e => mv.heap S o outw e) fun q hq => (hk q (List.mem_of_mem_take (g.sub q hq))).keep kp1
    have X : At s1.heap m.2 m.1 := (hk m (List.mem_of_getElem? hm)).keep kp1
    have lid : L.length ≤ 62 := Nat.le_trans (few_of T.once fun q hq => hD q (List.mem_of_mem_take (g.sub q hq))) hD2
    show wpAny _ A.in1 (holding [Value.ref m.1] (setAdd S (.ref m.1)) >>= _) _ _ s1
    refine wpAny_bind (wpAny_holding ?_)
    unfold setAdd
    refine wpAny_holding ?_
    refine wpAny_bind ((nestedKind P w).pyHash (k := m.2) hu ⟨X.is, X.dp⟩ ?_)
    refine Tb.add (s := { s1 with toks := s1.toks + m.2.draws }) T1 X hu (by omega) fun b h2 L2 es2 ep2 t2 sb T2 c1 c2 => ?_
    have g2 : Had ks (i + 1) L2 := by
      rcases Classical.em (m.2 ∈ L.map (·.2)) with c | c
      · rw [c1 c]; exact g.old hm c
      · exact g.new hm (c2 c)
    have kp2 : ∀ b o, h0.get? b = some o → h2.get? b = some o := fun b o e => (sb.2 b (fun z => by rw [z, nS] at e; cases e)).trans (kp1 b o e)
    refine wpAny_pure ⟨plainId_quiet F.plain_set_update_loop _, ih (i + 1) _ (by omega) hlt (W.frame _ s1 _ _ hst1 (Nat.le_add_right _ _) fun b hb o e => ?_) kp2 ⟨L2, es2, ep2, t2, T2, g2⟩ fun s3 L3 es3 ep3 t3 mv3 T3 g3 kp3 => ?_⟩
    · rw [sb.2 b (fun z : b = S => out (by rw [← z]; exact hb))]; exact e
    · refine hR s3 L3 es3 ep3 t3 (Moved.trans W.gtrans ((mv.mono more).then_heap (Nat.le_add_right _ _) fun b o hb e => ?_) mv3) T3 g3 kp3
      rw [sb.2 b (fun z : b = S => hb (by rw [z]; exact List.mem_cons_self))]; exact e
/-- a set without members, as it is made -/
abbrev noSet (w : World) : Obj := { cls := .type "set", dict := none, data := .set #[] 0 (.fresh 0 0 (!w.params.followText "set-order")) }
/-- set(xs) -/
theorem set_of {l : Addr} {items : Array Value} (ks : List Mem) {Q : Value → Shared → Prop} (hh : A.handled = none) (hl : s.heap.IsList l items) (hit : items.toList = ks.map fun m => Value.ref m.1) (hk : ∀ m ∈ ks, At s.heap m.2 m.1) {D : List NestedKey} (hD : ∀ m ∈ ks, m.2 ∈ D) (hD2 : D.length ≤ 62) (hu : A.units + 16 < cLine)
    (q : ∀ (h' : Heap) (tk : Nat) L es ep t, Tb w h' s.heap.objs.size L es ep t → Had ks ks.length L → (∀ b o, s.heap.get? b = some o → h'.get? b = some o) → Q (.ref s.heap.objs.size) { s with heap := h', toks := tk }) : wpAny (model P w) A (call (.type "set") [.ref l]) Q E s := by
  have isz : items.size = ks.length := by
    have z := congrArg List.length hit
    rw [Array.length_toList, List.length_map] at z
    exact z
  obtain ⟨c, tl, hmro⟩ := F.called_set.mro
  have hmade := F.called_set.made
  have hsub := F.called_set.sub
  refine wpAny_call (codeAny_of_tree ?_)
  show wpAny _ _ (callAny (.type "set") _) _ _ _
  refine wpAny_pure ⟨Code.quiet_builtin _ (by decide +kernel), codeAny_builtin F.entry_type_call ?_⟩
  rw [Around.under_plain (weight_type_call_type "set" [.ref l] []) rfl]
  have g1 := F.called_set.notType
  have g2 := F.called_set.canCreate
  have g3 := F.typeCall_set_1 (.ref l)
  repeat (any_goals (first | assumption | wp_step))
  refine codeAny_mono (code_set_led1 (.ref l) (E := E) (Q₁ := fun ob s1 => ob = .ref s.heap.objs.size ∧ s1 = { s with heap := s.heap.push (noSet w) }) ⟨rfl, rfl⟩) fun r s1 hr => ?_
  cases r with
  | error e => exact hr
  | ok fl =>
    cases fl with
    | ret ob =>
      obtain ⟨rfl, rfl⟩ := hr
      have hS : (s.heap.push (noSet w)).get? s.heap.objs.size = some (noSet w) := Heap.get?_push_size _ rfl
      have hT : Shared.TypeIs { s with heap := s.heap.push (noSet w) } (.ref s.heap.objs.size) "set" := ⟨_, hS, rfl⟩
      have g4 := F.called_set.init.lookup
      have g5 := F.called_set.init.bind (.ref s.heap.objs.size)
      repeat (any_goals (first | assumption | wp_step))
      refine codeAny_mono (codeAny_call_builtin (R := wants (fun r s2 => r = .none ∧ ∃ h' tk L es ep t, s2 = { s with heap := h', toks := tk } ∧ Tb w h' s.heap.objs.size L es ep t ∧ Had ks ks.length L ∧ (∀ b o, s.heap.get? b = some o → h'.get? b = some o)) E) F.called_set.init.plain F.entry_set_init (check_set_init_1 hT ?_)) fun r2 s2 hr2 => ?_
      · obtain ⟨ol, hol, hcl, nl, hdl⟩ := hl
        obtain ⟨ocls, odict, odata, oslots⟩ := ol
        simp only at hcl hdl
        subst hcl; subst hdl
        have hol' : (s.heap.push (noSet w)).get? l = some { cls := .type "list", dict := odict, data := .seq items nl, slots := oslots } := Heap.get?_push_of_some _ hol
        have hsls := F.sub_list_set
        have hslf := F.sub_list_frozenset
        have hne : (Value.type "list" == Value.type "dict") = false := by decide
        have hl1 : (s.heap.push (noSet w)).IsList l items := ⟨_, hol', rfl, nl, rfl⟩
        unfold Builtin.«set.__init__» noKeywords Builtin.Frozenset.updateFrom
        generalize hPI : pyIter = PI
        wp_walk
        subst hPI
        refine wpAny_pyIter_list hl1 ?_
        refine wpAny_bind (wpAny_runValue ?_)
        have lS : l < s.heap.objs.size := Heap.lt_size hol
        have hh3 : A.in1.in1.in1.handled = none := by simp [hh]
        have away : l ≠ (s.heap.push (noSet w)).objs.size := by
          rw [Heap.size_push]; exact Nat.ne_of_lt (Nat.lt_succ_of_lt lS)
        have outS : s.heap.objs.size ∉ [(s.heap.push (noSet w)).objs.size, l] := by
          rw [Heap.size_push]
          simp only [List.mem_cons, List.mem_singleton, List.not_mem_nil, or_false, not_or]
          exact ⟨Nat.ne_of_lt (Nat.lt_succ_self _), Nat.ne_of_gt lS⟩
        have hval : ∀ (i : Nat) (v : Value), items[i]? = some v → ∃ m, ks[i]? = some m ∧ v = .ref m.1 := fun i v hv => by
          have z : items.toList[i]? = some v := by rw [Array.getElem?_toList]; exact hv
          rw [hit, List.getElem?_map] at z
          obtain ⟨m, e1, e2⟩ := Option.map_eq_some_iff.mp z
          exact ⟨m, e1, e2.symm⟩
        have void : ∀ b, s.heap.objs.size ≤ b → s.heap.get? b = none := fun b hb => by
          cases z : s.heap.get? b with
          | none => rfl
          | some o => exact absurd (Nat.lt_of_lt_of_le (Heap.lt_size z) hb) (Nat.lt_irrefl _)
        refine fill ((Walks.list hh3 _ l away items).toS) s.heap.objs.size outS ks isz hD hD2 hval s.heap hk (void _ (Nat.le_refl _)) (fun b hb => void b (by
            rw [List.mem_singleton.mp hb, Heap.size_push]
            exact Nat.le_succ _)) (by show A.units + 3 + 8 < cLine; omega) (items.size - 0) 0 _ (by omega) (Nat.zero_le _) ⟨⟨_, Heap.get?_push_size _ rfl, rfl, rfl⟩, (hl1.push _)⟩ (fun b o e => Heap.get?_push_of_some _ (Heap.get?_push_of_some _ e)) ?first ?last
        case first =>
          have z : ((s.heap.push (noSet w)).push { cls := .type "list_iterator", data := .fields #[.ref l, .int 0 0] }).get? s.heap.objs.size = some (noSet w) := Heap.get?_push_of_some _ hS
          exact ⟨[], #[], 0, _, Tb.fresh z, Had.none ks⟩
        case last =>
          intro s3 L es ep t mv T3 g3 kp
          obtain ⟨h3, gn3, d3, tk3, os3⟩ := s3
          have eg : gn3 = s.gens := mv.gens
          have ed : d3 = s.drawn := mv.drawn
          have eo : os3 = s.os := mv.os
          subst eg; subst ed; subst eo
          show wpAny _ _ _ _ _ _
          refine wpAny_pure ?_
          show wpAny _ _ (ret Value.none) _ _ _
          rw [isz] at g3
          exact wpAny_pure ⟨rfl, h3, tk3, L, es, ep, t, rfl, T3, g3, kp⟩
      · cases r2 with
        | error e => exact hr2
        | ok fl2 =>
          cases fl2 with
          | ret r =>
            obtain ⟨rfl, h3, tk, L, es, ep, t, rfl, T3, g3, kp3⟩ := hr2
            repeat (any_goals (first | assumption | wp_step))
            exact q _ _ _ _ _ _ T3 g3 kp3
          | _ => exact hr2.elim
    | _ => exact hr.elim
end
end GsR
namespace GsR
open PySem PySem.Spec PyProof.Rows L2
open HT (lexLt)

/-! ### the order of tuples of numbers -/
theorem lex_irr : ∀ a : List Int, lexLt a a = false
  | [] => rfl
  | x :: r => by rw [HT.lexLt_cons, if_pos rfl, lex_irr r]
theorem lex_tr : ∀ {a b c : List Int}, lexLt a b = true → lexLt b c = true → lexLt a c = true
  | [], [], _, h, _ => by cases h
  | [], _ :: _, [], _, h => by cases h
  | [], _ :: _, _ :: _, _, _ => rfl
  | _ :: _, [], _, h, _ => by cases h
  | _ :: _, _ :: _, [], _, h => by cases h
  | x :: a, y :: b, z :: c, h1, h2 => by
    rw [HT.lexLt_cons] at h1 h2 ⊢
    by_cases e1 : x = y
    · rw [if_pos e1] at h1
      by_cases e2 : y = z
      · rw [if_pos e2] at h2
        rw [if_pos (e1.trans e2)]
        exact lex_tr h1 h2
      · rw [if_neg e2] at h2
        rw [if_neg (by rw [e1]; exact e2), e1]
        exact h2
    · rw [if_neg e1] at h1
      have l1 := of_decide_eq_true h1
      by_cases e2 : y = z
      · rw [if_neg (by rw [← e2]; exact e1), ← e2]
        exact h1
      · rw [if_neg e2] at h2
        have l2 := of_decide_eq_true h2
        rw [if_neg (by omega)]
        exact decide_eq_true (by omega)
theorem lex_tot : ∀ {a b : List Int}, lexLt a b = false → lexLt b a = false → a = b
  | [], [], _, _ => rfl
  | [], _ :: _, h, _ => by cases h
  | _ :: _, [], _, h => by cases h
  | x :: a, y :: b, h1, h2 => by
    rw [HT.lexLt_cons] at h1 h2
    by_cases e : x = y
    · rw [if_pos e] at h1
      rw [if_pos e.symm] at h2
      rw [e, lex_tot h1 h2]
    · rw [if_neg e] at h1
      rw [if_neg fun z => e z.symm] at h2
      have a1 := of_decide_eq_false h1
      have a2 := of_decide_eq_false h2
      omega
theorem lex_asym {a b : List Int} (h : lexLt a b = true) : lexLt b a = false := by
  cases c : lexLt b a with
  | false => rfl
  | true =>
    have := lex_tr h c
    rw [lex_irr] at this
    cases this
theorem lex_swo {α : Type} (f : α → List Int) : SrtO.Swo fun x y => lexLt (f x) (f y) := by
  refine ⟨fun x y h => lex_asym h, fun x y z h1 h2 => ?_⟩
  cases c : lexLt (f z) (f x) with
  | false => rfl
  | true =>
    cases d : lexLt (f x) (f y) with
    | true =>
      have q := lex_tr c d
      rw [h2] at q
      cases q
    | false =>
      have e := lex_tot d h1
      rw [e] at c
      rw [h2] at c
      cases c

/-! ### the members: a tuple of numbers, or a number and such a tuple -/
inductive Itm where
  | flat (r : List Int)
  | pair (g : Int) (r : List Int)
  deriving DecidableEq
def nums (r : List Int) : List NestedKey := r.map NestedKey.num
def Itm.key : Itm → NestedKey
  | .flat r => .tup (nums r)
  | .pair g r => .tup [.num g, .tup (nums r)]
def Itm.code : Itm → List Int
  | .flat r => r
  | .pair g r => g :: r
theorem nums_inj : ∀ {a b : List Int}, nums a = nums b → a = b
  | [], [], _ => rfl
  | [], _ :: _, h => by cases h
  | _ :: _, [], h => by cases h
  | x :: a, y :: b, h => by
    have h' : NestedKey.num x :: nums a = NestedKey.num y :: nums b := h
    injection h' with h1 h2
    injection h1 with h1
    rw [h1, nums_inj h2]
theorem key_inj : ∀ {x y : Itm}, x.key = y.key → x = y
  | .flat a, .flat b, h => by
    have h' : NestedKey.tup (nums a) = NestedKey.tup (nums b) := h
    injection h' with h'
    rw [nums_inj h']
  | .pair g a, .pair g' b, h => by
    have h' : NestedKey.tup [.num g, .tup (nums a)] = NestedKey.tup [.num g', .tup (nums b)] := h
    injection h' with h'
    injection h' with h1 h2
    injection h1 with h1
    injection h2 with h2 _
    injection h2 with h2
    rw [h1, nums_inj h2]
  | .flat a, .pair g' b, h => by
    have h' : NestedKey.tup (nums a) = NestedKey.tup [.num g', .tup (nums b)] := h
    injection h' with h'
    match a, h' with
    | [], h' => cases h'
    | [x], h' => cases h'
    | x :: y :: _, h' =>
      have h2 : NestedKey.num x :: NestedKey.num y :: _ = _ := h'
      injection h2 with _ h2
      injection h2 with h2 _
      cases h2
  | .pair g a, .flat b, h => by
    have h' : NestedKey.tup [.num g, .tup (nums a)] = NestedKey.tup (nums b) := h
    injection h' with h'
    match b, h' with
    | [], h' => cases h'
    | [x], h' => cases h'
    | x :: y :: _, h' =>
      have h2 : _ = NestedKey.num x :: NestedKey.num y :: _ := h'
      injection h2 with _ h2
      injection h2 with h2 _
      cases h2
theorem nums_num : ∀ r : List Int, numKs (nums r) = true
  | [] => rfl
  | x :: r => by
    show (numK (.num x) && numKs (nums r)) = true
    rw [nums_num r]
    rfl
theorem nums_depth : ∀ r : List Int, NestedKey.depthAll (nums r) = 0
  | [] => rfl
  | x :: r => by
    show max (NestedKey.depth (.num x)) (NestedKey.depthAll (nums r)) = 0
    rw [nums_depth r]
    rfl
theorem key_num (x : Itm) : numK x.key = true := by
  cases x with
  | flat r => show numKs (nums r) = true; exact nums_num r
  | pair g r =>
    show (true && (numKs (nums r) && true)) = true
    rw [nums_num r]
    rfl
theorem key_depth (x : Itm) : x.key.depth ≤ 8 := by
  cases x with
  | flat r =>
    show NestedKey.depthAll (nums r) + 1 ≤ 8
    rw [nums_depth]
    decide
  | pair g r =>
    show (max 0 (max (NestedKey.depthAll (nums r) + 1) 0)) + 1 ≤ 8
    rw [nums_depth]
    decide
/-- the tuple at a in the machine's heap -/
def RawAt (h : Heap) (a : Addr) : Itm → Prop
  | .flat r => ∃ its : Array Value, IsTup h a its ∧ IntsAre its.toList r
  | .pair g r => ∃ (t : Tok) (b : Addr) (its : Array Value), IsTup h a #[.int g t, .ref b] ∧ IsTup h b its ∧ IntsAre its.toList r
theorem nums_all {h : Heap} : ∀ {vs : List Value} {r : List Int}, IntsAre vs r → NestedAll h (nums r) vs
  | _, _, .nil => .nil
  | _, _, .cons n t x => .cons (.int n t) (nums_all x)
theorem RawAt.at {h : Heap} {a : Addr} {x : Itm} (q : RawAt h a x) : At h x.key a := by
  refine ⟨?_, key_depth x, key_num x⟩
  cases x with
  | flat r =>
    obtain ⟨its, ⟨o, ho, hc, n, hd⟩, hi⟩ := q
    exact .tup ho hc hd (nums_all hi)
  | pair g r =>
    obtain ⟨t, b, its, ⟨o, ho, hc, n, hd⟩, ⟨o2, ho2, hc2, n2, hd2⟩, hi⟩ := q
    exact .tup ho hc hd (.cons (.int g t) (.cons (.tup ho2 hc2 hd2 (nums_all hi)) .nil))
theorem IsTup.kept {h h' : Heap} {a : Addr} {its : Array Value} (q : IsTup h a its) (kp : ∀ b o, h.get? b = some o → o.cls = .type "tuple" → h'.get? b = some o) : IsTup h' a its := by
  obtain ⟨o, ho, hc, n, hd⟩ := q
  exact ⟨o, kp a o ho hc, hc, n, hd⟩
theorem RawAt.kept {h h' : Heap} {a : Addr} {x : Itm} (q : RawAt h a x) (kp : ∀ b o, h.get? b = some o → o.cls = .type "tuple" → h'.get? b = some o) : RawAt h' a x := by
  cases x with
  | flat r =>
    obtain ⟨its, h1, h2⟩ := q
    exact ⟨its, IsTup.kept h1 kp, h2⟩
  | pair g r =>
    obtain ⟨t, b, its, h1, h2, h3⟩ := q
    exact ⟨t, b, its, IsTup.kept h1 kp, IsTup.kept h2 kp, h3⟩

/-! ### comparing -/
/-- of one shape, so that they can be compared -/
def Alike (x y : Itm) : Prop := match x, y with
  | .flat a, .flat b => a ≠ [] ∧ b ≠ []
  | .pair _ _, .pair _ _ => True
  | _, _ => False
section
variable {P : Program} {w : World} {A : Around} {E : Value → Shared → Prop} {s : Shared}
theorem lex_walk {b : Bool} {n m : Nat} {Q : Bool → Shared → Prop} : ∀ {xs ys : List Value} {ns ms : List Int} (i : Nat), IntsAre xs ns → IntsAre ys ms → n + ms.length = m + ns.length → Q (lexLt ns ms) s → PySem.W.KatLex P w A b (decide (n < m)) Q (xs.zip ys) i s
  | _, _, _, _, i, .nil, .nil, e, q => by
    have z : decide (n < m) = false := decide_eq_false (by simp at e; omega)
    rw [z]
    exact PySem.W.kat_nil q
  | _, _, _, _, i, .nil, .cons y u hy, e, q => by
    have z : decide (n < m) = true := decide_eq_true (by simp at e; omega)
    rw [z]
    exact PySem.W.kat_nil q
  | _, _, _, _, i, .cons x t hx, .nil, e, q => by
    have z : decide (n < m) = false := decide_eq_false (by simp at e; omega)
    rw [z]
    exact PySem.W.kat_nil q
  | _, _, _, _, i, .cons (ns := ns) x t hx, .cons (ns := ms) y u hy, e, q => by
    rw [List.zip_cons_cons]
    rw [HT.lexLt_cons] at q
    refine PySem.W.kat_cons (SeqAt.EqAt.int_int x t y u P w _ _ ?_)
    refine PySem.W.kat_go (fun z => ?_) (fun z => ?_)
    · have exy : x = y := by simpa using z
      rw [if_pos exy] at q
      exact PySem.W.kat_yes (lex_walk (i + 1) hx hy (by simp only [List.length_cons] at e; omega) q)
    · have exy : ¬ x = y := by simpa using z
      rw [if_neg exy] at q
      exact PySem.W.kat_no (TS.oneLt_ints _ q)
end
end GsR
namespace GsR
open PySem PySem.Spec PyProof.Rows L2
open HT (lexLt)
section
variable {P : Program} {w : World} {A : Around} {E : Value → Shared → Prop} {s : Shared}
theorem raw_lt {a b : Addr} {x y : Itm} (hx : RawAt s.heap a x) (hy : RawAt s.heap b y) (al : Alike x y) (hu : A.units + 8 < cLine) {Q : Bool → Shared → Prop} (q : Q (lexLt x.code y.code) s) : wpAny (model P w) A (keyLt' (tuples' true) (.ref a) (.ref b)) Q E s := by
  cases x with
  | flat r =>
    cases y with
    | pair => exact al.elim
    | flat r' =>
      obtain ⟨its, ⟨o, ho, _, n, hd⟩, hi⟩ := hx
      obtain ⟨its', ⟨o', ho', _, n', hd'⟩, hi'⟩ := hy
      refine PySem.W.kat_lt ho hd ho' hd' (lex_walk 0 hi hi' ?_ q)
      have e1 := hi.length
      have e2 := hi'.length
      rw [Array.length_toList] at e1 e2
      omega
  | pair g r =>
    cases y with
    | flat => exact al.elim
    | pair g' r' =>
      obtain ⟨t, c, its, ⟨o, ho, _, n, hd⟩, hc, hi⟩ := hx
      obtain ⟨t', c', its', ⟨o', ho', _, n', hd'⟩, hc', hi'⟩ := hy
      have q' : Q (if g = g' then lexLt r r' else decide (g < g')) s := q
      refine PySem.W.kat_lt ho hd ho' hd' ?_
      show PySem.W.KatLex P w A true (decide (2 < 2)) Q [(.int g t, .int g' t'), (.ref c, .ref c')] 0 s
      refine PySem.W.kat_cons (SeqAt.EqAt.int_int g t g' t' P w _ _ ?_)
      refine PySem.W.kat_go (fun z => ?_) (fun z => ?_)
      · have eg : g = g' := by simpa using z
        rw [if_pos eg] at q'
        have X : At s.heap (Itm.flat r).key c := RawAt.at (x := .flat r) ⟨its, hc, hi⟩
        have Y : At s.heap (Itm.flat r').key c' := RawAt.at (x := .flat r') ⟨its', hc', hi'⟩
        refine PySem.W.kat_yes (PySem.W.kat_cons ((nestedKind P w).eqBool (x := (Itm.flat r).key) (y := (Itm.flat r').key) hu ⟨X.is, X.dp⟩ ⟨Y.is, Y.dp⟩ ?_))
        refine PySem.W.kat_go (fun z2 => ?_) (fun z2 => ?_)
        · have er : r = r' := by
            have := key_inj (of_decide_eq_true z2)
            injection this
          rw [er, lex_irr] at q'
          exact PySem.W.kat_yes (PySem.W.kat_nil q')
        · exact PySem.W.kat_no (PySem.W.kat_one _ _ (HT.lt_tupInts hc hc' hi hi' (by omega) q'))
      · have eg : ¬ g = g' := by simpa using z
        rw [if_neg eg] at q'
        exact PySem.W.kat_no (TS.oneLt_ints _ q')
/-- the first of each -/
theorem raw_firsts {h : Heap} : ∀ (L : List (Addr × Itm)), (∀ m ∈ L, RawAt h m.1 m.2 ∧ Alike m.2 m.2) → ∃ fs : List Value, PySem.W.KatTups h (L.map fun m => Value.ref m.1) fs ∧ fs.length = L.length ∧ ∀ f ∈ fs, ∃ i t, f = Value.int i t
  | [], _ => ⟨[], PySem.W.KatTups.nil, rfl, fun _ z => by simp at z⟩
  | (a, x) :: L, hL => by
    obtain ⟨fs, h1, h2, h3⟩ := raw_firsts L fun m hm => hL m (List.mem_cons_of_mem _ hm)
    obtain ⟨hx, al⟩ := hL (a, x) List.mem_cons_self
    have one : ∃ (i : Int) (t : Tok), PySem.W.KatTups h (Value.ref a :: L.map fun m => Value.ref m.1) (Value.int i t :: fs) := by
      cases x with
      | flat r =>
        obtain ⟨its, ⟨o, ho, hc, n, hd⟩, hi⟩ := hx
        have ne : r ≠ [] := al.1
        obtain ⟨l⟩ := its
        have hi2 : IntsAre l r := hi
        cases hi2 with
        | nil => exact absurd rfl ne
        | cons i t _ => exact ⟨i, t, PySem.W.KatTups.cons ho hc hd rfl h1⟩
      | pair g r =>
        obtain ⟨t, c, its, ⟨o, ho, hc, n, hd⟩, _⟩ := hx
        exact ⟨g, t, PySem.W.KatTups.cons ho hc hd rfl h1⟩
    obtain ⟨i, t, k⟩ := one
    refine ⟨.int i t :: fs, k, by rw [List.length_cons, List.length_cons, h2], fun f hf => ?_⟩
    rcases List.mem_cons.mp hf with rfl | hf
    · exact ⟨i, t, rfl⟩
    · exact h3 f hf
/-- the item at an address of the list -/
def itmAt (L : List (Addr × Itm)) (v : Value) : Itm := match v with
  | .ref a => ((L.find? fun m => m.1 == a).map (·.2)).getD (.flat [])
  | _ => .flat []
theorem itmAt_of {h : Heap} {L : List (Addr × Itm)} (hL : ∀ m ∈ L, RawAt h m.1 m.2) {m : Addr × Itm} (hm : m ∈ L) : itmAt L (.ref m.1) = m.2 := by
  show ((L.find? fun q => q.1 == m.1).map (·.2)).getD (.flat []) = m.2
  cases e : L.find? fun q => q.1 == m.1 with
  | none =>
    rw [List.find?_eq_none] at e
    exact absurd (beq_self_eq_true _) (e m hm)
  | some q =>
    have e1 := List.find?_some e
    have e2 : q.1 = m.1 := beq_iff_eq.mp e1
    have a1 := (hL q (List.mem_of_find?_eq_some e)).at
    rw [e2] at a1
    exact key_inj (a1.inj (hL m hm).at)
theorem raw_sortable {a : Addr} {L : List (Addr × Itm)} (hL : ∀ m ∈ L, RawAt s.heap m.1 m.2) (al : ∀ m ∈ L, ∀ q ∈ L, Alike m.2 q.2) (hu : A.units + 8 < cLine) (ha : ∀ o, s.heap.get? a = some o → o.cls ≠ .type "tuple") {vs : List Value} (hv : ∀ v ∈ vs, ∃ m ∈ L, v = .ref m.1) (hvs : ∃ M : List (Addr × Itm), vs = (M.map fun m => Value.ref m.1) ∧ 0 < M.length ∧ ∀ m ∈ M, m ∈ L) :
    SrtO.SortableO P w A s a vs fun v u => lexLt (itmAt L v).code (itmAt L u).code := by
  intro h' keep
  have hL' : ∀ m ∈ L, RawAt h' m.1 m.2 := fun m hm => (hL m hm).kept fun b o e c => keep b o (fun z => by subst z; exact ha o e c) e
  obtain ⟨M, rfl, hM0, hM⟩ := hvs
  obtain ⟨fs, h1, h2, h3⟩ := raw_firsts (h := h') M fun m hm => ⟨hL' m (hM m hm), al m (hM m hm) m (hM m hm)⟩
  refine ⟨tuples' true, fun Q E hq => ?_, fun p q hp hq => ?_⟩
  · refine PySem.W.kat_kind (T := .type "int") h1 (by omega) (fun f hf => ?_) (by rfl) ?_
    · obtain ⟨i, t, rfl⟩ := h3 f hf
      exact PySem.W.Looks.now
    · have e : (Value.type "int" != Value.type "tuple") = true := by decide +kernel
      rw [e]
      exact hq
  · obtain ⟨m, hm, e1⟩ := hv _ hp
    obtain ⟨m', hm', e2⟩ := hv _ hq
    show wpAny (model P w) A (keyLt' (tuples' true) p.1 q.1) (fun r s' => s' = { s with heap := h' } ∧ r = lexLt (itmAt L p.1).code (itmAt L q.1).code) (fun _ _ => False) { s with heap := h' }
    rw [e1, e2, itmAt_of hL hm, itmAt_of hL hm']
    exact raw_lt (s := { s with heap := h' }) (hL' m hm) (hL' m' hm') (al m hm m' hm') hu ⟨rfl, rfl⟩
/-- members in another order, by their addresses -/
theorem back_to {L : List (Addr × Itm)} : ∀ {vs : List Value}, (∀ v ∈ vs, ∃ m ∈ L, v = Value.ref m.1) → ∃ M : List (Addr × Itm), vs = (M.map fun m => Value.ref m.1) ∧ ∀ m ∈ M, m ∈ L
  | [], _ => ⟨[], rfl, fun m h => (by cases h)⟩
  | v :: vs, hv => by
    obtain ⟨m, hm, e⟩ := hv v List.mem_cons_self
    obtain ⟨M, e1, h1⟩ := back_to fun u hu => hv u (List.mem_cons_of_mem _ hu)
    refine ⟨m :: M, by rw [e, e1]; rfl, fun q hq => ?_⟩
    rcases List.mem_cons.mp hq with rfl | hq
    · exact hm
    · exact h1 q hq
theorem nodup_map_of {α β : Type} {f : α → β} {l : List α} (h : (l.map f).Nodup) : l.Nodup := List.Pairwise.of_map f (fun _ _ hne e => hne (congrArg f e)) h
theorem refs_perm {h : Heap} {L M : List (Addr × Itm)} (hL : ∀ m ∈ L, RawAt h m.1 m.2) (nd : (L.map (·.2)).Nodup) (hM : ∀ m ∈ M, m ∈ L) (pm : (M.map fun m => Value.ref m.1).Perm (L.map fun m => Value.ref m.1)) : M.Perm L := by
  have one : ∀ m ∈ L, ∀ q ∈ L, m.1 = q.1 → m = q := fun m hm q hq e => by
    have a1 := (hL m hm).at
    rw [e] at a1
    exact Prod.ext e (key_inj (a1.inj (hL q hq).at))
  have nL : L.Nodup := nodup_map_of nd
  have nr : (L.map fun m => Value.ref m.1).Nodup := List.pairwise_map.mpr (List.Pairwise.imp_of_mem (fun {m q} hm hq hne e => by
    injection e with e
    exact hne (one m hm q hq e)) nL)
  have nM : M.Nodup := nodup_map_of (pm.nodup_iff.mpr nr)
  refine (List.perm_ext_iff_of_nodup nM nL).mpr fun q => ⟨hM q, fun hq => ?_⟩
  have z : Value.ref q.1 ∈ M.map (fun m => Value.ref m.1) := pm.mem_iff.mpr (List.mem_map.mpr ⟨q, hq, rfl⟩)
  obtain ⟨r, hr, e⟩ := List.mem_map.mp z
  injection e with e
  rw [← one r (hM r hr) q hq e]
  exact hr
end
end GsR

namespace GsR
open PySem PySem.Spec PyProof.Rows L2
open HT (lexLt)
/-! ### as rules of the layer -/
abbrev ks (L : List (Addr × Itm)) : List Mem := L.map fun m => (m.1, m.2.key)
/-- the set at a, without its tuples -/
structure Set0 (w : World) (h : Heap) (a : Addr) (L : List (Addr × Itm)) : Prop where
  ex : ∃ (es : Array (Int × Value)) (ep : Nat) (t : SetTable), (∃ o, h.get? a = some o ∧ o.ExactSet ∧ o.data = .set es ep t) ∧ es.toList = ents w (ks L) ∧ TabOk t ((ks L).map fun m => m.2.hash w) ∧ (L.map (·.2)).Nodup ∧ t.plain = true ∧ (w.params.followText "set-order" = true ∨ t.led = true) ∧ L.length * 5 < t.mask * 3 ∧ L.length < 64
def SetO (w : World) (a : Addr) (L : List (Addr × Itm)) : HO := .ext fun h => Set0 w h a L
theorem nodup_keys {L : List (Addr × Itm)} : ((ks L).map (·.2)).Nodup ↔ (L.map (·.2)).Nodup := by
  have e : (ks L).map (·.2) = (L.map (·.2)).map Itm.key := by rw [List.map_map, List.map_map]; rfl
  rw [e]
  constructor
  · exact nodup_map_of
  · exact fun h => List.pairwise_map.mpr (List.Pairwise.imp (fun hne e => hne (key_inj e)) h)
theorem setO_new {P : Program} {w : World} {H : Hp} {h : Heap} {a : Addr} {L : List (Addr × Itm)} (R : Set0 w h a L) : ObjOk P w H h a (SetO w a L) := by
  have ⟨es, ep, t, ⟨o, ho, r⟩, q⟩ := R.ex
  refine ⟨R, ⟨o, ho⟩, fun h1 h2 p k => ?_⟩
  have ⟨es', ep', t', ⟨o', ho', r'⟩, q'⟩ := Set0.ex p
  exact ⟨es', ep', t', ⟨o', k o' ho', r'⟩, q'⟩
/-- the tuple at a, as the layer has it -/
def ItAt (K : PySem.W.Frag) (H : Hp) (a : Addr) : Itm → Prop
  | .flat r => SqT K H a (r.map V.int)
  | .pair g r => ∃ b, SqT K H a [.int g, .ref b] ∧ SqT K H b (r.map V.int)
theorem ints_vals : ∀ {r : List Int} {us : List Value}, Vals (r.map V.int) us → IntsAre us r
  | [], _, .nil => .nil
  | n :: r, _, .cons h t => by
    obtain ⟨tk, rfl⟩ := h
    exact .cons n tk (ints_vals t)
section
variable {X : Cx} {pins : List (Addr × Obj)} {σ : L2.St} {H : Hp} {s : Shared}
theorem itAt_raw (I : Inv X pins σ H s) {a : Addr} {x : Itm} (h : ItAt X.K H a x) : RawAt s.heap a x := by
  cases x with
  | flat r =>
    obtain ⟨its, hv, ht, _⟩ := I.tuple h
    exact ⟨its.toArray, ht, ints_vals hv⟩
  | pair g r =>
    obtain ⟨b, h1, h2⟩ := h
    obtain ⟨its, hv, ht, _⟩ := I.tuple h1
    obtain ⟨its2, hv2, ht2, _⟩ := I.tuple h2
    cases hv with
    | cons r1 t1 =>
      cases t1 with
      | cons r2 t2 =>
        cases t2
        obtain ⟨t, rfl⟩ := r1
        cases r2
        exact ⟨t, b, its2.toArray, ht, ht2, ints_vals hv2⟩
theorem refs_vals : ∀ {L : List (Addr × Itm)} {us : List Value}, Vals (L.map fun p => V.ref p.1) us → us = L.map fun p => Value.ref p.1
  | [], _, .nil => rfl
  | p :: L, _, .cons r t => by
    cases r
    rw [refs_vals t]
    rfl
theorem vals_refs : ∀ (L : List (Addr × Itm)), Vals (L.map fun p => V.ref p.1) (L.map fun p => Value.ref p.1)
  | [] => .nil
  | p :: L => .cons rfl (vals_refs L)
/-- set(xs): the members are among D, which has at most 62 -/
def rSet (K : PySem.W.Frag) (w : World) : List V → Hp → VK → Prop := fun xs H Q => ∃ (l : Addr) (L : List (Addr × Itm)) (D : List Itm), xs = [V.ref l] ∧ SqL K H l (L.map fun p => V.ref p.1) ∧ (∀ m ∈ L, ItAt K H m.1 m.2) ∧ (∀ m ∈ L, m.2 ∈ D) ∧ D.length ≤ 62 ∧
  ∀ a M, H a = none → (∀ m ∈ M, m ∈ L) → (∀ m ∈ L, m.2 ∈ M.map (·.2)) → (M.map (·.2)).Nodup → Q (.ref a) (upd H a (SetO w a M))
theorem cr_set (hc : X.calm = true) (hu : X.A.units + 64 < cLine) : CallR X (.type "set") (rSet X.K X.w) := by
  intro pins s σ H xs us Q I r h
  obtain ⟨l, L, D, rfl, hl, hk, hD, hD2, q⟩ := h
  rw [Vals.ref1 r]
  obtain ⟨its, rv, pl, hz⟩ := I.list hl
  have hn : H s.heap.objs.size = none := I.hok.fresh (Nat.le_refl _)
  refine set_of (P := X.prog) (w := X.w) (ks L) (I.ok.hd hc) pl.isList (by rw [List.map_map]; exact refs_vals rv) (fun m hm => ?_) (D := D.map Itm.key) (fun m hm => ?_) (by rw [List.length_map]; exact hD2) (by omega) fun h' tk M es ep t T g k => ?_
  · obtain ⟨p, hp, rfl⟩ := List.mem_map.mp hm
    exact (itAt_raw I (hk p hp)).at
  · obtain ⟨p, hp, rfl⟩ := List.mem_map.mp hm
    exact List.mem_map.mpr ⟨p.2, hD p hp, rfl⟩
  · -- the members are of the list
    have sub : ∀ m ∈ M, m ∈ ks L := fun m hm => List.mem_of_mem_take (g.sub m hm)
    have lift : ∀ M : List Mem, (∀ m ∈ M, m ∈ ks L) → ∃ N : List (Addr × Itm), M = ks N ∧ ∀ m ∈ N, m ∈ L := by
      intro M
      induction M with
      | nil => exact fun _ => ⟨[], rfl, fun m h => (by cases h)⟩
      | cons m M ih =>
        intro hs
        obtain ⟨N, e, hN⟩ := ih fun q hq => hs q (List.mem_cons_of_mem _ hq)
        obtain ⟨p, hp, e2⟩ := List.mem_map.mp (hs m List.mem_cons_self)
        refine ⟨p :: N, by rw [e, ← e2]; rfl, fun q hq => ?_⟩
        rcases List.mem_cons.mp hq with rfl | hq
        · exact hp
        · exact hN q hq
    obtain ⟨N, rfl, hN⟩ := lift M sub
    have nd := nodup_keys.mp T.once
    refine ⟨.ref s.heap.objs.size, upd H s.heap.objs.size (SetO X.w s.heap.objs.size N), I.laid (t' := tk) k (Nat.le_refl _) (setO_new ⟨es, ep, t, T.obj, T.ent, T.tok, nd, T.pla, T.led, by have := T.room; rw [List.length_map] at this; exact this, by have := T.few; rw [List.length_map] at this; exact this⟩), rfl, q _ N hn hN (fun m hm => ?_) nd⟩
    have z := g.all (m.1, m.2.key) (by rw [List.take_length]; exact List.mem_map.mpr ⟨m, hm, rfl⟩)
    obtain ⟨u, hu1, hu2⟩ := List.mem_map.mp z
    obtain ⟨p, hp, rfl⟩ := List.mem_map.mp hu1
    exact List.mem_map.mpr ⟨p, hp, key_inj hu2⟩
/-- sorted(a set of such): a new list of all of them, in order -/
def rSorted (K : PySem.W.Frag) (w : World) : List V → Hp → VK → Prop := fun vs H Q => ∃ (a : Addr) (L : List (Addr × Itm)), vs = [V.ref a] ∧ H a = some (SetO w a L) ∧ (∀ m ∈ L, ItAt K H m.1 m.2) ∧ (∀ m ∈ L, ∀ q ∈ L, Alike m.2 q.2) ∧
  ∀ (M : List (Addr × Itm)) (p : Addr), M.Perm L → M.Pairwise (fun (q r : Addr × Itm) => HT.lexLt q.2.code r.2.code = true) → H p = none → Q (.ref p) (upd H p (.lst (M.map fun q => V.ref q.1)))
theorem code_inj {x y : Itm} (al : Alike x y) (h : x.code = y.code) : x = y := by
  cases x <;> cases y
  · exact congrArg Itm.flat h
  · exact al.elim
  · exact al.elim
  · injection h with h1 h2
    rw [h1, h2]
theorem cr_sorted (hc : X.calm = true) (hu : X.A.units + 64 < cLine) : CallR X (.builtin "sorted") (rSorted X.K X.w) := by
  intro pins s σ H vs us Q I r h
  obtain ⟨a, L, rfl, ha, hk, al, q⟩ := h
  have R0 : Set0 X.w s.heap a L := (I.hok a _ ha).1
  obtain ⟨es, ep, t, ⟨o, ho, hex, hd⟩, hent, htok, nd, hpl, hled, hroom, hfew⟩ := R0.ex
  have raw : ∀ m ∈ L, RawAt s.heap m.1 m.2 := fun m hm => itAt_raw I (hk m hm)
  rw [Vals.ref1 r]
  have hsz : es.size = L.length := by rw [size_of_ents hent, List.length_map]
  have hps : t.place.size = L.length := by have := htok.sz; rw [List.length_map, List.length_map] at this; exact this
  refine Calls.call_function_entry kind_sorted plain_sorted entry_sorted (args_sorted1 _) ?_
  unfold Builtin.«sorted»
  refine wpAny_bind (m := checkCount "sorted" 1 1 _) (wpAny_pure ?_)
  refine wpAny_bind (collect_set (A := X.A.in1) (I.ok.hd hc) ⟨o, ho, hex.1, hd⟩ (fits_of (by omega) htok.dm (by omega)) (by unfold scanBound; omega) htok.ris hled fun s1 vs k1 hz g1 o1 pm => ?_)
  have hes : es.toList.map (·.2) = L.map fun m => Value.ref m.1 := by
    rw [hent, ents, List.map_map, List.map_map]
    rfl
  rw [hes] at pm
  have hvl : vs.length < 64 := by rw [pm.length_eq, List.length_map]; exact hfew
  have hvm : ∀ v ∈ vs, ∃ m ∈ L, v = Value.ref m.1 := fun v hv => by
    obtain ⟨m, hm, e⟩ := List.mem_map.mp (pm.mem_iff.mp hv)
    exact ⟨m, hm, e.symm⟩
  obtain ⟨V1, eV, hV⟩ := back_to hvm
  refine wpAny_bind (wpAny_newList ?_ (by rw [sizeLine_eq]; omega))
  have hoL : (s1.heap.push (seqObj "list" vs.toArray 0)).get? s1.heap.objs.size = some (seqObj "list" vs.toArray 0) := Heap.get?_push_size _ rfl
  have raw1 : ∀ m ∈ L, RawAt (s1.heap.push (seqObj "list" vs.toArray 0)) m.1 m.2 := fun m hm => (raw m hm).kept fun b u e _ => Heap.get?_push_of_some _ (k1 b u e)
  refine wpAny_bind (wpAny_holding (wpAny_call_entry slot_list_sort ⟨_, hoL, rfl⟩ entry_list_sort (SrtO.list_sort_ord (s := { s1 with heap := s1.heap.push (seqObj "list" vs.toArray 0) }) (lex_swo fun v => (itmAt L v).code) hoL (by rw [sizeLine_eq]; omega) (fun h2 => ?_) fun out hs hb => ⟨_, rfl, ?_⟩) (args_list_sort _)))
  · refine raw_sortable (s := { s1 with heap := s1.heap.push (seqObj "list" vs.toArray 0) }) raw1 al (by show X.A.units + 2 + 8 < cLine; omega) (fun ob e => ?_) hvm ⟨V1, eV, ?_, hV⟩
    · have e' : some ob = some (seqObj "list" vs.toArray 0) := e.symm.trans hoL
      cases e'
      intro c
      exact absurd (Value.type.inj c) (by decide)
    · have := congrArg List.length eV
      rw [List.length_map] at this
      omega
  · obtain ⟨c, hcx⟩ := sortedHeap_at (vs := vs) (out := out.toArray) hoL
    obtain ⟨M, eM, hM⟩ := back_to (L := L) (vs := out) fun v hv => hvm v (hb.perm.mem_iff.mp hv)
    have pM : M.Perm L := refs_perm raw nd hM (by rw [← eM]; exact hb.perm.trans pm)
    have srt : M.Pairwise (fun (q r : Addr × Itm) => HT.lexLt q.2.code r.2.code = true) := by
      have ndM : (M.map (·.2)).Nodup := (pM.map (·.2)).nodup_iff.mpr nd
      have s1' : M.Pairwise (fun q r => lexLt (itmAt L (.ref r.1)).code (itmAt L (.ref q.1)).code = false) := by
        rw [eM] at hs
        exact List.pairwise_map.mp hs
      have n1 : M.Pairwise (fun q r => q.2 ≠ r.2) := List.pairwise_map.mp ndM
      refine List.Pairwise.imp_of_mem (fun {q r} hq hr z => ?_) (s1'.and n1)
      obtain ⟨z1, z2⟩ := z
      rw [itmAt_of raw (hM q hq), itmAt_of raw (hM r hr)] at z1
      cases d : lexLt q.2.code r.2.code with
      | true => rfl
      | false => exact absurd (code_inj (al q (hM q hq) r (hM r hr)) (lex_tot d z1)) z2
    have hp0 : s.heap.objs.size ≤ s1.heap.objs.size := hz
    have hn : H s1.heap.objs.size = none := I.hok.fresh hp0
    have kk : ∀ b u, s.heap.get? b = some u → (sortedHeap (s1.heap.push (seqObj "list" vs.toArray 0)) s1.heap.objs.size vs out.toArray).get? b = some u := fun b u e => by
      have e1 := k1 b u e
      have hlt := Heap.lt_size e1
      rw [sortedHeap_old (Nat.ne_of_lt hlt) (by rw [size_push']; exact Nat.lt_succ_of_lt hlt)]
      exact Heap.get?_push_of_some _ e1
    have hlen : (M.map fun m => V.ref m.1).length ≤ sizeLine := by rw [List.length_map, pM.length_eq, sizeLine_eq]; omega
    have hv : Vals (M.map fun m => V.ref m.1) out := by rw [eM]; exact vals_refs M
    obtain ⟨h2, gn2, d2, tk2, os2⟩ := s1
    have eg : gn2 = s.gens := g1
    have eo : os2 = s.os := o1
    subst eg; subst eo
    have J := I.call (ch := []) (g' := s.gens) (t' := tk2) (d' := d2) (Un.laid kk hp0 hn) (I.hok.laid (o := .lst (M.map fun m => V.ref m.1)) kk hp0 ⟨hlen, out, c, hv, hcx⟩) I.bare (fun _ z => nomatch z)
    exact wpAny_pure ⟨_, rfl, ⟨.ref h2.objs.size, _, J, rfl, q M _ pM srt hn⟩⟩
end
end GsR
/-! min of tuples of numbers: of a list of them, of two. -/
namespace GsR
open PySem PySem.Spec PyProof.Rows L2
section
variable {P : Program} {w : World} {A : Around} {E : Value → Shared → Prop} {s : Shared}
/-- two items compare as bt says wherever h0's objects stand -/
def LtIn (P : Program) (w : World) (A : Around) (h0 : Heap) (Pv : Nat → Value → Prop) (bt : Nat → Nat → Bool) : Prop :=
  ∀ i j vi vj (s : Shared) (Q : Value → Shared → Prop) (E : Value → Shared → Prop), Pv i vi → Pv j vj → (∀ b o, h0.get? b = some o → s.heap.get? b = some o) → Q (.bool (bt i j)) s → wpAny (model P w) A (richCompare .Lt vi vj) Q E s
variable {R : Result → Shared → Prop} {I : Addr} {fp wr : List Addr} {n : Nat} {Pv : Nat → Value → Prop} {St : Nat → Heap → Prop}
theorem min_turns (W : Walks P w A.in1 I fp wr n Pv St) {bt : Nat → Nat → Bool} {h0 : Heap} (cmp : LtIn P w A.in1 h0 Pv bt) (S : Addr) (out : S ∉ fp) (nS : h0.get? S = none) (nw : ∀ b ∈ wr, h0.get? b = none) :
    ∀ (k j : Nat) (s : Shared) (vb : Value) (c : Nat), n - (j + 1) = k → j + 1 ≤ n → St (j + 1) s.heap → Pv (argBest bt j) vb → (∀ b o, h0.get? b = some o → s.heap.get? b = some o) → s.heap.get? S = some { cls := .type "list", dict := none, data := .seq #[vb, vb] c, slots := #[] } →
    (∀ v h' tk, Pv (argBest bt (n - 1)) v → (∀ b o, b ∉ wr → b ≠ S → s.heap.get? b = some o → h'.get? b = some o) → R (.ok (.ret v)) { s with heap := h', toks := tk }) → codeAny (model P w) A (.builtin "min.loop" ⟨[.ref I, .none, .ref S], []⟩) R s := by
  have outw : S ∉ wr := fun z => out (W.sub _ z)
  have nm : (toString "min" ++ toString ".loop" : String) = "min.loop" := by decide
  have over : ∀ {h h' : Heap}, (∀ b o, b ∉ wr → h.get? b = some o → h'.get? b = some o) → (∀ b o, h0.get? b = some o → h.get? b = some o) → ∀ b o, h0.get? b = some o → h'.get? b = some o := fun k1 k0 b o e => k1 b o (fun hb => by rw [nw b hb] at e; cases e) (k0 b o e)
  intro k
  induction k with
  | zero =>
    intro j s vb c hk hj hst hPb kp hS hR
    have last : j + 1 = n := by omega
    refine codeAny_builtin F.entry_min_loop ?_
    rw [Around.under_plainId F.plain_min_loop _]
    show wpAny _ A.in1 (seqItems? (.ref S) >>= _) _ _ s
    refine wpAny_bind (wpAny_seqItems hS rfl ?_)
    show wpAny _ A.in1 (tryCatch (pyNext (.ref I)) _ >>= _) _ _ s
    refine wpAny_bind (wpAny_tryCatch (W.done s _ _ (last ▸ hst) fun h1 tk k1 => ?_))
    have hS1 := k1 S _ outw hS
    show wpAny _ A.in1 (updateSeq S (fun _ => #[]) >>= _) _ _ _
    refine wpAny_bind ?_
    refine wpAny_updateSeq hS1 rfl (wpAny_bind (wpAny_letGo (wpAny_pure ?_)))
    exact hR vb _ tk (by rw [← last]; exact hPb) fun b o hbw hbS e => (Heap.get?_update_other _ _ (Ne.symm hbS)).trans (k1 b o hbw e)
  | succ k ih =>
    intro j s vb c hk hj hst hPb kp hS hR
    have hlt : j + 1 < n := by omega
    refine codeAny_builtin F.entry_min_loop ?_
    rw [Around.under_plainId F.plain_min_loop _]
    show wpAny _ A.in1 (seqItems? (.ref S) >>= _) _ _ s
    refine wpAny_bind (wpAny_seqItems hS rfl ?_)
    show wpAny _ A.in1 (tryCatch (pyNext (.ref I)) _ >>= _) _ _ s
    refine wpAny_bind (wpAny_tryCatch (W.item (j + 1) s _ _ hlt hst fun v h1 tk hP hst1 k1 => ?_))
    have hS1 := k1 S _ outw hS
    have kp1 := over k1 kp
    show wpAny _ A.in1 (tryCatch (holding [v, v] (richCompare .Lt v vb >>= _)) _ >>= _) _ _ _
    refine wpAny_bind (wpAny_tryCatch (wpAny_holding (wpAny_bind (cmp (j + 1) (argBest bt j) v vb _ _ _ hP hPb kp1 ?_))))
    refine wpAny_bind (wpAny_holding (wpAny_truthy_bool ?_))
    refine wpAny_bind (wpAny_letGo (wpAny_pure ?_))
    cases hb : bt (j + 1) (argBest bt j) with
    | true =>
      simp only [if_true]
      refine wpAny_bind ?_
      refine wpAny_updateSeq hS1 rfl (wpAny_bind (wpAny_letGo ?_))
      rw [nm]
      refine wpAny_pure ⟨plainId_quiet F.plain_min_loop _, ih (j + 1) _ v _ (by omega) hlt (W.frame _ _ _ hst1 fun b hbf o e => ?_) (by simp only [argBest, hb, if_true]; exact hP) (fun b o e => ?_) (Heap.get?_update_self _ hS1 rfl) fun v2 h2 tk2 hP2 k2 => ?_⟩
      · exact (Heap.get?_update_other _ _ (fun z : S = b => out (by rw [z]; exact hbf))).trans e
      · exact (Heap.get?_update_other _ _ (fun z : S = b => by rw [← z, nS] at e; cases e)).trans (kp1 b o e)
      · exact hR v2 h2 tk2 hP2 fun b o hbw hbS e => k2 b o hbw hbS ((Heap.get?_update_other _ _ (Ne.symm hbS)).trans (k1 b o hbw e))
    | false =>
      simp only [Bool.false_eq_true, if_false]
      refine wpAny_bind (wpAny_letGo ?_)
      rw [nm]
      refine wpAny_pure ⟨plainId_quiet F.plain_min_loop _, ih (j + 1) _ vb c (by omega) hlt hst1 (by simp only [argBest, hb, Bool.false_eq_true, if_false]; exact hPb) kp1 hS1 fun v2 h2 tk2 hP2 k2 => ?_⟩
      exact hR v2 h2 tk2 hP2 fun b o hbw hbS e => k2 b o hbw hbS (k1 b o hbw e)
theorem min_first (W : Walks P w A.in1 I fp wr n Pv St) {bt : Nat → Nat → Bool} {h0 : Heap} (cmp : LtIn P w A.in1 h0 Pv bt) (S : Addr) (out : S ∉ fp) (nS : h0.get? S = none) (nw : ∀ b ∈ wr, h0.get? b = none) (hn : 0 < n) {s : Shared} {c : Nat} (hst : St 0 s.heap) (kp : ∀ b o, h0.get? b = some o → s.heap.get? b = some o)
    (hS : s.heap.get? S = some { cls := .type "list", dict := none, data := .seq #[] c, slots := #[] }) (hR : ∀ v h' tk, Pv (argBest bt (n - 1)) v → (∀ b o, b ∉ wr → b ≠ S → s.heap.get? b = some o → h'.get? b = some o) → R (.ok (.ret v)) { s with heap := h', toks := tk }) :
    codeAny (model P w) A (.builtin "min.loop" ⟨[.ref I, .none, .ref S], []⟩) R s := by
  have outw : S ∉ wr := fun z => out (W.sub _ z)
  have nm : (toString "min" ++ toString ".loop" : String) = "min.loop" := by decide
  refine codeAny_builtin F.entry_min_loop ?_
  rw [Around.under_plainId F.plain_min_loop _]
  show wpAny _ A.in1 (seqItems? (.ref S) >>= _) _ _ s
  refine wpAny_bind (wpAny_seqItems hS rfl ?_)
  show wpAny _ A.in1 (tryCatch (pyNext (.ref I)) _ >>= _) _ _ s
  refine wpAny_bind (wpAny_tryCatch (W.item 0 s _ _ hn hst fun v h1 tk hP hst1 k1 => ?_))
  have hS1 := k1 S _ outw hS
  show wpAny _ A.in1 (updateSeq S (fun _ => #[v, v]) >>= _) _ _ _
  refine wpAny_bind ?_
  refine wpAny_updateSeq hS1 rfl ?_
  rw [nm]
  refine wpAny_pure ⟨plainId_quiet F.plain_min_loop _, min_turns W cmp S out nS nw _ 0 _ v _ rfl hn (W.frame _ _ _ hst1 fun b hbf o e => ?_) hP (fun b o e => ?_) (Heap.get?_update_self _ hS1 rfl) fun v2 h2 tk2 hP2 k2 => ?_⟩
  · exact (Heap.get?_update_other _ _ (fun z : S = b => out (by rw [z]; exact hbf))).trans e
  · exact (Heap.get?_update_other _ _ (fun z : S = b => by rw [← z, nS] at e; cases e)).trans (k1 b o (fun hb => by rw [nw b hb] at e; cases e) (kp b o e))
  · exact hR v2 h2 tk2 hP2 fun b o hbw hbS e => k2 b o hbw hbS ((Heap.get?_update_other _ _ (Ne.symm hbS)).trans (k1 b o hbw e))
/-- min(x), x walked: h0 is the heap ahead -/
theorem min_walk {x : Value} {Q : Value → Shared → Prop}
    (h : wpAny (model P w) A.in1 (pyIter x) (fun it s2 => ∃ I fp wr n Pv St bt, it = .ref I ∧ Walks P w A.in1 I fp wr n Pv St ∧ St 0 s2.heap ∧ (∀ b ∈ fp, b < s2.heap.objs.size) ∧ 0 < n ∧ LtIn P w A.in1 s.heap Pv bt ∧ (∀ b o, s.heap.get? b = some o → s2.heap.get? b = some o) ∧ (∀ b ∈ wr, s.heap.get? b = none) ∧
      s.heap.get? s2.heap.objs.size = none ∧ ∀ v h' tk, Pv (argBest bt (n - 1)) v → (∀ b o, b ∉ wr → s2.heap.get? b = some o → h'.get? b = some o) → Q v { s2 with heap := h', toks := tk }) E s) : wpAny (model P w) A (call (.builtin "min") [x]) Q E s := by
  have nm : (toString "min" ++ toString ".loop" : String) = "min.loop" := by decide
  refine call_function_tree F.kind_min F.plain_min F.entry_min (F.args_min1 _) ?_
  show wpAny _ A.in1 (Builtin.Builtins.bindParams "min" ["key", "default"] 0 ⟨[], []⟩ >>= _) _ _ s
  refine wpAny_bind (wpAny_of_eq (show Builtin.Builtins.bindParams "min" ["key", "default"] 0 ⟨[], []⟩ = pure [none, none] from rfl) ?_)
  refine wpAny_bind (wpAny_pure ?_)
  refine wpAny_bind (wpAny_mono h (fun it s2 q2 => ?_) fun _ _ e => e)
  obtain ⟨I, fp, wr, n, Pv, St, bt, rfl, W, hst, hfp, hn, cmp, kp, nw, nS, hQ⟩ := q2
  refine wpAny_bind (wpAny_newObj_type ?_)
  rw [nm]
  refine wpAny_pure ⟨plainId_quiet F.plain_min_loop _, min_first W cmp s2.heap.objs.size (fun hm => Nat.lt_irrefl _ (hfp _ hm)) nS nw hn (W.frame _ _ _ hst fun b _ o e => Heap.get?_push_of_some _ e) (fun b o e => Heap.get?_push_of_some _ (kp b o e)) (Heap.get?_push_size _ rfl) fun v h1 tk hP k1 => ?_⟩
  exact hQ v h1 tk hP fun b o hbw e => k1 b o hbw (Nat.ne_of_lt (Heap.lt_size e)) (Heap.get?_push_of_some _ e)
/-- min(a, b) -/
theorem min_pair {a b : Value} {Q : Value → Shared → Prop} (hh : A.handled = none) {bt : Nat → Nat → Bool} (cmp : LtIn P w A.in1 s.heap (fun i v => (#[a, b] : Array Value)[i]? = some v) bt)
    (h : ∀ h' tk, (∀ c o, s.heap.get? c = some o → h'.get? c = some o) → Q (if bt 1 0 = true then b else a) { s with heap := h', toks := tk }) : wpAny (model P w) A (call (.builtin "min") [a, b]) Q E s := by
  have nm : (toString "min" ++ toString ".loop" : String) = "min.loop" := by decide
  refine call_function_tree F.kind_min F.plain_min F.entry_min (F.args_min2 _ _) ?_
  show wpAny _ A.in1 (Builtin.Builtins.bindParams "min" ["key", "default"] 0 ⟨[], []⟩ >>= _) _ _ s
  refine wpAny_bind (wpAny_of_eq (show Builtin.Builtins.bindParams "min" ["key", "default"] 0 ⟨[], []⟩ = pure [none, none] from rfl) ?_)
  show wpAny _ A.in1 (newTuple [a, b] >>= _) _ _ s
  refine wpAny_bind (wpAny_newObj_type ?_)
  have void : ∀ c, s.heap.objs.size ≤ c → s.heap.get? c = none := fun c hc => by
    cases z : s.heap.get? c with
    | none => rfl
    | some o => exact absurd (Nat.lt_of_lt_of_le (Heap.lt_size z) hc) (Nat.lt_irrefl _)
  have ht : (s.heap.push { cls := .type "tuple", data := .seq #[a, b] }).IsTuple s.heap.objs.size #[a, b] := ⟨_, Heap.get?_push_size _ rfl, rfl, _, rfl⟩
  refine wpAny_bind (wpAny_pyIter_tuple ht ?_)
  refine wpAny_bind (wpAny_newObj_type ?_)
  rw [nm]
  have ne : s.heap.objs.size ≠ (s.heap.push { cls := .type "tuple", data := .seq #[a, b] }).objs.size := by rw [Heap.size_push]; exact Nat.ne_of_lt (Nat.lt_succ_self _)
  have z1 : (s.heap.push { cls := .type "tuple", data := .seq #[a, b] }).objs.size = s.heap.objs.size + 1 := Heap.size_push ..
  have z2 : ((s.heap.push { cls := .type "tuple", data := .seq #[a, b] }).push { cls := .type "tuple_iterator", data := .fields #[.ref s.heap.objs.size, .int 0 0] }).objs.size = s.heap.objs.size + 2 := by rw [Heap.size_push, Heap.size_push]
  refine wpAny_pure ⟨plainId_quiet F.plain_min_loop _, min_first (Walks.tuple (A := A.in1) (by simp [hh]) _ s.heap.objs.size ne #[a, b]) (h0 := s.heap) cmp _ ?_ ?_ ?_ (by simp) ⟨⟨_, Heap.get?_push_of_some _ (Heap.get?_push_size _ rfl), rfl, rfl⟩, ?_⟩ ?_ (Heap.get?_push_size _ rfl) fun v h1 tk hP k1 => ?_⟩
  · intro hm
    rcases List.mem_cons.mp hm with e | hm
    · rw [z1] at e
      exact absurd (z2.symm.trans e) (by show ¬ (s.heap.objs.size + 2 : Nat) = s.heap.objs.size + 1; omega)
    · exact absurd (z2.symm.trans (List.mem_singleton.mp hm)) (by show ¬ (s.heap.objs.size + 2 : Nat) = s.heap.objs.size; omega)
  · exact void _ (by rw [z2]; omega)
  · intro c hc
    exact void _ (by rw [List.mem_singleton.mp hc, z1]; omega)
  · exact ht.at fun o e => Heap.get?_push_of_some _ (Heap.get?_push_of_some _ e)
  · exact fun c o e => Heap.get?_push_of_some _ (Heap.get?_push_of_some _ (Heap.get?_push_of_some _ e))
  · have ev : v = if bt 1 0 = true then b else a := by
      have hP' : (#[a, b] : Array Value)[if bt 1 0 = true then 1 else 0]? = some v := hP
      by_cases c : bt 1 0 = true
      · rw [if_pos c] at hP' ⊢
        exact (Option.some.inj hP').symm
      · rw [if_neg c] at hP' ⊢
        exact (Option.some.inj hP').symm
    rw [ev]
    refine h h1 tk fun c o e => k1 c o (fun hm => ?_) (fun hm => ?_) (Heap.get?_push_of_some _ (Heap.get?_push_of_some _ (Heap.get?_push_of_some _ e)))
    · have := Heap.lt_size e
      rw [List.mem_singleton.mp hm, z1] at this
      exact absurd this (by show ¬ (s.heap.objs.size + 1 : Nat) < s.heap.objs.size; omega)
    · have := Heap.lt_size e
      rw [hm, z2] at this
      exact absurd this (by show ¬ (s.heap.objs.size + 2 : Nat) < s.heap.objs.size; omega)
end
/-- the best of the first k + 1 -/
theorem best_of {r : Nat → List Int} : ∀ k : Nat, argBest (fun i j => HT.lexLt (r i) (r j)) k ≤ k ∧ ∀ j, j ≤ k → HT.lexLt (r j) (r (argBest (fun i j => HT.lexLt (r i) (r j)) k)) = false
  | 0 => ⟨Nat.le_refl _, fun j hj => by
    obtain rfl : j = 0 := by omega
    exact lex_irr _⟩
  | k + 1 => by
    obtain ⟨h1, h2⟩ := best_of (r := r) k
    unfold argBest
    by_cases c : HT.lexLt (r (k + 1)) (r (argBest (fun i j => HT.lexLt (r i) (r j)) k)) = true
    · rw [if_pos c]
      refine ⟨Nat.le_refl _, fun j hj => ?_⟩
      by_cases e : j = k + 1
      · rw [e]; exact lex_irr _
      · cases d : HT.lexLt (r j) (r (k + 1)) with
        | false => rfl
        | true =>
          have := lex_tr d c
          rw [h2 j (by omega)] at this
          cases this
    · rw [if_neg c]
      refine ⟨Nat.le_succ_of_le h1, fun j hj => ?_⟩
      by_cases e : j = k + 1
      · rw [e]; simpa using c
      · exact h2 j (by omega)
section
variable {X : Cx} {pins : List (Addr × Obj)} {σ : L2.St} {H : Hp} {s : Shared}
/-- min(xs), xs a list of tuples of numbers -/
def rMinT (K : PySem.W.Frag) : List V → Hp → VK → Prop := fun vs H Q => ∃ (l : Addr) (L : List (Addr × List Int)), vs = [V.ref l] ∧ SqL K H l (L.map fun m => V.ref m.1) ∧ (∀ m ∈ L, SqT K H m.1 (m.2.map V.int)) ∧ 0 < L.length ∧
  ∀ m ∈ L, (∀ q ∈ L, HT.lexLt q.2 m.2 = false) → Q (.ref m.1) H
/-- min(t, u) -/
def rMinT2 (K : PySem.W.Frag) : List V → Hp → VK → Prop := fun vs H Q => ∃ (a b : Addr) (ns ms : List Int), vs = [V.ref a, V.ref b] ∧ SqT K H a (ns.map V.int) ∧ SqT K H b (ms.map V.int) ∧ Q (if HT.lexLt ms ns = true then .ref b else .ref a) H
theorem cr_minT (hc : X.calm = true) (hu : X.A.units + 64 < cLine) : CallR X (.builtin "min") (rMinT X.K) := by
  intro pins s σ H vs us Q I r h
  obtain ⟨l, L, rfl, hl, hk, h0, q⟩ := h
  rw [Vals.ref1 r]
  obtain ⟨its, rv, pl, hz⟩ := I.list hl
  have refs : ∀ {L : List (Addr × List Int)} {us : List Value}, Vals (L.map fun m => V.ref m.1) us → us = L.map fun m => Value.ref m.1 := by
    intro L
    induction L with
    | nil => intro us v; cases v; rfl
    | cons m L ih =>
      intro us v
      cases v with
      | cons r t => cases r; rw [ih t]; rfl
  have eits := refs rv
  have hil := pl.isList
  have hlt : l < s.heap.objs.size := by
    obtain ⟨o, ho, _⟩ := hil
    exact Heap.lt_size ho
  have tups : ∀ m ∈ L, ∃ t : List Value, IsTup s.heap m.1 t.toArray ∧ IntsAre t m.2 := fun m hm => by
    obtain ⟨t, hv, ht, _⟩ := I.tuple (hk m hm)
    exact ⟨t, ht, ints_vals hv⟩
  have hsz : its.toArray.size = L.length := by rw [List.size_toArray, eits, List.length_map]
  have itm : ∀ (i : Nat) (v : Value), its.toArray[i]? = some v → ∃ m : Addr × List Int, L[i]? = some m ∧ v = Value.ref m.1 := fun i v e => by
    rw [List.getElem?_toArray, eits, List.getElem?_map] at e
    obtain ⟨m, e1, e2⟩ := Option.map_eq_some_iff.mp e
    exact ⟨m, e1, e2.symm⟩
  have void : ∀ c, s.heap.objs.size ≤ c → s.heap.get? c = none := fun c hc => by
    cases z : s.heap.get? c with
    | none => rfl
    | some o => exact absurd (Nat.lt_of_lt_of_le (Heap.lt_size z) hc) (Nat.lt_irrefl _)
  refine min_walk (wpAny_pyIter_list hil ?_)
  refine ⟨_, _, _, _, _, _, fun i j => HT.lexLt ((L.map (·.2)).getD i []) ((L.map (·.2)).getD j []), rfl, Walks.list (A := X.A.in1) (by simp [I.ok.hd hc]) s.heap.objs.size l (Nat.ne_of_lt hlt) its.toArray, ⟨⟨_, Heap.get?_push_size _ rfl, rfl, rfl⟩, hil.push _⟩, fun b hb => ?_, by rw [hsz]; exact h0, fun i j vi vj s1 Q1 E1 hi hj kp q1 => ?_, fun b o e => Heap.get?_push_of_some _ e, fun b hb => void b (by rw [List.mem_singleton.mp hb]; exact Nat.le_refl _), void _ (by rw [Heap.size_push]; exact Nat.le_succ _), fun v h1 tk hP k1 => ?_⟩
  · rw [Heap.size_push]
    rcases List.mem_cons.mp hb with e | hb
    · rw [e]; exact Nat.lt_succ_self _
    · rw [List.mem_singleton.mp hb]; exact Nat.lt_succ_of_lt hlt
  · obtain ⟨m, em, rfl⟩ := itm i vi hi
    obtain ⟨m', em', rfl⟩ := itm j vj hj
    obtain ⟨t, ht, hti⟩ := tups m (List.mem_of_getElem? em)
    obtain ⟨t', ht', hti'⟩ := tups m' (List.mem_of_getElem? em')
    have e1 : (L.map (·.2)).getD i [] = m.2 := by rw [List.getD_eq_getElem?_getD, List.getElem?_map, em]; rfl
    have e2 : (L.map (·.2)).getD j [] = m'.2 := by rw [List.getD_eq_getElem?_getD, List.getElem?_map, em']; rfl
    dsimp only at q1
    rw [e1, e2] at q1
    exact HT.lt_tupInts (IsTup.kept ht fun b o e _ => kp b o e) (IsTup.kept ht' fun b o e _ => kp b o e) hti hti' (by show X.A.units + 1 < cLine; omega) q1
  · obtain ⟨m, em, rfl⟩ := itm _ v hP
    obtain ⟨b1, b2⟩ := best_of (r := fun i => (L.map (·.2)).getD i []) (its.toArray.size - 1)
    refine ⟨.ref m.1, H, I.kept (t' := tk) fun b u e => k1 b u (fun hm => ?_) (Heap.get?_push_of_some _ e), rfl, q m (List.mem_of_getElem? em) fun p hp => ?_⟩
    · have := Heap.lt_size e
      rw [List.mem_singleton.mp hm] at this
      exact absurd this (Nat.lt_irrefl _)
    · obtain ⟨j, hj, ej⟩ := List.getElem_of_mem hp
      have z := b2 j (by rw [hsz]; omega)
      have e1 : (L.map (·.2)).getD j [] = p.2 := by rw [List.getD_eq_getElem?_getD, List.getElem?_map, List.getElem?_eq_getElem hj, ej]; rfl
      have e2 : (L.map (·.2)).getD (argBest (fun i j => HT.lexLt ((L.map (·.2)).getD i []) ((L.map (·.2)).getD j [])) (its.toArray.size - 1)) [] = m.2 := by rw [List.getD_eq_getElem?_getD, List.getElem?_map, em]; rfl
      have z' : HT.lexLt ((L.map (·.2)).getD j []) ((L.map (·.2)).getD (argBest (fun i j => HT.lexLt ((L.map (·.2)).getD i []) ((L.map (·.2)).getD j [])) (its.toArray.size - 1)) []) = false := z
      rw [e1, e2] at z'
      exact z'
theorem cr_minT2 (hc : X.calm = true) (hu : X.A.units + 64 < cLine) : CallR X (.builtin "min") (rMinT2 X.K) := by
  intro pins s σ H vs us Q I r h
  obtain ⟨a, b, ns, ms, rfl, ha, hb, q⟩ := h
  cases r with
  | cons r1 t =>
    cases t with
    | cons r2 t =>
      cases t
      cases r1
      cases r2
      obtain ⟨t, hv, ht, _⟩ := I.tuple ha
      obtain ⟨t', hv', ht', _⟩ := I.tuple hb
      refine min_pair (I.ok.hd hc) (bt := fun i j => HT.lexLt (if i = 0 then ns else ms) (if j = 0 then ns else ms)) (fun i j vi vj s1 Q1 E1 hi hj kp q1 => ?_) fun h1 tk k1 => ⟨_, H, I.kept (t' := tk) k1, ?_, q⟩
      · have pick : ∀ (i : Nat) v, (#[Value.ref a, Value.ref b] : Array Value)[i]? = some v → ∃ (c : Addr) (u : List Value), v = Value.ref c ∧ IsTup s.heap c u.toArray ∧ IntsAre u (if i = 0 then ns else ms) := fun i v e => by
          match i, e with
          | 0, e => exact ⟨a, t, (Option.some.inj e).symm, ht, ints_vals hv⟩
          | 1, e => exact ⟨b, t', (Option.some.inj e).symm, ht', ints_vals hv'⟩
          | i + 2, e => simp at e
        obtain ⟨c, u, rfl, h1, h2⟩ := pick i vi hi
        obtain ⟨c', u', rfl, h1', h2'⟩ := pick j vj hj
        exact HT.lt_tupInts (IsTup.kept h1 fun b o e _ => kp b o e) (IsTup.kept h1' fun b o e _ => kp b o e) h2 h2' (by show X.A.units + 1 < cLine; omega) q1
      · show RelV _ (if HT.lexLt ms ns = true then Value.ref b else Value.ref a)
        by_cases c : HT.lexLt ms ns = true
        · rw [if_pos c, if_pos c]; rfl
        · rw [if_neg c, if_neg c]; rfl
end
end GsR
/-! sum and max of a tuple of numbers. -/
namespace GsR
open PySem PySem.Spec PyProof.Rows L2
theorem pre_take (f : Nat → Int) (ns : List Int) (h : ∀ (i : Nat) (v : Int), ns[i]? = some v → f i = v) : ∀ n, n ≤ ns.length → preSum f n = (ns.take n).sum
  | 0, _ => rfl
  | n + 1, hn => by
    have hlt : n < ns.length := hn
    have e : ns.take (n + 1) = ns.take n ++ [ns[n]] := took (List.getElem?_eq_getElem hlt)
    rw [e, List.sum_append, ← pre_take f ns h n (Nat.le_of_lt hlt)]
    have e2 : preSum f (n + 1) = preSum f n + f n := rfl
    rw [e2, h n ns[n] (List.getElem?_eq_getElem hlt)]
    simp
section
variable {X : Cx}
theorem ints_at : ∀ {vs : List Value} {ns : List Int}, IntsAre vs ns → ∀ (i : Nat) (v : Value), vs[i]? = some v → ∃ t, v = Value.int (ns.getD i 0) t
  | _, _, .nil, i, v, e => by simp at e
  | _, _, .cons n t h, 0, v, e => ⟨t, (Option.some.inj e).symm⟩
  | _, _, .cons n t h, i + 1, v, e => ints_at h i v e
/-- what a tuple's walk has -/
theorem walk_tuple {pins : List (Addr × Obj)} {σ : L2.St} {H : Hp} {s : Shared} {a : Addr} {ns : List Int} (I : Inv X pins σ H s) (ha : SqT X.K H a (ns.map V.int)) : ∃ its : List Value, IntsAre its ns ∧ s.heap.IsTuple a its.toArray ∧ a < s.heap.objs.size := by
  obtain ⟨its, hv, ht, _⟩ := I.tuple ha
  obtain ⟨o, ho, hc, n, hd⟩ := ht
  exact ⟨its, ints_vals hv, ⟨o, ho, hc, n, hd⟩, Heap.lt_size ho⟩
def rSumT (K : PySem.W.Frag) : List V → Hp → VK → Prop := fun vs H Q => ∃ (a : Addr) (ns : List Int), vs = [V.ref a] ∧ SqT K H a (ns.map V.int) ∧ Q (.int ns.sum) H
def rMaxT (K : PySem.W.Frag) : List V → Hp → VK → Prop := fun vs H Q => ∃ (a : Addr) (ns : List Int), vs = [V.ref a] ∧ SqT K H a (ns.map V.int) ∧ 0 < ns.length ∧ ∀ m, m ∈ ns → (∀ y, y ∈ ns → y ≤ m) → Q (.int m) H
theorem cr_sumT (hc : X.calm = true) : CallR X (.builtin "sum") (rSumT X.K) := by
  intro pins s σ H vs us Q I r h
  obtain ⟨a, ns, rfl, ha, q⟩ := h
  rw [Vals.ref1 r]
  obtain ⟨its, hi, ht, hlt⟩ := walk_tuple I ha
  refine call_sum_walkG (wpAny_pyIter_tuple ht ?_)
  have hl := hi.length
  refine ⟨_, _, _, _, _, _, fun i => ns.getD i 0, rfl, Walks.tuple (A := X.A.in1) (by simp [I.ok.hd hc]) s.heap.objs.size a (Nat.ne_of_lt hlt) its.toArray, ⟨⟨_, Heap.get?_push_size _ rfl, rfl, rfl⟩, ht.at fun o e => Heap.get?_push_of_some _ e⟩, fun b hb => ?_, fun i v e => ints_at hi i v (by rw [List.getElem?_toArray] at e; exact e), fun h1 tk t1 k1 => ?_⟩
  · rw [Heap.size_push]
    rcases List.mem_cons.mp hb with e | hb
    · rw [e]; exact Nat.lt_succ_self _
    · rw [List.mem_singleton.mp hb]; exact Nat.lt_succ_of_lt hlt
  · have e : preSum (fun i => ns.getD i 0) its.toArray.size = ns.sum := by
      rw [pre_take _ ns (fun i v e => by rw [List.getD_eq_getElem?_getD, e]; rfl) _ (by rw [List.size_toArray]; omega), List.size_toArray, List.take_of_length_le (by omega)]
    rw [e]
    refine ⟨.int _, H, I.kept (t' := tk) fun b u e => k1 b u (fun hm => ?_) (Heap.get?_push_of_some _ e), ⟨t1, rfl⟩, q⟩
    have := Heap.lt_size e
    rw [List.mem_singleton.mp hm] at this
    exact absurd this (Nat.lt_irrefl _)
theorem gt_ints {prog : Program} {w : World} {A : Around} {Pv : Nat → Value → Prop} (val : Nat → Int) (hval : ∀ i v, Pv i v → ∃ t, v = .int (val i) t) : CmpOf prog w A .Gt Pv (fun i j => decide (val i > val j)) := CmpOf.ints_gt val hval
theorem cr_maxT (hc : X.calm = true) : CallR X (.builtin "max") (rMaxT X.K) := by
  intro pins s σ H vs us Q I r h
  obtain ⟨a, ns, rfl, ha, h0, q⟩ := h
  rw [Vals.ref1 r]
  obtain ⟨its, hi, ht, hlt⟩ := walk_tuple I ha
  refine call_max_walk (wpAny_pyIter_tuple ht ?_)
  have hl := hi.length
  refine ⟨_, _, _, _, _, _, _, rfl, Walks.tuple (A := X.A.in1) (by simp [I.ok.hd hc]) s.heap.objs.size a (Nat.ne_of_lt hlt) its.toArray, ⟨⟨_, Heap.get?_push_size _ rfl, rfl, rfl⟩, ht.at fun o e => Heap.get?_push_of_some _ e⟩, fun b hb => ?_, by rw [List.size_toArray]; omega, gt_ints (fun i => ns.getD i 0) (fun i v e => ints_at hi i v (by rw [List.getElem?_toArray] at e; exact e)), fun v h1 tk hP k1 => ?_⟩
  · rw [Heap.size_push]
    rcases List.mem_cons.mp hb with e | hb
    · rw [e]; exact Nat.lt_succ_self _
    · rw [List.mem_singleton.mp hb]; exact Nat.lt_succ_of_lt hlt
  · obtain ⟨t, rfl⟩ := ints_at hi _ v (by rw [List.getElem?_toArray] at hP; exact hP)
    obtain ⟨b1, b2⟩ := argBest_gt (fun i => ns.getD i 0) (its.toArray.size - 1)
    rw [List.size_toArray] at b1 b2
    refine ⟨.int _, H, I.kept (t' := tk) fun b u e => k1 b u (fun hm => ?_) (Heap.get?_push_of_some _ e), ⟨t, rfl⟩, q _ ?_ fun y hy => ?_⟩
    · have := Heap.lt_size e
      rw [List.mem_singleton.mp hm] at this
      exact absurd this (Nat.lt_irrefl _)
    · rw [List.size_toArray]
      have hb : argBest (fun i j => decide (ns.getD i 0 > ns.getD j 0)) (its.length - 1) < ns.length := by omega
      rw [List.getD_eq_getElem?_getD, List.getElem?_eq_getElem hb]
      exact List.getElem_mem hb
    · obtain ⟨j, hj, ej⟩ := List.getElem_of_mem hy
      have z := b2 j (by omega)
      have e1 : ns.getD j 0 = y := by rw [List.getD_eq_getElem?_getD, List.getElem?_eq_getElem hj, ej]; rfl
      rw [List.size_toArray]
      rw [← e1]
      exact z
end
end GsR
/-! for i, x in enumerate(t), t a tuple. -/
namespace GsR
open PySem PySem.Spec PyProof.Rows L2
theorem enum_new {v : Value} {o : Obj} {G : Heap → Prop} (B : Begins v o G) : Meets (Builtin.«enumerate.__new__» ⟨[.type "enumerate", v], []⟩) (fun _ R s => G s.heap ∧
    R (.ok (.ret (.ref (s.heap.push o).objs.size))) { s with heap := (s.heap.push o).push { cls := .type "enumerate", data := .fields #[.none, .bool false, .ref s.heap.objs.size, rawInt 0, .none, .none] } }) :=
  .of_wp fun prog w A R s h => by
    obtain ⟨hp, g, d, tk, os⟩ := s
    obtain ⟨h1, h⟩ := h
    have hsub := sub_enumerate
    have q1 : ∀ {A1 : Around} {E : Value → Shared → Prop} {Q : Value → Shared → Prop}, Q (.ref hp.objs.size) ⟨hp.push o, g, d, tk, os⟩ → wpAny (model prog w) A1 (pyIter v) Q E ⟨hp, g, d, tk, os⟩ := fun q => B.iter prog w _ _ ⟨hp, g, d, tk, os⟩ _ h1 q
    wp_walk using q1
    refine wpAny_stack_any fun st => wpAny_pure ?_
    split
    · rename_i c _ _ _ _ _
      cases (c == Value.type "enumerate") <;>
      · wp_walk using q1
        exact ⟨_, rfl, h⟩
    · wp_walk using q1
      exact ⟨_, rfl, h⟩
theorem call_enum {prog : Program} {w : World} {A : Around} {E : Value → Shared → Prop} {s : Shared} {v : Value} {o : Obj} {G : Heap → Prop} {Q : Value → Shared → Prop} (B : Begins v o G) (h1 : G s.heap)
    (h : ∀ h', IsEnum h' (s.heap.objs.size + 1) s.heap.objs.size 0 .none → h'.get? s.heap.objs.size = some o → (∀ b o, s.heap.get? b = some o → h'.get? b = some o) → Q (.ref (s.heap.objs.size + 1)) { s with heap := h' }) : wpAny (model prog w) A (call (.type "enumerate") [v]) Q E s := by
  refine callType_new F.called_enumerate (by decide) (F.typeCall_enumerate_1 _) (F.newCall_enumerate_1 _) (fun obj => F.args_object_init_2 obj _) F.entry_enumerate_new (enum_new B) ⟨h1, ?_⟩
  have z : (s.heap.push o).objs.size = s.heap.objs.size + 1 := Heap.size_push ..
  show _ ∧ _
  rw [z]
  have he : IsEnum ((s.heap.push o).push { cls := .type "enumerate", data := .fields #[.none, .bool false, .ref s.heap.objs.size, rawInt 0, .none, .none] }) (s.heap.objs.size + 1) s.heap.objs.size 0 .none := by
    have q := Heap.get?_push_size (s.heap.push o) (o := { cls := .type "enumerate", data := .fields #[.none, .bool false, .ref s.heap.objs.size, rawInt 0, .none, .none] }) rfl
    rw [z] at q
    exact q
  exact ⟨⟨_, he, rfl⟩, h _ he (Heap.get?_push_of_some _ (Heap.get?_push_size _ B.free)) fun b o x => Heap.get?_push_of_some _ (Heap.get?_push_of_some _ x)⟩
/-- the tuple at a, each item in a new pair with its place -/
def Itet (K : PySem.W.Frag) (a : Addr) : It :=
  ⟨fun i H => ∃ (xs : List V) (x : V), SqT K H a xs ∧ xs[i]? = some x, fun i H v H' => ∃ T x, v = .ref T ∧ H T = none ∧ H' = upd H T (.tup [.int (i : Nat), x]) ∧ ∀ xs, SqT K H a xs → xs[i]? = some x, fun i H => ∃ xs : List V, SqT K H a xs ∧ xs.length ≤ i⟩
theorem turn_enumT {P : Program} {w : World} {K : PySem.W.Frag} {elts : List Expr} {kx : Nat} {tpos : Pos} (a e it : Addr) (hai : a ≠ it) (hae : a ≠ e) :
    Turn P w K (.Tuple elts kx tpos) (Itet K a) [e, it] e (fun i h => (∃ old, IsEnum h e it ((i : Nat) : Int) old) ∧ h.IsTupleIter it a i ∧ e ≠ it) where
  mem := by simp
  obj := fun i h st b hb => by
    obtain ⟨⟨old, he⟩, ⟨o, ho, hc, hd⟩, _⟩ := st
    rcases (show b = e ∨ b = it by simpa using hb) with z | z
    · rw [z]; exact ⟨_, he, fun v q => nomatch q⟩
    · rw [z]; exact ⟨o, ho, fun v q => by rw [hd] at q; cases q⟩
  keep := fun i h h' st k => let ⟨⟨old, he⟩, hi, hne⟩ := st; ⟨⟨old, k e (by simp) _ he⟩, hi.at fun o q => k it (by simp) o q, hne⟩
  item := by
    intro X hP hw hK hc i pins s σ H E I hf st hg
    subst hP hw hK
    obtain ⟨⟨old, he⟩, hit, hne⟩ := st
    obtain ⟨xs, x, hq, hx⟩ := hg
    obtain ⟨its, rv, p, hz⟩ := I.tuple hq
    obtain ⟨u, hu, ru⟩ := rv.get hx
    have hel : e < s.heap.objs.size := Heap.lt_size he
    have hil : it < s.heap.objs.size := by obtain ⟨_, q, _⟩ := hit; exact Heap.lt_size q
    have hlt : i < its.toArray.size := by rw [List.size_toArray]; exact (List.getElem?_eq_some_iff.mp hu).1
    refine wpAny_pyNext_enum_itemD (Draws.tuple (A := X.A.in1) (by simp [I.ok.hd hc]) it a hai its.toArray) he ⟨hit, p⟩ hlt hne (by simp [hne, Ne.symm hae]) fun x' h1 tk hP1 ho hst1 hT hsz hk => ?_
    obtain rfl : x' = u := by
      have z : its.toArray[i]? = some x' := hP1
      rw [List.getElem?_toArray, hu] at z
      exact (Option.some.inj z).symm
    refine ⟨_, rfl, wpAny_letOwnedTupleGo_enum (s := { s with heap := h1, toks := tk + 1 }) ho fun h2 he2 sb => ?_⟩
    have hT2 : h2.get? s.heap.objs.size = some { cls := .type "tuple", data := .seq #[.int i tk, x'] } := (sb.2 _ (Nat.ne_of_gt hel)).trans hT
    have new : ObjOk X.prog X.w (upd H s.heap.objs.size (.tup [.int (i : Nat), x])) h2 s.heap.objs.size (.tup [.int (i : Nat), x]) := ⟨by show 2 ≤ sizeLine; decide, [.int i tk, x'], .cons ⟨_, rfl⟩ (.cons ru .nil), ⟨_, hT2, rfl, _, rfl⟩⟩
    have I1 : Inv X pins σ (upd H s.heap.objs.size (.tup [.int (i : Nat), x])) { s with heap := h2, toks := tk + 1 } :=
      I.turnedNew (ch := [e, it]) (fun b ob hb q => (sb.2 b (fun z => hb (by simp [z]))).trans (hk b ob (fun z => hb (by simp [z])) (fun z => hb (by simp [z])) q)) hf (Nat.le_refl _) new
    refine ⟨.ref s.heap.objs.size, _, I1, rfl, ⟨_, x, rfl, I.hok.fresh (Nat.le_refl _), rfl, fun ys hy => by rw [I.tuple_inj hy hq]; exact hx⟩, ⟨⟨x', ?_⟩, hst1.1.at fun o q => (sb.2 it (Ne.symm hne)).trans q, hne⟩, fun b hb => ?_⟩
    · rw [show ((i + 1 : Nat) : Int) = (i : Int) + 1 by omega]
      exact he2
    · have hb2 : b < s.heap.objs.size := by
        rcases (show b = e ∨ b = it by simpa using hb) with z | z
        · rw [z]; exact hel
        · rw [z]; exact hil
      rw [upd_ne (Nat.ne_of_lt hb2)]
      exact (hf b hb).1
  done := by
    intro X hP hw hK hc i pins s σ H E I hf st hg
    subst hP hw hK
    obtain ⟨⟨old, he⟩, hit, hne⟩ := st
    obtain ⟨xs, hq, hx⟩ := hg
    obtain ⟨its, rv, p, hz⟩ := I.tuple hq
    obtain ⟨f0, f1, f2, f3, f4, f5⟩ := hf it (by simp)
    have hl := rv.length
    have over : Draws X.prog X.w X.A.in1 it [it, a] i (fun _ _ => False) (fun j h => j = i ∧ h.IsTupleIter it a i ∧ h.IsTuple a its.toArray) :=
      { live := fun _ _ st => let ⟨o, ho, _⟩ := st.2.1; ⟨o, ho⟩
        frame := fun _ _ _ st hk => ⟨st.1, st.2.1.at fun o e => hk it (by simp) o e, st.2.2.at fun o e => hk a (by simp) o e⟩
        item := fun j s Q E hj st hQ => absurd st.1 (Nat.ne_of_lt hj)
        done := fun s Q E st hE => wpAny_nextOf_tuple_end (by simp [I.ok.hd hc]) st.2.1 st.2.2 (by simp; omega) hE }
    exact wpAny_pyNext_enum_endD over he ⟨rfl, hit, p⟩ fun h1 eb => ⟨rfl, I.turned (t' := s.toks) (fun b o hb q => eb b o hb q) f0 f1 f3 f4 f5⟩
  self := fun A i s Q E st h => let ⟨⟨_, he⟩, _⟩ := st; wpAny_pyIter_enum he h
theorem walk_enumT {K : PySem.W.Frag} {a : Addr} {xs : List V} : Walk (Itet K a) xs.length (fun H => SqT K H a xs) (YPair (fun i => some (.int (i : Nat))) (fun i => xs[i]?)) := by
  refine ⟨fun i H hi h => ⟨xs, xs[i], h, by simp [hi]⟩, fun H h => ⟨xs, h, Nat.le_refl _⟩, fun i H v H' hi h y => ?_⟩
  obtain ⟨T, x, e1, e2, e3, e4⟩ := y
  exact ⟨T, _, x, e1, e2, e3, rfl, e4 xs h⟩
def iEnumT (K : PySem.W.Frag) (ta : TA) : TI := fun σ H R => ta σ H fun vs H1 => ∃ a xs, vs = [.ref a] ∧ SqT K H1 a xs ∧ R (Itet K a) H1
theorem pi_enumT {X : Cx} {e : Expr} {ta : TA} {p pos tpos : Pos} {elts : List Expr} {kx : Nat} (hg : Gl X "enumerate") (hm : X.mg "enumerate" = none) (ha : PA X [e] ta) (hs : starEach [e] X.env = [(false, eval e X.env)] := by rfl) : PI X (.Tuple elts kx tpos) (.Call (.Name "enumerate" p) [e] [] pos) (iEnumT X.K ta) := by
  refine ⟨fun pins s σ H R I h => ?_⟩
  refine Call_ (ld_blt I hg hm boot_enumerate (PyProof.Rows.callWith_type1 (thn (ha.run pos pins s σ H _ I h) fun us s1 ⟨vs, H1, I1, r1, q1⟩ => ?_) hs rfl))
  obtain ⟨a, xs, ex, hq, q⟩ := q1
  subst ex
  cases r1 with
  | cons r rr =>
    cases rr
    cases r
    obtain ⟨its, rv, pt, hz⟩ := I1.tuple hq
    have hlt : a < s1.heap.objs.size := by obtain ⟨o, ho, _⟩ := pt; exact Heap.lt_size ho
    refine call_enum (begins_tuple a its.toArray) pt fun h1 he ho hk => wpAny_pyIter_enum he ?_
    have I2 : Inv X pins σ H1 { s1 with heap := h1 } := I1.kept (t' := s1.toks) hk
    refine ⟨s1.heap.objs.size + 1, [s1.heap.objs.size + 1, s1.heap.objs.size], _, _, H1, rfl, I2, turn_enumT a (s1.heap.objs.size + 1) s1.heap.objs.size (Nat.ne_of_lt hlt) (Nat.ne_of_lt (Nat.lt_succ_of_lt hlt)), ⟨⟨.none, he⟩, ⟨_, ho, rfl, rfl⟩, Nat.succ_ne_self _⟩, fun b hb => ?_, q⟩
    have hle : s1.heap.objs.size ≤ b := by
      rcases (show b = s1.heap.objs.size + 1 ∨ b = s1.heap.objs.size by simpa using hb) with z | z
      · rw [z]; exact Nat.le_add_right _ _
      · rw [z]; exact Nat.le_refl _
    exact I1.fpOk hle (I1.hok.fresh hle)
end GsR
/-! xs[i] as it is read for xs[i] -= 1. -/
namespace GsR
open PySem PySem.Spec PyProof.Rows L2
def gIx (K : PySem.W.Frag) : V → V → Hp → VK → Prop := fun o i H Q => ∃ (p : Addr) (xs : List V) (k : Nat) (v : V), o = .ref p ∧ i = .int (k : Int) ∧ SqL K H p xs ∧ xs[k]? = some v ∧ Q v H
theorem get_ix {X : Cx} : PGet X (gIx X.K) := by
  intro pins s σ H o i ov iv Q I ro ri h
  obtain ⟨p, xs, k, v, rfl, rfl, hl, hx, q⟩ := h
  cases ro
  obtain ⟨t, rfl⟩ := ri
  obtain ⟨its, rv, pl, hz⟩ := I.list hl
  obtain ⟨u, hu, ru⟩ := rv.get hx
  have hk : k < xs.length := (List.getElem?_eq_some_iff.mp hx).1
  rw [sizeLine_eq] at hz
  exact wpAny_getItem_list pl.isList (by omega) (by omega) (by rw [Int.toNat_natCast]; simpa using hu) ⟨v, H, I, ru, q⟩
end GsR
namespace GsR
open PySem PySem.Spec PyProof.Rows L2
/-! ### a written dict with numbers for keys -/
def KeysNum : List DictEntry → Prop
  | [] => True
  | e :: r => (∃ x t, e.key = .int x t ∧ e.hash = hashInt x) ∧ KeysNum r
theorem KeysNum.all : ∀ {l : List DictEntry}, KeysNum l → ∀ e ∈ l, ∃ x t, e.key = .int x t ∧ e.hash = hashInt x
  | _ :: _, ⟨h, _⟩, _, .head _ => h
  | _ :: _, ⟨_, r⟩, _, .tail _ m => r.all _ m
/-- at d: a written dict by numbers -/
structure NumD (K : PySem.W.Frag) (d : Addr) (es : Array DictEntry) (n : Nat) : Prop where
  at_ : K.lookup d = some ⟨.type "dict", none, .dict es n, #[]⟩
  num : KeysNum es.toList
  low : (d == sysModules) = false
theorem num_map {K : PySem.W.Frag} {h : Heap} {prog : Program} {w : World} {d : Addr} {es : Array DictEntry} {n : Nat} (D : NumD K d es n) (X : K.In h) : h.MapOf (intKind prog w) d (fun k => findBy Value.isInt es k) :=
  ⟨_, es, n, X _ _ D.at_, ⟨rfl, rfl, rfl⟩, rfl, fun e he => by
    obtain ⟨x, t, e1, e2⟩ := D.num.all e (Array.mem_toList_iff.mpr he)
    exact ⟨x, by rw [e1]; exact intKind_is prog w x t, e2⟩, fun _ => rfl⟩
section
variable {X : Cx} {d : Addr} {es : Array DictEntry} {n : Nat}
def rInN (d : Addr) (es : Array DictEntry) : R2 := fun x y H Q => ∃ (z : Int), x = .int z ∧ y = .ref d ∧ Q (.bl (findBy Value.isInt es z).isSome) H
theorem op_inN (D : NumD X.K d es n) : OpR X (compareOp .In) (rInN d es) := by
  intro pins s σ H x y v u Q I rx ry h
  obtain ⟨z, rfl, rfl, q⟩ := h
  obtain ⟨t, rfl⟩ := rx
  cases ry
  refine wpAny_in_of (PySem.intKind_is X.prog X.w z t) D.low (num_map (prog := X.prog) D I.kIn) ?_
  exact ⟨.bl _, H, I.tok _, rfl, q⟩
/-- d[z] of such a dict -/
def rIxN (d : Addr) (es : Array DictEntry) : R2 := fun x y H Q => ∃ (z : Int) (u : Value) (v : V), x = .ref d ∧ y = .int z ∧ findBy Value.isInt es z = some u ∧ RelV v u ∧ Q v H
theorem ix_num (D : NumD X.K d es n) : IxR X (rIxN d es) := by
  intro value slice pins s σ H x y v u Q I rx ry h hs
  obtain ⟨z, u0, v0, rfl, rfl, e, ru, q⟩ := h
  obtain rfl : v = Value.ref d := rx
  obtain ⟨t, rfl⟩ := ry
  have hm := num_map (prog := X.prog) (w := X.w) D I.kIn
  exact tail_any hm.typeIs slot_dict_getitem.lookup (wpAny_getItem_of (PySem.intKind_is X.prog X.w z t) hm e ⟨v0, H, I.tok _, ru, q⟩) hs
/-- e(e1, ..): a def, whichever expression tells it -/
def tCallX (k : Nat) (P : Program) (w : World) (K : PySem.W.Frag) (mg : Str → Option Value) (base : Heap) (tf : TE) (t : TA) : TE := fun σ H Q => tf σ H fun x H1 => ∃ (f : Addr) (sp : Sp), x = .ref f ∧ FnR P w K mg base CX0 k f sp ∧ PySem.W.keepIn K (.ref f) = true ∧ t σ H1 fun vs H2 => sp vs H2 Q E0
theorem pe_callX {k : Nat} {fe e : Expr} {es : List Expr} {tf : TE} {t : TA} {pos : Pos} (hf : PE X fe tf) (hr : Room k X.A) (ha : PA X (e :: es) t)
    (hc : eval (.Call fe (e :: es) [] pos) X.env = (do callWith pos (← eval fe X.env) [] (backTo pos (starEach (e :: es) X.env)) (backToKw pos (keywordEach [] X.env))) := by rfl)
    (he : starEach (e :: es) X.env = (false, eval e X.env) :: starEach es X.env := by rfl) (hpl : (backTo pos (starEach es X.env)).any (·.1) = false := by rfl) : PE X (.Call fe (e :: es) [] pos) (tCallX k X.prog X.w X.K X.mg X.base tf t) := by
  refine ⟨fun pins s σ H Q I h => ?_⟩
  refine Call_ (thn (hf.run pins s σ H _ I h) fun u s1 ⟨v, H1, I1, r1, f, sp, ev, F, hk, q⟩ => ?_) hc
  subst ev
  cases r1
  refine PySem.W.callWith_K (h₀ := X.base) I.ok.mod.kin hk (thn (ha.run pos pins s1 σ H1 _ I1 q) fun us s2 ⟨vs, H2, I2, r, q⟩ => ⟨I2.kIn, ?_⟩) he hpl
  exact wpAny_call (run_fnR F hr pass0 I2 r q)
end
end GsR
namespace GsR
open PySem PySem.Spec PyProof.Rows L2
/-! ### d.pop(t), t a tuple that is a key -/
section
variable {K : Type} [DecidableEq K] {prog : Program} {w : World} {knd : HeapKind prog w K} {A : Around} {E : Value → Shared → Prop} {s : Shared}
theorem meets_pop {d b : Addr} {k : K} : MeetsIn prog w (Builtin.«dict.pop» ⟨[.ref d, .ref b], []⟩) (fun A R s => ∃ xs p0, knd.room A.in1 ∧ knd.is s.heap k b ∧ s.heap.DictOfH knd d xs ∧ xs.length ≤ sizeLine ∧ atKey xs k = some p0 ∧
      ∀ p, atKey xs k = some p → ∀ hh tk, hh.DictOfH knd d (DT.dropH xs k) → Heap.SameBut d s.heap hh → R (.ok (.ret p.2)) { s with heap := hh, toks := tk }) :=
  .of_wp fun A R s ⟨xs, p0, hun, hky, hm, hfit, h0, hyes⟩ => by
    obtain ⟨o, es, ep, ho, hc, hda, he, his, hn⟩ := id hm
    have hlen : es.size = xs.length := size_of_entries he
    unfold Builtin.«dict.pop»
    refine wpAny_bind ?_
    unfold Builtin.Dict.keyAndDefault
    refine wpAny_bind (wpAny_notOrdered_dict hm.typeIs ?_)
    show wpAny _ _ (pure (d, Value.ref b, none)) _ _ s
    refine wpAny_pure ?_
    have hpt : (keyPart (Value.ref b)).isSome = false := rfl
    simp only [hpt, Bool.false_eq_true, if_false]
    refine wpAny_bind (wpAny_dictEntries ho hda (wpAny_bind (wpAny_pure ?_)))
    have hem : es.isEmpty = false := by
      cases hx : es.isEmpty with
      | false => rfl
      | true =>
        have z : es.size = 0 := by simpa using hx
        have : xs = [] := List.length_eq_zero_iff.mp (by omega)
        rw [this] at h0
        cases h0
    rw [hem]
    simp only [Bool.false_eq_true, if_false]
    refine wpAny_bind (DT.takeH hun hky hm hfit (fun hno => ?_) fun p e hp hval hh hmm hss => ?_)
    · rw [h0] at hno
      cases hno
    · simp only [Option.isNone_some, Bool.false_eq_true, if_false]
      exact wpAny_bind (wpAny_letGo (wpAny_pure ⟨e.val, rfl, by rw [hval]; exact hyes p hp hh _ hmm hss⟩))
end
section
variable {X : Cx}
def rPop (x : V) (xs : List V) (H : Hp) (Q : VK) : Prop := ∃ (a : Addr) (kvs : List (List L2.Key × V)) (k : List L2.Key) (b : Addr) (v : V), x = .ref a ∧ xs = [.ref b] ∧ H a = some (.dT kvs) ∧ H b = some (.tup (k.map kV)) ∧ valV kvs k = some v ∧ Q v (upd H a (.dT (dropK kvs k)))
theorem mt_pop (hun : X.A.units + 1 < cLine) : MtR X "dict.pop" rPop := by
  intro pins s σ H x xs v us Q I rx rxs h
  obtain ⟨a, kvs, k, b, v0, rfl, rfl, ha, hb, hv, q⟩ := h
  cases rx
  obtain ⟨u1, rfl, r1⟩ := vals1 rxs
  cases r1
  obtain ⟨z, hd, ks, rr, dd⟩ := dt_of I.hok ha
  have hz : ks.length ≤ sizeLine := by rw [← Paired.length rr]; exact z
  have r := rr.val k
  rw [hv] at r
  obtain ⟨p0, hp0⟩ : ∃ p0, atKey ks k = some p0 := by
    cases e : atKey ks k with
    | none => rw [e] at r; exact (show False from r).elim
    | some p => exact ⟨p, rfl⟩
  refine call_meetsIn PySem.F.slot_dict_pop dd.typeIs PySem.F.entry_dict_pop (PySem.F.args_dict_pop_2 _ _) (meets_pop (knd := tupleKind (mixKind X.prog X.w)) (k := k))
    ⟨ks, p0, tupleKind_room_in1 hun, key_of I.hok hb, dd, hz, hp0, fun p hp hh tk dq hs => ?_⟩
  rw [hp] at r
  obtain ⟨o, es, ep, hq, h2, h3, h4, _, h5⟩ := dq
  have I2 : Inv X pins σ (upd H a (.dT (dropK kvs k))) { s with heap := hh, toks := tk } :=
    d_write I (by rw [ha]; exact True.intro) hs ⟨o, hq⟩ ⟨Nat.le_trans (dropK_le kvs k) z, hd, _, (DX.KT_drop k rr).keeps (fun c ys ec => (by rw [upd_ne (ne_of ec ha (fun z => nomatch z))]; exact ec)), o, es, ep, hq, h2, h3, h4, h5⟩
  show EP X pins σ Q p.2 _
  exact ⟨v0, _, I2, r, q⟩
end
end GsR
/-! A written table of defs by numbers: `k in TABLE`, `TABLE[k](..)`. -/
namespace GsR
open PySem PySem.Spec PyProof.Rows L2
inductive Ents : List DictEntry → List (Int × Addr) → Prop
  | nil : Ents [] []
  | cons {h k : Int} {t : Tok} {f : Addr} {es : List DictEntry} {L : List (Int × Addr)} (e : h = hashInt k) (r : Ents es L) : Ents (⟨h, .int k t, .ref f⟩ :: es) ((k, f) :: L)
theorem Ents.num {es : List DictEntry} {L : List (Int × Addr)} (h : Ents es L) : KeysNum es := by
  induction h with
  | nil => trivial
  | cons e _ ih => exact ⟨⟨_, _, rfl, e⟩, ih⟩
theorem Ents.find {es : List DictEntry} {L : List (Int × Addr)} (h : Ents es L) (z : Int) : (es.find? fun e => Value.isInt z e.key).map (·.val) = (L.lookup z).map Value.ref := by
  induction h with
  | nil => rfl
  | @cons hh k t f es L e r ih =>
    by_cases c : k = z
    · have e1 : Value.isInt z (Value.int k t) = true := by show (k == z) = true; exact beq_iff_eq.mpr c
      rw [List.find?_cons_of_pos (p := fun e : DictEntry => Value.isInt z e.key) e1, c, List.lookup_cons_self]
      rfl
    · have e1 : ¬ Value.isInt z (Value.int k t) = true := by show ¬ (k == z) = true; exact fun y => c (beq_iff_eq.mp y)
      rw [List.find?_cons_of_neg (p := fun e : DictEntry => Value.isInt z e.key) e1, ih, List.lookup_cons, beq_eq_false_iff_ne.mpr fun y => c y.symm]
/-- a name of the top that holds a table of defs -/
structure TabL (K : PySem.W.Frag) (mg : Str → Option Value) (x : Str) (L : List (Int × Addr)) : Prop where
  ex : ∃ (d : Addr) (es : Array DictEntry) (n : Nat), mg x = some (.ref d) ∧ NumD K d es n ∧ ∀ z, findBy Value.isInt es z = (L.lookup z).map Value.ref
theorem tab_mk {K : PySem.W.Frag} {mg : Str → Option Value} {x : Str} {L : List (Int × Addr)} {d : Addr} {es : List DictEntry} {n : Nat} (hm : mg x = some (.ref d)) (hl : K.lookup d = some ⟨.type "dict", none, .dict es.toArray n, #[]⟩) (he : Ents es L) (lo : (d == sysModules) = false) : TabL K mg x L :=
  ⟨d, es.toArray, n, hm, ⟨hl, he.num, lo⟩, fun z => by
    unfold findBy
    rw [List.find?_toArray]
    exact he.find z⟩
section
variable {X : Cx} {x : Str} {L : List (Int × Addr)} {a : Expr} {ta : TE} {p pos : Pos}
def tInT (L : List (Int × Addr)) (ta : TE) : TE := fun σ H Q => ta σ H fun v H1 => ∃ z : Int, v = .int z ∧ Q (.bl (L.lookup z).isSome) H1
theorem pe_inT (T : TabL X.K X.mg x L) (ha : PE X a ta) (hg : Gl X x) (mono : ∀ σ H Q Q', (∀ v H1, Q v H1 → Q' v H1) → ta σ H Q → ta σ H Q') (hm : behindInMarks .In (.Name x p) = false := by rfl) (hd : (x == ("__debug__" : Str)) = false := by decide) : PE X (.Compare a [.In] [.Name x p] pos) (tInT L ta) := by
  obtain ⟨d, es, n, h1, D, hf⟩ := T.ex
  have r := pe_cmpR (pos := pos) (op_inN D) ha (pe_glob (v := .ref d) (pos := p) hg h1 rfl hd) hm
  refine ⟨fun pins s σ H Q I h => r.run pins s σ H Q I (mono σ H _ _ (fun v H1 y => ?_) h)⟩
  obtain ⟨z, rfl, q⟩ := y
  refine ⟨z, rfl, rfl, ?_⟩
  rw [hf, Option.isSome_map]
  exact q
theorem pt_inT (T : TabL X.K X.mg x L) (ha : PE X a ta) (hg : Gl X x) (mono : ∀ σ H Q Q', (∀ v H1, Q v H1 → Q' v H1) → ta σ H Q → ta σ H Q') (hm : behindInMarks .In (.Name x p) = false := by rfl) (hd : (x == ("__debug__" : Str)) = false := by decide) : PT X (.Compare a [.In] [.Name x p] pos) (tTest (tInT L ta)) := by
  obtain ⟨d, es, n, h1, D, hf⟩ := T.ex
  have r := pt_cmpR (pos := pos) (op_inN D) ha (pe_glob (v := .ref d) (pos := p) hg h1 rfl hd) hm
  refine ⟨fun pins s σ H Q I h => r.run pins s σ H Q I (mono σ H _ _ (fun v H1 y => ?_) h)⟩
  obtain ⟨z, rfl, b, eb, q⟩ := y
  refine ⟨z, rfl, rfl, b, ?_, q⟩
  rw [hf, Option.isSome_map]
  exact eb
/-- TABLE[k](..): sp is what the def there promises -/
def tCallT (k : Nat) (P : Program) (w : World) (K : PySem.W.Frag) (mg : Str → Option Value) (base : Heap) (L : List (Int × Addr)) (ta : TE) (t : TA) : TE := fun σ H Q => ta σ H fun v H1 => ∃ (z : Int) (f : Addr) (sp : Sp), v = .int z ∧ L.lookup z = some f ∧ FnR P w K mg base CX0 k f sp ∧ PySem.W.keepIn K (.ref f) = true ∧ t σ H1 fun vs H2 => sp vs H2 Q E0
theorem pe_callT {k : Nat} {e : Expr} {es : List Expr} {t : TA} {p2 : Pos} (T : TabL X.K X.mg x L) (hg : Gl X x) (ha : PE X a ta) (hs : PlainIx a) (hr : Room k X.A) (hb : PA X (e :: es) t) (mono : ∀ σ H Q Q', (∀ v H1, Q v H1 → Q' v H1) → ta σ H Q → ta σ H Q')
    (hd : (x == ("__debug__" : Str)) = false := by decide)
    (hc : eval (.Call (.Subscript (.Name x p) a p2) (e :: es) [] pos) X.env = (do callWith pos (← eval (.Subscript (.Name x p) a p2) X.env) [] (backTo pos (starEach (e :: es) X.env)) (backToKw pos (keywordEach [] X.env))) := by rfl)
    (he : starEach (e :: es) X.env = (false, eval e X.env) :: starEach es X.env := by rfl) (hpl : (backTo pos (starEach es X.env)).any (·.1) = false := by rfl) :
    PE X (.Call (.Subscript (.Name x p) a p2) (e :: es) [] pos) (tCallT k X.prog X.w X.K X.mg X.base L ta t) := by
  obtain ⟨d, en, n, h1, D, hf⟩ := T.ex
  have r := pe_callX (pos := pos) (pe_ix (pos := p2) (ix_num D) (pe_glob (v := .ref d) (pos := p) hg h1 rfl hd) ha hs) hr hb hc he hpl
  refine ⟨fun pins s σ H Q I h => r.run pins s σ H Q I (mono σ H _ _ (fun v H1 y => ?_) h)⟩
  obtain ⟨z, f, sp, rfl, e1, F, kp, q⟩ := y
  exact ⟨z, .ref f, .ref f, rfl, rfl, by rw [hf, e1]; rfl, rfl, f, sp, rfl, F, kp, q⟩
theorem mono_var (i : Nat) (σ : L2.St) (H : Hp) (Q Q' : VK) (h : ∀ v H1, Q v H1 → Q' v H1) (q : tVar i σ H Q) : tVar i σ H Q' := let ⟨v, e, y⟩ := q; ⟨v, e, h v H y⟩
end
end GsR
/-! A display of one pair whose key is a tuple. -/
namespace GsR
open PySem PySem.Spec PyProof.Rows L2
/-- {k: v}, k a tuple; the new dict stands empty while the pair is made -/
def tDisp1T (tk tv : TE) : TE := fun σ H Q => ∀ p, H p = none → tk σ (upd H p (.dT [])) fun x H1 => tv σ H1 fun y H2 => H2 p = some (.dT []) ∧ ∃ (b : Addr) (k : List L2.Key), x = .ref b ∧ H2 b = some (.tup (k.map kV)) ∧ Q (.ref p) (upd H2 p (.dT [(k, y)]))
theorem pe_disp1T {X : Cx} {pos : Pos} {k v : Expr} {tk tv : TE} (hu : X.A.units + 1 < cLine) (hk : PE X k tk) (hv : PE X v tv) : PE X (.Dict [some k] [v] pos) (tDisp1T tk tv) := by
  refine ⟨fun pins s σ H Q I q => ?_⟩
  have hn := I.hok.fresh (Nat.le_refl s.heap.objs.size)
  have I1 := I.laid (a := s.heap.objs.size) (o := .dT []) (h' := s.heap.push { cls := .type "dict", data := .dict #[] }) (t' := s.toks) (fun _ _ q => Heap.get?_push_of_some _ q) (Nat.le_refl _) (dt_empty s.heap I.big)
  rw [arm_eval_Dict, zip_pairTrees [some k] [v] X.env pos rfl rfl, dictDisplay_pairs _ (by intro z; cases z) (by show 1 < 17; decide)]
  refine wpAny_bind (wpAny_standAt (wpAny_bind ?_))
  unfold subDict
  refine wpAny_bind (wpAny_alloc ?_)
  refine wpAny_bind (wpAny_holding ?_)
  rw [if_pos (by show 1 ≤ 15; decide)]
  refine wpAny_bind (wpAny_mono (pairTrees_cons_walk (Q := fun r s3 => ∃ u w2 y H2, r = [(u, w2)] ∧ Inv X pins σ H2 s3 ∧ RelV y w2 ∧ H2 s.heap.objs.size = some (.dT []) ∧ ∃ (b : Addr) (k : List L2.Key), RelV (.ref b) u ∧ H2 b = some (.tup (k.map kV)) ∧ Q (.ref s.heap.objs.size) (upd H2 s.heap.objs.size (.dT [(k, y)])))
    (thn (hk.run pins _ σ _ _ I1 (q _ hn)) fun u s1 ⟨x, H1, I2, rx, q1⟩ => thn (hv.run pins s1 σ H1 _ I2 q1) fun w2 s2 ⟨y, H2, I3, ry, q2⟩ => pairTrees_nil_walk ?_)) (fun vs s3 h3 => ?_) fun _ _ e => e)
  · obtain ⟨e, b, kk, rfl, eb, q3⟩ := q2
    exact ⟨u, w2, y, H2, rfl, I3, ry, e, b, kk, rx, eb, q3⟩
  · obtain ⟨u, w2, y, H2, rfl, I3, ry, e, b, kk, rb, eb, q3⟩ := h3
    cases (show u = Value.ref b from rb)
    refine wpAny_holding ?_
    rw [List.forIn_cons]
    obtain ⟨z, hd, xs, rel, dd⟩ := dt_of I3.hok e
    have hz : xs.length ≤ sizeLine := by rw [← Paired.length rel]; exact z
    refine wpAny_bind (wpAny_bind (wpAny_bind (wpAny_dictSet_heap (hsz := hz) ?_ (key_of I3.hok eb) dd fun h' dd' hs => wpAny_pure ?_)))
    · show X.A.units < cLine
      omega
    · show wpAny _ _ (forIn [] PUnit.unit _) _ _ _
      rw [List.forIn_nil]
      refine wpAny_pure (wpAny_pure (wpAny_pure (wpAny_pure ?_)))
      have hl : (putK ([] : List (List L2.Key × V)) kk y).length ≤ sizeLine := by
        have := length_putK ([] : List (List L2.Key × V)) kk y
        rw [sizeLine_eq]
        simp only [List.length_nil] at this
        omega
      obtain ⟨q, es, ep, hq, h2, h3, h4, _, h5⟩ := dd'
      refine ⟨.ref s.heap.objs.size, _, d_write (ob := .dT [(kk, y)]) I3 (by rw [e]; exact True.intro) hs ⟨q, hq⟩ ⟨hl, hd, _, (rel.put kk eb ry).keeps fun c ys ec => ?_, q, es, ep, hq, h2, h3, h4, h5⟩, rfl, q3⟩
      rw [upd_ne (ne_of ec e (fun z => nomatch z))]
      exact ec
end GsR
namespace Gp
open PySem PySem.Spec PyProof.Rows L2
/-! ### the text: the i-th statement of the program -/
def top (i : Nat) : Stmt := PySem.Challenge.pw_gatheredsurely_s01_answers.main.body.getD i (.Pass ⟨0, 0, 0, 0⟩)
abbrev sTurned : Stmt := top 10
abbrev sMirrored : Stmt := top 11
abbrev sNameOf : Stmt := top 12
abbrev sAllRings : Stmt := top 13
abbrev sNamesLike : Stmt := top 14
abbrev sRankOf : Stmt := top 15
abbrev sAllAtOne : Stmt := top 16
abbrev sSeenRing : Stmt := top 23
abbrev sViewOf : Stmt := top 24
abbrev sLesserSteps : Stmt := top 25
abbrev sIsEven : Stmt := top 26
abbrev sEagerSteps : Stmt := top 27
abbrev sStepsBy : Stmt := top 55
abbrev sEagerRobots : Stmt := top 56
abbrev sStepped : Stmt := top 57
abbrev sWithOne : Stmt := top 58
abbrev sAllPlays : Stmt := top 59
abbrev sMayGo : Stmt := top 60
abbrev sNextNames : Stmt := top 61
abbrev sAtRest : Stmt := top 63
abbrev sMoves : Stmt := top 66
abbrev sLongestBy : Stmt := top 67
abbrev sWInit : Stmt := inClass (top 7) 0
abbrev sIsBegun : Stmt := top 8
abbrev sBegin : Stmt := top 41
abbrev sPut : Stmt := top 42
abbrev sEyes : Stmt := top 43
abbrev sRefusal : Stmt := top 31
abbrev sCanBe : Stmt := top 32
abbrev sTell : Stmt := top 44
abbrev sUntell : Stmt := top 45
abbrev sMode : Stmt := top 46
abbrev sJump : Stmt := top 47
abbrev sLongestOf : Stmt := top 76
abbrev sAskRing : Stmt := top 77
abbrev sAskRank : Stmt := top 78
abbrev sAskDone : Stmt := top 79
abbrev sAskSure : Stmt := top 80
abbrev sAskLongest : Stmt := top 81
abbrev sAnswers : Stmt := top 108
abbrev sIsChange : Stmt := top 50
abbrev sAnsChange : Stmt := top 51
abbrev sAllApart : Stmt := top 17
abbrev sOwnTurn : Stmt := top 18
abbrev sLeaves : Stmt := top 19
abbrev sOwnMirror : Stmt := top 20
abbrev sRefDone : Stmt := top 33
abbrev sRefMode : Stmt := top 34
abbrev sFolBy : Stmt := top 64
abbrev sRests : Stmt := top 65
abbrev sNotMet : Stmt := top 69
abbrev sFewest : Stmt := top 70
abbrev sFirst : Stmt := top 71
abbrev sWorstOf : Stmt := top 72
abbrev sBadPlay : Stmt := top 73
abbrev sFolOf : Stmt := top 75
abbrev sAskSoonest : Stmt := top 82
abbrev sAskBad : Stmt := top 83
abbrev sAskWorst : Stmt := top 84
abbrev sAskHopeless : Stmt := top 85
abbrev sAskTold : Stmt := top 86
abbrev sIsQuestion : Stmt := top 88
abbrev sAnsQuestion : Stmt := top 89
abbrev sLonNames : Stmt := top 91
abbrev sSureNums : Stmt := top 92
abbrev sRuleWith : Stmt := top 93
abbrev sSvSures : Stmt := top 94
abbrev sSvBegin : Stmt := top 95
abbrev sSvIfAt : Stmt := top 96
abbrev sSvIfTell : Stmt := top 97
abbrev sSvAllAt : Stmt := top 98
abbrev sSvLongest : Stmt := top 99
abbrev sAnsSurvey : Stmt := top 103
abbrev sAnsCall : Stmt := top 107
/-! ### tuples of natural numbers -/
def ni (r : List Nat) : List Int := r.map fun (x : Nat) => (x : Int)
theorem ni_len (r : List Nat) : (ni r).length = r.length := List.length_map _
abbrev tv (r : List Nat) : List V := (ni r).map V.int
theorem tv_len (r : List Nat) : (tv r).length = r.length := by rw [List.length_map, ni_len]
theorem tv_get (r : List Nat) (i : Nat) : (tv r)[i]? = (r[i]?).map fun (x : Nat) => V.int (x : Int) := by
  rw [List.getElem?_map, ni, List.getElem?_map, Option.map_map]
  rfl
theorem tv_app (a b : List Nat) : tv (a ++ b) = tv a ++ tv b := by
  show (ni (a ++ b)).map V.int = (ni a).map V.int ++ (ni b).map V.int
  rw [ni, List.map_append, List.map_append]
  rfl
theorem tv_drop (a : List Nat) (k : Nat) : (tv a).drop k = tv (a.drop k) := by
  show ((ni a).map V.int).drop k = (ni (a.drop k)).map V.int
  rw [ni, ni, List.map_drop, List.map_drop]
theorem tv_take (a : List Nat) (k : Nat) : (tv a).take k = tv (a.take k) := by
  show ((ni a).map V.int).take k = (ni (a.take k)).map V.int
  rw [ni, ni, List.map_take, List.map_take]
/-- at a stands the tuple of r -/
abbrev Tp (_K : PySem.W.Frag) (H : Hp) (a : Addr) (r : List Nat) : Prop := H a = some (.tup (tv r))
theorem same_tup {H H' : Hp} {a : Addr} {o : HO} (e : Same H H') (h : H a = some o) : H' a = some o := e a o h
theorem same_upd {H : Hp} {p : Addr} {o : HO} (n : H p = none) : Same H (upd H p o) := fun b u e => by
  rw [upd_ne fun z => by rw [z, n] at e; cases e]
  exact e
/-- a slice of a tuple, whichever object it is -/
theorem slice_any {K : PySem.W.Frag} {H : Hp} {a : Addr} {xs : List V} {lo hi : Option Int} {R : VK} (h : H a = some (.tup xs)) (k : ∀ H' b, Same H H' → H' b = some (.tup (cutV xs lo hi)) → R (.ref b) H') : rSlA K (.ref a) lo hi H R := by
  refine ⟨a, xs, rfl, SqT.of h, fun w => k H a (Same.refl H) ?_, fun _ p np => k _ p (same_upd np) upd_same⟩
  have e : cutV xs lo hi = xs := by
    unfold cutV
    rw [w.1, w.2, List.drop_zero, Nat.sub_zero, List.take_length]
  rw [e]
  exact h
theorem cat_any {K : PySem.W.Frag} {H : Hp} {a b : Addr} {xs ys : List V} {R : VK} (h1 : H a = some (.tup xs)) (h2 : H b = some (.tup ys)) (hz : xs.length + ys.length ≤ sizeLine) (k : ∀ H' c, Same H H' → H' c = some (.tup (xs ++ ys)) → R (.ref c) H') : rCatA K (.ref a) (.ref b) H R := by
  refine ⟨a, b, xs, ys, rfl, rfl, SqT.of h1, SqT.of h2, hz, fun e => k H b (Same.refl H) ?_, fun _ e => k H a (Same.refl H) ?_, fun _ _ p np => k _ p (same_upd np) upd_same⟩
  · rw [e]; exact h2
  · rw [e, List.append_nil]; exact h1
theorem cut_from {r : List Nat} {p : Nat} (h : p ≤ r.length) : cutV (tv r) (some (p : Int)) none = tv (r.drop p) := by
  unfold cutV
  rw [HT.sIx_nat, HT.sIx_none, tv_len, Nat.min_eq_left h, tv_drop, tv_take]
  congr 2
  rw [List.take_of_length_le]
  rw [List.length_drop]
  exact Nat.le_refl _
theorem cut_to {r : List Nat} {p : Nat} (h : p ≤ r.length) : cutV (tv r) none (some (p : Int)) = tv (r.take p) := by
  unfold cutV
  rw [HT.sIx_nat, HT.sIx_none, tv_len, Nat.min_eq_left h, List.drop_zero, Nat.sub_zero, tv_take]
theorem line_of {n : Nat} (h : n ≤ 1000) : n ≤ sizeLine := Nat.le_of_lt (small1000 h)

/-! ### turned -/
def spTurned (K : PySem.W.Frag) : Sp := fun vs H Q _ => ∃ (a : Addr) (r : List Nat) (p : Nat), vs = [.ref a, .int p] ∧ Tp K H a r ∧ p ≤ r.length ∧ r.length ≤ 1000 ∧
  ∀ H' b, Same H H' → Tp K H' b (Km534.from_ r p) → Q (.ref b) H'
theorem scTurned : FnScope ["ring", "place"] ["ring", "place"] (defScope sTurned) := ⟨rfl, rfl, rfl, by decide +kernel, rfl, by decide +kernel, by decide +kernel⟩
section
variable {P : Program} {w : World} {K : PySem.W.Frag} {mg : Str → Option Value} {base : Heap}
theorem ok_turned {f : Addr} {fd : FuncData} (F : Fun K "turned" "turned" sTurned f fd) : FnOk P w K mg base CX0 1 f fd ["ring", "place"] (spTurned K) := by
  refine F.ok scTurned (fun vs H Q E h => ?_) (fun cdv A outer s H vs Q E hr h => ?_)
  · obtain ⟨a, r, p, rfl, _⟩ := h
    rfl
  obtain ⟨a, r, p, rfl, ht, hp, hl, k⟩ := h
  refine ⟨_, pss_one (ps_ret (pe_op op_catA (pe_slice sl_tupA (pv 0) (po_some (pv 1)) po_none) (pe_slice sl_tupA (pv 0) po_none (po_some (pv 1))))), ?_⟩
  refine ⟨_, rfl, _, rfl, _, rfl, ?_⟩
  dsimp only [tNoPart]
  refine slice_any (K := K) ht fun H1 b1 s1 t1 => ?_
  refine ⟨_, rfl, _, rfl, _, rfl, ?_⟩
  dsimp only
  refine slice_any (K := K) (same_tup s1 ht) fun H2 b2 s2 t2 => ?_
  rw [cut_from hp] at t1
  rw [cut_to hp] at t2
  refine cat_any (K := K) (same_tup s2 t1) t2 ?_ fun H3 c s3 t3 => k H3 c ((s1.trans s2).trans s3) ?_
  · rw [tv_len, tv_len, List.length_drop, List.length_take]
    exact line_of (by omega)
  · rw [← tv_app, ← Gs.from_eq hp] at t3
    exact t3
end
end Gp
namespace Gp
open PySem PySem.Spec PyProof.Rows L2
/-- the built-in names that the program's top leaves alone -/
structure Bt (mg : Str → Option Value) : Prop where
  len : mg "len" = none
  tuple : mg "tuple" = none
  range : mg "range" = none
  min : mg "min" = none
  max : mg "max" = none
  sum : mg "sum" = none
  sorted : mg "sorted" = none
  set : mg "set" = none
  list : mg "list" = none
  enumerate : mg "enumerate" = none
  all : mg "all" = none
  any : mg "any" = none
/-- heaps that differ at D alone -/
def But (D : Addr) (H H' : Hp) : Prop := ∀ b o, b ≠ D → H b = some o → H' b = some o
theorem But.tup {D : Addr} {H H' : Hp} (e : But D H H') {ys : List V} (hD : H D = some (.lst ys)) {a : Addr} {xs : List V} (h : H a = some (.tup xs)) : H' a = some (.tup xs) :=
  e _ _ (fun z => by rw [z, hD] at h; cases h) h
/-- A COMPREHENSION, whatever it walks: Gd tells of the items made so far -/
theorem comp_it {J : It} {n : Nat} {G : Hp → Prop} {Y : Nat → Hp → V → Hp → Prop} (w : Walk J n G Y) {g : TG} {tt : TT} {te : TE} {vs : List Nat} {σ : L2.St} {H1 : Hp} {D : Addr} {Qd : Hp → Prop} (nD : H1 D = none) (hn : n < sizeLine) (Gd : Nat → List V → Hp → Prop)
    (hG : ∀ H, Same H1 H → G H) (g0 : Gd 0 [] (upd H1 D (.lst [])))
    (st : ∀ i ys zs H H', H D = some (.lst zs) → But D H H' → Gd i ys H → Gd i ys H')
    (hs : ∀ i x ys H H', i < n → Same H1 H → H D = some (.lst ys) → Gd i ys H → Y i H x H' → ∀ (R : V → Hp → Prop) (R' : Hp → Prop), (∀ y H4, Same H H4 → Gd (i + 1) (ys ++ [y]) H4 → R y H4) → (∀ H3, Same H H3 → Gd (i + 1) ys H3 → R' H3) →
      g x (wipe σ vs) H' fun σ2 H2 => wipe σ2 vs = wipe σ vs ∧ tt σ2 H2 fun b H3 => if b = true then te σ2 H3 R else R' H3)
    (hd : ∀ ys H, Same H1 H → H D = some (.lst ys) → ys.length ≤ n → Gd n ys H → Qd H) :
    ∃ W : Nat → Nat → Hp → Prop, (∃ m, W 0 m (upd H1 D (.lst []))) ∧ ∀ i m H, W i m H →
      (J.stop i H ∧ Qd H) ∨ (J.go i H ∧ ∃ Nx : Hp → Prop, (∀ H', Nx H' → ∃ m', m' < m ∧ W (i + 1) m' H') ∧ ∀ x H', J.yld i H x H' → g x (wipe σ vs) H' fun σ2 H2 => wipe σ2 vs = wipe σ vs ∧ tt σ2 H2 fun b H3 =>
        if b = true then te σ2 H3 fun y H4 => ∃ acc, H4 D = some (.lst acc) ∧ acc.length < sizeLine ∧ Nx (upd H4 D (.lst (acc ++ [y]))) else Nx H3) := by
  refine lc_it w (fun i H => Same H1 H ∧ ∃ ys, H D = some (.lst ys) ∧ ys.length ≤ i ∧ Gd i ys H) ⟨same_upd nD, [], upd_same, Nat.le_refl _, g0⟩ (fun i H _ p => hG H p.1) (fun i x H H' hi p y => ?_) fun H p => ?_
  · obtain ⟨s1, ys, hD, hl, gd⟩ := p
    refine hs i x ys H H' hi s1 hD gd y _ _ (fun y H4 s4 g4 => ⟨ys, s4 D _ hD, by omega, ?_, ys ++ [y], upd_same, by rw [List.length_append]; exact Nat.succ_le_succ hl, ?_⟩) fun H3 s3 g3 => ⟨s1.trans s3, ys, s3 D _ hD, Nat.le_succ_of_le hl, g3⟩
    · intro b o e
      have ne : b ≠ D := fun z => by rw [z, nD] at e; cases e
      rw [upd_ne ne]
      exact s4 b o (s1 b o e)
    · refine st (i + 1) (ys ++ [y]) ys H4 _ (s4 D _ hD) (fun b o hb e => ?_) g4
      rw [upd_ne hb]
      exact e
  · obtain ⟨s1, ys, hD, hl, gd⟩ := p
    exact hd ys H s1 hD hl gd

/-! ### mirrored -/
def spMirrored (K : PySem.W.Frag) : Sp := fun vs H Q _ => ∃ (a : Addr) (r : List Nat) (p : Nat), vs = [.ref a, .int p] ∧ Tp K H a r ∧ p < r.length ∧ r.length ≤ 1000 ∧
  ∀ H' b, Same H H' → Tp K H' b (Km534.back r p) → Q (.ref b) H'
theorem scMirrored : FnScope ["ring", "place", "places", "step"] ["ring", "place"] (defScope sMirrored) := ⟨rfl, rfl, rfl, by decide +kernel, rfl, by decide +kernel, by decide +kernel⟩
theorem mod_at {n p i : Nat} (hi : i < n) : Int.fmod ((p : Int) - (0 + (i : Int))) (n : Int) = (((p + (n - i)) % n : Nat) : Int) := by
  rw [Int.fmod_eq_emod_of_nonneg _ (by omega), Int.natCast_emod]
  have e : (p : Int) - (0 + (i : Int)) + (n : Int) = ((p + (n - i) : Nat) : Int) := by omega
  rw [← e, Int.add_emod_right]
section
variable {P : Program} {w : World} {K : PySem.W.Frag} {mg : Str → Option Value} {base : Heap}
theorem ok_mirrored {f : Addr} {fd : FuncData} (B : Bt mg) (F : Fun K "mirrored" "mirrored" sMirrored f fd) : FnOk P w K mg base CX0 1 f fd ["ring", "place"] (spMirrored K) := by
  refine F.ok scMirrored (fun vs H Q E h => ?_) (fun cdv A outer s H vs Q E hr h => ?_)
  · obtain ⟨a, r, p, rfl, _⟩ := h
    rfl
  obtain ⟨a, r, p, rfl, ht, hp, hl, k⟩ := h
  refine ⟨_, pss_cons (ps_set (i := 2) scMirrored.nd rfl (Or.inr rfl) (pe_callB call_len_seq (by rfl) B.len PySem.boot_len (pa_cons (pv 0) pa_nil)))
    (pss_one (ps_ret (pe_callTy call_tuple_of (by rfl) B.tuple (by decide +kernel) (pa_cons (pe_lc (own := [("step", 3)]) (g := gName 3) (tt := tYes) rfl scMirrored.nd (pi_range1 rfl B.range (pa_cons (pv 2) pa_nil)) (blkOk_by (own := [("step", 3)]) (N := ["ring", "place", "places", "step"]) (sc := defScope sMirrored) (by decide +kernel))
      (fun _ _ _ _ _ => pg_name (i := 3) scMirrored.nd rfl (Or.inl rfl)) (fun _ _ _ _ _ => pts_nil) (fun _ _ _ _ _ => pe_ix (r := rIxT K) ix_tup (pv 0) (pe_op op_modN (pe_op op_sub (pv 1) (pv 3)) (pv 2)) (fun _ _ => rfl))) pa_nil)))), ?_⟩
  refine ⟨_, rfl, a, _, rfl, .inr (SqT.of ht), ?_⟩
  rw [tv_len]
  refine ⟨_, rfl, (r.length : Int), rfl, by omega, by omega, fun D nD => ?_⟩
  rw [Int.toNat_natCast]
  refine comp_it (walk_range (lo := 0) (n := r.length)) nD (Nat.lt_of_le_of_lt hl (by decide)) (fun i ys _ => ys = tv ((Km534.back r p).take i)) (fun _ _ => trivial) rfl (fun _ _ _ _ _ _ _ z => z) (fun i x ys H1 H2 hi s1 hD g y R R' done _ => ?_) fun ys H1 s1 hD hy g => ?_
  · obtain ⟨rfl, rfl⟩ := y
    have hlt : (p + (r.length - i)) % r.length < r.length := Nat.mod_lt _ (by omega)
    refine ⟨rfl, _, rfl, _, rfl, _, rfl, _, _, rfl, rfl, _, rfl, _, _, rfl, rfl, (by omega), a, tv r, _, V.int ((r.getD ((p + (r.length - i)) % r.length) 0 : Nat) : Int), rfl, rfl, SqT.of (same_tup s1 ht), ?_, ?_⟩
    · rw [mod_at hi]
      refine atI_nat ?_
      rw [tv_get, List.getElem?_eq_getElem hlt, List.getD_eq_getElem?_getD, List.getElem?_eq_getElem hlt]
      rfl
    · refine done _ _ (Same.refl _) ?_
      have e : (Km534.back r p)[i]? = some (r.getD ((p + (r.length - i)) % r.length) 0) := by
        unfold Km534.back
        rw [List.getElem?_map, List.getElem?_range hi]
        rfl
      rw [g, GsR.took e, tv_app]
      rfl
  · refine ⟨D, ys, rfl, .inl ⟨SqL.of hD, fun l nl => k _ l (s1.trans (same_upd nl)) ?_⟩⟩
    show (upd _ _ _) _ = _
    rw [upd_same, g, List.take_of_length_le (by rw [Gs.len_back]; exact Nat.le_refl _)]
end
end Gp
namespace Gp
open PySem PySem.Spec PyProof.Rows L2
/-- a def of the program that is called by its name, k rooms below -/
structure Def (P : Program) (w : World) (K : PySem.W.Frag) (mg : Str → Option Value) (base : Heap) (k : Nat) (x : Str) (sp : Sp) : Prop where
  ex : ∃ (f : Addr) (fd : FuncData) (ps : List Str), FnOk P w K mg base CX0 k f fd ps sp ∧ mg x = some (.ref f) ∧ PySem.W.keepIn K (.ref f) = true ∧ Binds K fd ps []
theorem pe_def {X : Cx} {k j : Nat} {x : Str} {sp : Sp} {p pos : Pos} {e : Expr} {es : List Expr} {t : TA} (c : Def X.prog X.w X.K X.mg X.base k x sp) (hr : Room j X.A) (hk : k ≤ j) (hg : Gl X x) (ha : PA X (e :: es) t) (hdb : (x == ("__debug__" : Str)) = false := by decide)
    (he : starEach (e :: es) X.env = (false, eval e X.env) :: starEach es X.env := by rfl) (hpl : (backTo pos (starEach es X.env)).any (·.1) = false := by rfl) : PE X (.Call (.Name x p) (e :: es) [] pos) (tCall sp [] E0 t) := by
  obtain ⟨f, fd, ps, F, hm, kp, b⟩ := c.ex
  exact pe_call F (hr.mono hk) hg hm kp b .nil pass0 ha hdb he hpl
/-- rows at addresses -/
abbrev Row := Addr × List Nat
abbrev refs (L : List Row) : List V := L.map fun m => V.ref m.1
def Rws (K : PySem.W.Frag) (H : Hp) (L : List Row) : Prop := ∀ m ∈ L, Tp K H m.1 m.2
theorem Rws.same {K : PySem.W.Frag} {H H' : Hp} {L : List Row} (h : Rws K H L) (e : Same H H') : Rws K H' L := fun m hm => same_tup e (h m hm)
theorem Rws.but {K : PySem.W.Frag} {H H' : Hp} {L : List Row} {D : Addr} {ys : List V} (h : Rws K H L) (hD : H D = some (.lst ys)) (e : But D H H') : Rws K H' L := fun m hm => e.tup hD (h m hm)
theorem Rws.snoc {K : PySem.W.Frag} {H : Hp} {L : List Row} (h : Rws K H L) {a : Addr} {r : List Nat} (t : Tp K H a r) : Rws K H (L ++ [(a, r)]) := fun m hm => by
  rcases List.mem_append.mp hm with z | z
  · exact h m z
  · rw [List.mem_singleton.mp z]; exact t
theorem Rws.app {K : PySem.W.Frag} {H : Hp} {L M : List Row} (h : Rws K H L) (h' : Rws K H M) : Rws K H (L ++ M) := fun m hm => by
  rcases List.mem_append.mp hm with z | z
  · exact h m z
  · exact h' m z
theorem refs_snoc (L : List Row) (b : Addr) (r : List Nat) : refs L ++ [V.ref b] = refs (L ++ [(b, r)]) := by
  show _ = (L ++ [(b, r)]).map fun m => V.ref m.1
  rw [List.map_append]
  rfl
theorem lex_less : ∀ {a b : List Nat}, a.length = b.length → HT.lexLt (ni a) (ni b) = Km534.less a b
  | [], [], _ => rfl
  | [], _ :: _, h => by simp at h
  | _ :: _, [], h => by simp at h
  | x :: a, y :: b, h => by
    show HT.lexLt ((x : Int) :: ni a) ((y : Int) :: ni b) = (decide (x < y) || (x == y && Km534.less a b))
    rw [HT.lexLt_cons, lex_less (by simpa using h)]
    by_cases c : x = y
    · subst c
      simp
    · rw [if_neg (by omega)]
      have e : (x == y) = false := by simpa using c
      rw [e, Bool.false_and, Bool.or_false]
      by_cases d : x < y
      · rw [decide_eq_true d, decide_eq_true (by omega)]
      · rw [decide_eq_false d, decide_eq_false (by omega)]
theorem range_more (f : Nat → List Nat) (i : Nat) : (List.range (i + 1)).map f = (List.range i).map f ++ [f i] := by
  rw [List.range_succ, List.map_append]
  rfl

/-! ### name_of -/
def spNameOf (K : PySem.W.Frag) : Sp := fun vs H Q _ => ∃ (a : Addr) (r : List Nat), vs = [.ref a] ∧ Tp K H a r ∧ 0 < r.length ∧ r.length ≤ 100 ∧
  ∀ H' b, Same H H' → Tp K H' b (Km534.name r) → Q (.ref b) H'
theorem scNameOf : FnScope ["ring", "turnings", "mirrorings", "place"] ["ring"] (defScope sNameOf) := ⟨rfl, rfl, rfl, by decide +kernel, rfl, by decide +kernel, by decide +kernel⟩
section
variable {P : Program} {w : World} {K : PySem.W.Frag} {mg : Str → Option Value} {base : Heap}
theorem ok_name_of {f : Addr} {fd : FuncData} (B : Bt mg) (F : Fun K "name_of" "name_of" sNameOf f fd) (dT : Def P w K mg base 1 "turned" (spTurned K)) (dM : Def P w K mg base 1 "mirrored" (spMirrored K)) : FnOk P w K mg base CX0 2 f fd ["ring"] (spNameOf K) := by
  refine F.ok scNameOf (fun vs H Q E h => ?_) (fun cdv A outer s H vs Q E hr h => ?_)
  · obtain ⟨a, r, rfl, _⟩ := h
    rfl
  obtain ⟨a, r, rfl, ht, h0, hl, k⟩ := h
  refine ⟨_, pss_cons (ps_setLc (i := 1) (own := [("place", 3)]) (g := gName 3) (tt := tYes) (te := tCall (spTurned K) [] E0 (tCons (tVar 0) (tCons (tVar 3) tNil))) rfl scNameOf.nd rfl rfl (sw_true rfl rfl rfl (by decide +kernel)) (pi_range1 rfl B.range (pa_cons (pe_callB call_len_seq (by rfl) B.len PySem.boot_len (pa_cons (pv 0) pa_nil)) pa_nil))
      (blkOk_by (own := [("place", 3)]) (N := ["ring", "turnings", "mirrorings", "place"]) (sc := defScope sNameOf) (by decide +kernel)) (fun _ _ _ _ _ => pg_name (i := 3) scNameOf.nd rfl (Or.inl rfl)) (fun _ _ _ _ _ => pts_nil) (fun _ _ _ _ _ => pe_def dT hr (by decide) (by rfl) (pa_cons (pv 0) (pa_cons (pv 3) pa_nil))))
    (pss_cons (ps_setLc (i := 2) (own := [("place", 3)]) (g := gName 3) (tt := tYes) (te := tCall (spMirrored K) [] E0 (tCons (tVar 0) (tCons (tVar 3) tNil))) rfl scNameOf.nd rfl rfl (sw_true rfl rfl rfl (by decide +kernel)) (pi_range1 rfl B.range (pa_cons (pe_callB call_len_seq (by rfl) B.len PySem.boot_len (pa_cons (pv 0) pa_nil)) pa_nil))
      (blkOk_by (own := [("place", 3)]) (N := ["ring", "turnings", "mirrorings", "place"]) (sc := defScope sNameOf) (by decide +kernel)) (fun _ _ _ _ _ => pg_name (i := 3) scNameOf.nd rfl (Or.inl rfl)) (fun _ _ _ _ _ => pts_nil) (fun _ _ _ _ _ => pe_def dM hr (by decide) (by rfl) (pa_cons (pv 0) (pa_cons (pv 3) pa_nil))))
    (pss_one (ps_ret (pe_callB (GsR.cr_minT rfl hr.units) (by rfl) B.min (by decide +kernel) (pa_cons (pe_op op_cat (pv 1) (pv 2)) pa_nil))))), ?_⟩
  refine ⟨_, rfl, a, _, rfl, .inr (SqT.of ht), ?_⟩
  rw [tv_len]
  refine ⟨(r.length : Int), rfl, by omega, by omega, fun D nD => ?_⟩
  rw [Int.toNat_natCast]
  refine comp_it (walk_range (lo := 0) (n := r.length)) nD (Nat.lt_of_le_of_lt hl (by decide)) (fun i ys H => ∃ L, ys = refs L ∧ L.map (·.2) = (List.range i).map (Km534.from_ r) ∧ Rws K H L) (fun _ _ => trivial) ⟨[], rfl, rfl, fun m hm => (by cases hm)⟩
    (fun i ys zs H1 H2 hD e => fun ⟨L, e1, e2, e3⟩ => ⟨L, e1, e2, e3.but hD e⟩) (fun i x ys H1 H2 hi s1 hD g y R R' done _ => ?_) fun ys H1 s1 hD hy g => ?_
  · obtain ⟨rfl, rfl⟩ := y
    obtain ⟨L, rfl, e2, e3⟩ := g
    refine ⟨rfl, _, rfl, _, rfl, a, r, i, ?_, same_tup s1 ht, by omega, by omega, fun H3 b s3 t3 => done _ _ s3 ⟨L ++ [(b, Km534.from_ r i)], ?_, ?_, (e3.same s3).snoc t3⟩⟩
    · show [V.ref a, V.int (0 + (i : Int))] = _
      rw [Int.zero_add]
    · exact refs_snoc L b _
    · rw [List.map_append, e2, range_more]; rfl
  obtain ⟨L, rfl, e2, e3⟩ := g
  -- the mirrorings
  refine ⟨_, rfl, a, _, rfl, .inr (SqT.of (same_tup s1 ht)), ?_⟩
  rw [tv_len]
  refine ⟨(r.length : Int), rfl, by omega, by omega, fun D2 nD2 => ?_⟩
  rw [Int.toNat_natCast]
  refine comp_it (walk_range (lo := 0) (n := r.length)) nD2 (Nat.lt_of_le_of_lt hl (by decide)) (fun i ys H => ∃ L, ys = refs L ∧ L.map (·.2) = (List.range i).map (Km534.back r) ∧ Rws K H L) (fun _ _ => trivial) ⟨[], rfl, rfl, fun m hm => (by cases hm)⟩
    (fun i ys zs H1 H2 hD e => fun ⟨L, e1, e2, e3⟩ => ⟨L, e1, e2, e3.but hD e⟩) (fun i x ys H3 H2 hi s3 hD3 g y R R' done _ => ?_) fun ys H3 s3 hD3 hy3 g => ?_
  · obtain ⟨rfl, rfl⟩ := y
    obtain ⟨M, rfl, f2, f3⟩ := g
    refine ⟨rfl, _, rfl, _, rfl, a, r, i, ?_, same_tup s3 (same_tup s1 ht), by omega, by omega, fun H4 b s4 t4 => done _ _ s4 ⟨M ++ [(b, Km534.back r i)], ?_, ?_, (f3.same s4).snoc t4⟩⟩
    · show [V.ref a, V.int (0 + (i : Int))] = _
      rw [Int.zero_add]
    · exact refs_snoc M b _
    · rw [List.map_append, f2, range_more]; rfl
  obtain ⟨M, rfl, f2, f3⟩ := g
  have lenL : L.length = r.length := by
    have := congrArg List.length e2
    simpa using this
  have lenM : M.length = r.length := by
    have := congrArg List.length f2
    simpa using this
  refine ⟨_, rfl, _, rfl, D, D2, _, _, rfl, rfl, s3 D _ hD, hD3, ?_, fun p np => ?_⟩
  · rw [List.length_map, List.length_map, lenL, lenM]
    exact line_of (by omega)
  have rows : (L ++ M).map (·.2) = Km534.rows r := by
    rw [List.map_append, e2, f2]
    rfl
  refine ⟨p, (L ++ M).map fun m => (m.1, ni m.2), rfl, SqL.of ?_, fun m hm => ?_, ?_, fun m hm best => ?_⟩
  · rw [upd_same, List.map_map, refs, refs, ← List.map_append]
    rfl
  · obtain ⟨q, hq, rfl⟩ := List.mem_map.mp hm
    exact SqT.of (same_tup (same_upd np) (((e3.same s3).app f3) q hq))
  · rw [List.length_map, List.length_append, lenL]
    omega
  · obtain ⟨q, hq, rfl⟩ := List.mem_map.mp hm
    have hq2 : q.2 ∈ Km534.rows r := by rw [← rows]; exact List.mem_map.mpr ⟨q, hq, rfl⟩
    have e : q.2 = Km534.name r := Gs.name_uniq h0 hq2 fun x hx => by
      rw [← rows] at hx
      obtain ⟨z, hz, rfl⟩ := List.mem_map.mp hx
      have hz2 : z.2 ∈ Km534.rows r := by rw [← rows]; exact List.mem_map.mpr ⟨z, hz, rfl⟩
      have := best (z.1, ni z.2) (List.mem_map.mpr ⟨z, hz, rfl⟩)
      rw [← lex_less (by rw [Gs.len_rows hz2, Gs.len_rows hq2])]
      exact this
    refine k _ q.1 ((s1.trans s3).trans (same_upd np)) ?_
    rw [← e]
    exact same_tup (same_upd np) (((e3.same s3).app f3) q hq)
end
end Gp
namespace Gp
open PySem PySem.Spec PyProof.Rows L2
/-! ### all_rings: the mathematics -/
/-- one place more -/
def ext1 (k : Nat) (r : List Nat) : List (List Nat) := (List.range (k - r.sum + 1)).map fun h => r ++ [h]
def begun (k : Nat) : Nat → List (List Nat)
  | 0 => [[]]
  | i + 1 => (begun k i).flatMap (ext1 k)
theorem mem_begun (k : Nat) : ∀ (i : Nat) (r : List Nat), r ∈ begun k i ↔ r.length = i ∧ r.sum ≤ k
  | 0, r => by
    show r ∈ [[]] ↔ _
    rw [List.mem_singleton]
    constructor
    · rintro rfl; exact ⟨rfl, Nat.zero_le _⟩
    · rintro ⟨h, _⟩; exact List.length_eq_zero_iff.mp h
  | i + 1, r => by
    show r ∈ (begun k i).flatMap (ext1 k) ↔ _
    rw [List.mem_flatMap]
    constructor
    · rintro ⟨q, hq, hr⟩
      obtain ⟨h1, h2⟩ := (mem_begun k i q).mp hq
      obtain ⟨h, hh, rfl⟩ := List.mem_map.mp hr
      have := List.mem_range.mp hh
      rw [List.length_append, List.sum_append]
      simp
      omega
    · rintro ⟨h1, h2⟩
      have ne : r ≠ [] := fun z => by rw [z] at h1; simp at h1
      have e := List.dropLast_concat_getLast ne
      have hs : r.dropLast.sum + r.getLast ne = r.sum := by
        have := congrArg List.sum e
        rw [List.sum_append] at this
        simpa using this
      refine ⟨r.dropLast, (mem_begun k i _).mpr ⟨by rw [List.length_dropLast]; omega, by omega⟩, List.mem_map.mpr ⟨r.getLast ne, List.mem_range.mpr (by omega), e⟩⟩
theorem len_ext1 (k : Nat) (r : List Nat) : (ext1 k r).length ≤ k + 1 := by
  rw [ext1, List.length_map, List.length_range]
  omega
theorem len_flat (k : Nat) : ∀ l : List (List Nat), (l.flatMap (ext1 k)).length ≤ (k + 1) * l.length
  | [] => Nat.zero_le _
  | r :: l => by
    rw [List.flatMap_cons, List.length_append, List.length_cons, Nat.mul_succ]
    have := len_flat k l
    have := len_ext1 k r
    omega
theorem len_begun {k : Nat} (hk : k ≤ 4) : ∀ i, (begun k i).length ≤ 5 ^ i
  | 0 => Nat.le_refl _
  | i + 1 => by
    have h1 := len_flat k (begun k i)
    have h2 := len_begun hk i
    have h3 : (k + 1) * (begun k i).length ≤ 5 * 5 ^ i := Nat.mul_le_mul (by omega) h2
    show ((begun k i).flatMap (ext1 k)).length ≤ 5 ^ (i + 1)
    rw [Nat.pow_succ, Nat.mul_comm]
    omega
theorem ni_sum (r : List Nat) : (ni r).sum = ((r.sum : Nat) : Int) := by
  induction r with
  | nil => rfl
  | cons x r ih =>
    show (x : Int) + (ni r).sum = ((x + r.sum : Nat) : Int)
    rw [ih]
    omega
theorem take_flat {α β : Type} (f : α → List β) {l : List α} {i : Nat} {x : α} (h : l[i]? = some x) : (l.take (i + 1)).flatMap f = (l.take i).flatMap f ++ f x := by
  rw [GsR.took h, List.flatMap_append]
  simp

theorem iteDT {c A B : Prop} [Decidable c] (hc : c) (h : A) : if decide c = true then A else B := by
  rw [if_pos (decide_eq_true hc)]
  exact h
theorem iteDF {c A B : Prop} [Decidable c] (hc : ¬ c) (h : B) : if decide c = true then A else B := by
  rw [if_neg (by simpa using hc)]
  exact h
/-! ### all_rings -/
def spAllRings (K : PySem.W.Frag) : Sp := fun vs H Q _ => ∃ (n k : Nat), vs = [.int n, .int k] ∧ n ≤ 7 ∧ k ≤ 4 ∧
  ∀ H' p (N : List Row), Same H H' → H' p = some (.lst (refs N)) → Rws K H' N → (∀ r, r ∈ N.map (·.2) ↔ r.length = n ∧ r.sum = k) → N.length ≤ 100000 → Q (.ref p) H'
abbrev nAllRings : List Str := ["places", "robots", "begun", "place", "longer", "ring", "left", "here"]
theorem scAllRings : FnScope nAllRings ["places", "robots"] (defScope sAllRings) := ⟨rfl, rfl, rfl, by decide +kernel, rfl, by decide +kernel, by decide +kernel⟩
section
variable {P : Program} {w : World} {K : PySem.W.Frag} {mg : Str → Option Value} {base : Heap}
theorem ok_all_rings {f : Addr} {fd : FuncData} (B : Bt mg) (F : Fun K "all_rings" "all_rings" sAllRings f fd) : FnOk P w K mg base CX0 1 f fd ["places", "robots"] (spAllRings K) := by
  refine F.ok scAllRings (fun vs H Q E h => ?_) (fun cdv A outer s H vs Q E hr h => ?_)
  · obtain ⟨n, k, rfl, _⟩ := h
    rfl
  obtain ⟨n, k, rfl, hn, hk, q⟩ := h
  refine ⟨_, pss_cons (ps_set (i := 2) scAllRings.nd rfl (Or.inl rfl) (pe_lst (pa_cons (pe_tup pa_nil) pa_nil)))
    (pss_cons (ps_for PassesOwn.never rfl (pi_range1 rfl B.range (pa_cons (pv 0) pa_nil)) (pg_name (i := 3) scAllRings.nd rfl (Or.inl rfl))
      (pss_cons (ps_set (i := 4) scAllRings.nd rfl (Or.inl rfl) (pe_lst pa_nil))
      (pss_cons (ps_for PassesOwn.never rfl (pi_list (pv 2)) (pg_name (i := 5) scAllRings.nd rfl (Or.inr rfl))
        (pss_cons (ps_set (i := 6) scAllRings.nd rfl (Or.inl rfl) (pe_op op_sub (pv 1) (pe_callB (GsR.cr_sumT rfl) (by rfl) B.sum (by decide +kernel) (pa_cons (pv 5) pa_nil))))
        (pss_one (ps_expr (pe_bm PySem.F.plainAttrs_list PySem.F.slot_list_extend PySem.F.type_list_extend mt_extend (pv 4) (pa_cons
          (pe_lc (own := [("here", 7)]) (g := gName 7) (tt := tYes) (te := tOp (rCatA K) (tVar 5) (tTup (tCons (tVar 7) tNil))) rfl scAllRings.nd (pi_range1 rfl B.range (pa_cons (pe_op op_add (pv 6) pe_int) pa_nil)) (blkOk_by (own := [("here", 7)]) (N := nAllRings) (sc := defScope sAllRings) (by decide +kernel))
            (fun _ _ _ _ _ => pg_name (i := 7) scAllRings.nd rfl (Or.inl rfl)) (fun _ _ _ _ _ => pts_nil) (fun _ _ _ _ _ => pe_op op_catA (pv 5) (pe_tup (pa_cons (pv 7) pa_nil)))) pa_nil))))))
      (pss_one (ps_set (i := 2) scAllRings.nd rfl (Or.inl rfl) (pv 4))))))
    (pss_one (ps_ret (pe_lc (own := [("ring", 5)]) (g := gName 5) (tt := tTest (tOp rEq (tCB (GsR.rSumT K) (tCons (tVar 5) tNil)) (tVar 1))) (te := tVar 5) rfl scAllRings.nd (pi_list (pv 2)) (blkOk_by (own := [("ring", 5)]) (N := nAllRings) (sc := defScope sAllRings) (by decide +kernel))
      (fun _ _ _ _ _ => pg_name (i := 5) scAllRings.nd rfl (Or.inl rfl)) (fun _ _ _ _ _ => pts_one (pt_cmpR op_eq (pe_callB (r := GsR.rSumT K) (GsR.cr_sumT rfl) (by rfl) B.sum (by decide +kernel) (pa_cons (pv 5) pa_nil)) (pv 1) (nomark _))) (fun _ _ _ _ _ => pv 5))))), ?_⟩
  -- begun = [()]
  refine ⟨(by show 0 ≤ sizeLine; decide), fun t0 nt0 => ?_⟩
  refine ⟨(by show 1 ≤ sizeLine; decide), fun b0 nb0 => ?_⟩
  refine ⟨_, rfl, (n : Int), rfl, by omega, by omega, ?_⟩
  rw [Int.toNat_natCast]
  refine for_it (walk_range (lo := 0) (n := n)) (fun i σ H1 => ∃ (b : Addr) (L : List Row) (v3 v4 v5 v6 : Option V), σ = [some (.int n), some (.int k), some (.ref b), v3, v4, v5, v6, none] ∧ Same H H1 ∧ H1 b = some (.lst (refs L)) ∧ L.map (·.2) = begun k i ∧ Rws K H1 L)
    ⟨b0, [(t0, [])], none, none, none, none, rfl, (same_upd nt0).trans (same_upd nb0), upd_same, rfl, ?_⟩ (fun _ _ _ _ _ => trivial) ?_ ?_
  · intro m hm
    rw [List.mem_singleton.mp hm]
    show (upd _ _ _) _ = _
    rw [upd_ne]
    · exact upd_same
    · rintro rfl
      rw [upd_same] at nb0
      cases nb0
  · -- a place
    rintro i x σ H0 H1 hi ⟨b, L, v3, v4, v5, v6, rfl, s1, hb, eL, rL⟩ ⟨rfl, rfl⟩
    refine ⟨(by show 0 ≤ sizeLine; decide), fun l nl => ?_⟩
    have lb : b ≠ l := fun z => by rw [← z, hb] at nl; cases nl
    refine ⟨_, rfl, b, rfl, ⟨_, SqL.of ((upd_ne lb).trans hb)⟩, ?_⟩
    have lenL : L.length = (begun k i).length := by rw [← eL, List.length_map]
    have big : (begun k i).length ≤ 78125 := Nat.le_trans (len_begun hk i) (Nat.le_trans (Nat.pow_le_pow_right (by decide) (show i ≤ 7 by omega)) (by decide))
    refine for_it (walk_list (K := K) (a := b) (xs := refs L)) (fun j σ H2 => ∃ (M : List Row) (v5 v6 : Option V), σ = [some (.int n), some (.int k), some (.ref b), some (.int (0 + (i : Int))), some (.ref l), v5, v6, none] ∧ Same H1 H2 ∧ H2 l = some (.lst (refs M)) ∧ M.map (·.2) = ((begun k i).take j).flatMap (ext1 k) ∧ Rws K H2 M)
      ⟨[], v5, v6, rfl, same_upd nl, upd_same, rfl, fun m hm => (by cases hm)⟩ (fun j σ H2 _ => fun ⟨M, _, _, _, s2, _⟩ => SqL.of (s2 b _ hb)) ?_ ?_
    · -- a ring of those begun
      rintro j x σ H2 H2' hj ⟨M, v5, v6, rfl, s2, hl, eM, rM⟩ ⟨rfl, hx⟩
      obtain ⟨m, em, rfl⟩ : ∃ m, L[j]? = some m ∧ x = V.ref m.1 := by
        rw [List.getElem?_map] at hx
        obtain ⟨m, e1, e2⟩ := Option.map_eq_some_iff.mp hx
        exact ⟨m, e1, e2.symm⟩
      have mL : m ∈ L := List.mem_of_getElem? em
      have mB : (begun k i)[j]? = some m.2 := by rw [← eL, List.getElem?_map, em]; rfl
      obtain ⟨ml, ms⟩ := (mem_begun k i m.2).mp (List.mem_of_getElem? mB)
      have tm : Tp K H2' m.1 m.2 := same_tup s2 (rL m mL)
      have lenM : M.length ≤ 5 * 78125 := by
        have e1 := congrArg List.length eM
        rw [List.length_map] at e1
        have e2 := len_flat k ((begun k i).take j)
        have e3 : (k + 1) * ((begun k i).take j).length ≤ 5 * 78125 := Nat.mul_le_mul (by omega) (by rw [List.length_take]; omega)
        omega
      refine ⟨_, rfl, _, rfl, m.1, ni m.2, rfl, SqT.of tm, _, _, rfl, rfl, ?_⟩
      refine ⟨_, rfl, .inl ⟨rfl, _, SqL.of hl⟩, ?_⟩
      have en : (k : Int) - (ni m.2).sum + 1 = ((k - m.2.sum + 1 : Nat) : Int) := by rw [ni_sum]; omega
      refine ⟨_, rfl, _, _, rfl, rfl, ((k - m.2.sum + 1 : Nat) : Int), (by rw [← en]), by omega, by omega, fun D nD => ?_⟩
      rw [Int.toNat_natCast]
      refine comp_it (walk_range (lo := 0) (n := k - m.2.sum + 1)) nD (by rw [sizeLine_eq]; omega) (fun c ys H3 => ∃ N, ys = refs N ∧ N.map (·.2) = (List.range c).map (fun h => m.2 ++ [h]) ∧ Rws K H3 N) (fun _ _ => trivial) ⟨[], rfl, rfl, fun m hm => (by cases hm)⟩
        (fun c ys zs H3 H4 hD e => fun ⟨N, e1, e2, e3⟩ => ⟨N, e1, e2, e3.but hD e⟩) (fun c x ys H3 H4 hc s3 hD g y R R' done _ => ?_) fun ys H3 s3 hD hy g => ?_
      · obtain ⟨rfl, rfl⟩ := y
        obtain ⟨N, rfl, e2, e3⟩ := g
        refine ⟨rfl, _, rfl, _, rfl, (by show 1 ≤ sizeLine; decide), fun t nt => ?_⟩
        have tt : (upd H4 t (.tup [V.int (0 + (c : Int))])) t = some (.tup (tv [c])) := by
          refine upd_same.trans ?_
          show some (HO.tup [V.int (0 + (c : Int))]) = some (HO.tup [V.int (c : Int)])
          rw [Int.zero_add]
        refine cat_any (K := K) (same_tup (same_upd nt) (same_tup s3 tm)) tt ?_ fun H5 u s5 t5 => ?_
        · rw [tv_len, tv_len, ml]
          exact line_of (by simp; omega)
        · rw [← tv_app] at t5
          exact done _ _ ((same_upd nt).trans s5) ⟨N ++ [(u, m.2 ++ [c])], refs_snoc N u _, by rw [List.map_append, e2, range_more]; rfl, ((e3.same (same_upd nt)).same s5).snoc t5⟩
      · obtain ⟨N, rfl, e2, e3⟩ := g
        have eN : N.map (·.2) = ext1 k m.2 := e2
        have lenN : N.length ≤ 5 := by
          have e1 := congrArg List.length eN
          have := len_ext1 k m.2
          rw [List.length_map] at e1
          omega
        have lD : l ≠ D := fun z => by rw [← z, hl] at nD; cases nD
        refine ⟨l, D, _, _, rfl, rfl, s3 l _ hl, hD, ?_, ?_⟩
        · rw [List.length_map, List.length_map, sizeLine_eq]
          omega
        · have but : But l H3 (upd H3 l (.lst (refs M ++ refs N))) := fun b o hb e => (upd_ne hb).trans e
          refine ⟨M ++ N, some (.ref m.1), some (.int ((k : Int) - (ni m.2).sum)), rfl, fun b o e => ?_, ?_, ?_, ?_⟩
          · have nb : b ≠ l := fun z => by rw [z, nl] at e; cases e
            exact (upd_ne nb).trans (s3 b o (s2 b o e))
          · rw [upd_same, refs, refs, refs, ← List.map_append]
          · rw [List.map_append, eM, eN, take_flat (ext1 k) mB]
          · exact ((rM.same s3).app e3).but (s3 l _ hl) but
    · -- begun = longer
      rintro σ H2 ⟨M, v5, v6, rfl, s2, hl, eM, rM⟩
      refine ⟨_, rfl, l, M, some (.int (0 + (i : Int))), some (.ref l), v5, v6, rfl, s1.trans s2, hl, ?_, rM⟩
      rw [eM, List.length_map, lenL, List.take_length]
      rfl
  · -- the end
    rintro σ H1 ⟨b, L, v3, v4, v5, v6, rfl, s1, hb, eL, rL⟩
    have lenL : L.length ≤ 78125 := by
      have e1 := congrArg List.length eL
      rw [List.length_map] at e1
      rw [e1]
      exact Nat.le_trans (len_begun hk n) (Nat.le_trans (Nat.pow_le_pow_right (by decide) hn) (by decide))
    refine ⟨_, rfl, b, rfl, ⟨_, SqL.of hb⟩, fun D nD => ?_⟩
    refine comp_it (walk_list (K := K) (a := b) (xs := refs L)) nD (by rw [List.length_map, sizeLine_eq]; omega) (fun j ys H2 => ∃ N, ys = refs N ∧ N.map (·.2) = ((begun k n).take j).filter (fun r => r.sum == k) ∧ Rws K H2 N ∧ N.length ≤ j) (fun H2 s2 => SqL.of (s2 b _ hb)) ⟨[], rfl, rfl, (fun m hm => (by cases hm)), Nat.le_refl _⟩
      (fun j ys zs H3 H4 hD e => fun ⟨N, e1, e2, e3, e4⟩ => ⟨N, e1, e2, e3.but hD e, e4⟩) (fun j x ys H2 H3 hj s2 hD g y R R' done skip => ?_) fun ys H2 s2 hD hy g => ?_
    · obtain ⟨rfl, hx⟩ := y
      obtain ⟨N, rfl, e2, e3, e4⟩ := g
      obtain ⟨m, em, rfl⟩ : ∃ m, L[j]? = some m ∧ x = V.ref m.1 := by
        rw [List.getElem?_map] at hx
        obtain ⟨m, e1, e2⟩ := Option.map_eq_some_iff.mp hx
        exact ⟨m, e1, e2.symm⟩
      have mB : (begun k n)[j]? = some m.2 := by rw [← eL, List.getElem?_map, em]; rfl
      have tm : Tp K H3 m.1 m.2 := same_tup s2 (rL m (List.mem_of_getElem? em))
      refine ⟨rfl, _, rfl, m.1, ni m.2, rfl, SqT.of tm, _, rfl, rfl, _, rfl, ?_⟩
      by_cases c : m.2.sum = k
      · refine iteDT (by rw [ni_sum, c]) ⟨_, rfl, done _ _ (Same.refl _) ⟨N ++ [(m.1, m.2)], refs_snoc N _ _, ?_, e3.snoc tm, by rw [List.length_append]; exact Nat.succ_le_succ e4⟩⟩
        rw [GsR.took mB, List.filter_append, List.map_append, e2, List.filter_cons_of_pos (by simpa using c)]
        rfl
      · refine iteDF (fun z => c ?_) (skip _ (Same.refl _) ⟨N, rfl, ?_, e3, Nat.le_succ_of_le e4⟩)
        · injection z with z
          rw [ni_sum] at z
          omega
        · rw [GsR.took mB, List.filter_append, e2, List.filter_cons_of_neg (by simpa using c)]
          simp
    · obtain ⟨N, rfl, e2, e3, e4⟩ := g
      rw [List.length_map] at e2 e4
      have eLen : L.length = (begun k n).length := by rw [← eL, List.length_map]
      rw [eLen, List.take_length] at e2
      refine q H2 D N (s1.trans s2) hD e3 (fun r => ?_) (by omega)
      rw [e2, List.mem_filter, mem_begun, beq_iff_eq]
      constructor
      · exact fun z => ⟨z.1.1, z.2⟩
      · exact fun z => ⟨⟨z.1, by omega⟩, z.2⟩
end
end Gp
namespace Gp
open PySem PySem.Spec PyProof.Rows L2
/-! ### tuples as data -/
def dints : List Nat → List PyData
  | [] => []
  | x :: r => .int (x : Int) :: dints r
def dt (r : List Nat) : PyData := .tuple (dints r)
theorem dints_lay : ∀ r : List Nat, PyData.canLayAll0 (dints r) = true
  | [] => rfl
  | x :: r => by
    show (true && PyData.canLayAll0 (dints r)) = true
    rw [dints_lay r]
    rfl
theorem dt_lay (r : List Nat) : (dt r).canLay0 = true := dints_lay r
theorem dints_depth : ∀ r : List Nat, PyData.depthAll (dints r) ≤ 1
  | [] => by decide
  | x :: r => by
    have := dints_depth r
    show max (PyData.depth (.int (x : Int))) (PyData.depthAll (dints r)) ≤ 1
    have e : PyData.depth (.int (x : Int)) ≤ 1 := by first | exact Nat.le_refl _ | exact Nat.zero_le _
    omega
theorem eqv_dints : ∀ a b : List Nat, PyData.eqvAll (dints a) (dints b) = decide (a = b)
  | [], [] => rfl
  | [], _ :: _ => rfl
  | _ :: _, [] => rfl
  | x :: a, y :: b => by
    show (((x : Int) == (y : Int)) && PyData.eqvAll (dints a) (dints b)) = decide (x :: a = y :: b)
    rw [eqv_dints a b]
    by_cases c : x = y
    · subst c
      simp
    · have : ((x : Int) == (y : Int)) = false := by
        rw [beq_eq_false_iff_ne]
        omega
      rw [this]
      simp [c]
theorem eqv_dt (a b : List Nat) : PyData.eqv (dt a) (dt b) = decide (a = b) := eqv_dints a b
theorem dt_shaped (r : List Nat) : SeqAt.shaped (dt r) = true := by
  unfold SeqAt.shaped
  rw [dt_lay, Bool.true_and]
  refine decide_eq_true ?_
  show PyData.depthAll (dints r) + 1 ≤ 64
  have := dints_depth r
  omega
theorem dp_ints {K : PySem.W.Frag} {H : Hp} : ∀ r : List Nat, DpAll K H (tv r) (dints r)
  | [] => .nil
  | x :: r => .cons (.int _) (dp_ints r)
theorem dp_tup {K : PySem.W.Frag} {H : Hp} {a : Addr} {r : List Nat} (t : Tp K H a r) : Dp K H (.ref a) (dt r) := .tup (SqT.of t) (dp_ints r)
theorem dp_rows {K : PySem.W.Frag} {H : Hp} : ∀ {L : List Row}, Rws K H L → DpAll K H (refs L) (L.map fun m => dt m.2)
  | [], _ => .nil
  | m :: L, h => .cons (dp_tup (h m List.mem_cons_self)) (dp_rows fun q hq => h q (List.mem_cons_of_mem _ hq))
theorem rows_lay : ∀ L : List Row, PyData.canLayAll0 (L.map fun m => dt m.2) = true
  | [] => rfl
  | m :: L => by
    show ((dt m.2).canLay0 && PyData.canLayAll0 (L.map fun m => dt m.2)) = true
    rw [dt_lay, rows_lay L]
    rfl
theorem rows_depth : ∀ L : List Row, PyData.depthAll (L.map fun m => dt m.2) ≤ 2
  | [] => by decide
  | m :: L => by
    have h1 := rows_depth L
    have h2 := dints_depth m.2
    show max (PyData.depthAll (dints m.2) + 1) (PyData.depthAll (L.map fun m => dt m.2)) ≤ 2
    omega
theorem rows_shaped (L : List Row) : SeqAt.shaped (.list (L.map fun m => dt m.2)) = true := by
  unfold SeqAt.shaped
  rw [show (PyData.list (L.map fun m => dt m.2)).canLay0 = true from rows_lay L, Bool.true_and]
  refine decide_eq_true ?_
  show PyData.depthAll (L.map fun m => dt m.2) + 1 ≤ 64
  have := rows_depth L
  omega

/-! ### names_like -/
def spNamesLike (K : PySem.W.Frag) : Sp := fun vs H Q _ => ∃ (a : Addr) (r : List Nat), vs = [.ref a] ∧ Tp K H a r ∧ Gs.Ok r ∧
  ∀ H' p (N : List Row), Same H H' → H' p = some (.lst (refs N)) → Rws K H' N → N.map (·.2) = Km534.names r.length r.sum → Q (.ref p) H'
theorem scNamesLike : FnScope ["ring", "other"] ["ring"] (defScope sNamesLike) := ⟨rfl, rfl, rfl, by decide +kernel, rfl, by decide +kernel, by decide +kernel⟩
/-- rows as the set's members -/
def flats (L : List Row) : List (Addr × GsR.Itm) := L.map fun m => (m.1, GsR.Itm.flat (ni m.2))
theorem flats_lift {L : List Row} : ∀ {M : List (Addr × GsR.Itm)}, (∀ m ∈ M, m ∈ flats L) → ∃ N : List Row, M = flats N ∧ ∀ m ∈ N, m ∈ L
  | [], _ => ⟨[], rfl, fun m h => (by cases h)⟩
  | m :: M, h => by
    obtain ⟨N, e, hN⟩ := flats_lift fun q hq => h q (List.mem_cons_of_mem _ hq)
    obtain ⟨p, hp, e2⟩ := List.mem_map.mp (h m List.mem_cons_self)
    refine ⟨p :: N, by rw [e, ← e2]; rfl, fun q hq => ?_⟩
    rcases List.mem_cons.mp hq with rfl | hq
    · exact hp
    · exact hN q hq
theorem ni_inj {a b : List Nat} (h : ni a = ni b) : a = b := by
  induction a generalizing b with
  | nil => cases b with
    | nil => rfl
    | cons => cases h
  | cons x a ih => cases b with
    | nil => cases h
    | cons y b =>
      have h' : (x : Int) :: ni a = (y : Int) :: ni b := h
      injection h' with h1 h2
      rw [ih h2, Int.ofNat_inj.mp h1]
theorem flats_refs (N : List Row) : (flats N).map (fun q => V.ref q.1) = refs N := by
  rw [flats, List.map_map]
  rfl
/-- sorted(set(..)) of rows: what is left of it -/
theorem sorted_rows {N : List Row} {n : Nat} (hl : ∀ m ∈ N, m.2.length = n) (h : (flats N).Pairwise (fun q r => HT.lexLt q.2.code r.2.code = true)) : (N.map (·.2)).Pairwise (fun a b => Km534.less a b = true) := by
  rw [List.pairwise_map]
  have h2 : N.Pairwise (fun q r => HT.lexLt (ni q.2) (ni r.2) = true) := List.pairwise_map.mp h
  refine List.Pairwise.imp_of_mem (fun {q r} hq hr z => ?_) h2
  rw [lex_less (by rw [hl q hq, hl r hr])] at z
  exact z
theorem alike_rows {N : List Row} (hl : ∀ m ∈ N, 0 < m.2.length) : ∀ m ∈ flats N, ∀ q ∈ flats N, GsR.Alike m.2 q.2 := by
  intro m hm q hq
  obtain ⟨a, ha, rfl⟩ := List.mem_map.mp hm
  obtain ⟨b, hb, rfl⟩ := List.mem_map.mp hq
  have ne : ∀ r : List Nat, 0 < r.length → ni r ≠ [] := fun r h z => by
    have := congrArg List.length z
    rw [ni_len] at this
    simp at this
    rw [this] at h
    simp at h
  exact ⟨ne _ (hl a ha), ne _ (hl b hb)⟩
section
variable {P : Program} {w : World} {K : PySem.W.Frag} {mg : Str → Option Value} {base : Heap}
theorem ok_names_like {f : Addr} {fd : FuncData} (B : Bt mg) (F : Fun K "names_like" "names_like" sNamesLike f fd) (dN : Def P w K mg base 2 "name_of" (spNameOf K)) (dA : Def P w K mg base 1 "all_rings" (spAllRings K)) : FnOk P w K mg base CX0 3 f fd ["ring"] (spNamesLike K) := by
  refine F.ok scNamesLike (fun vs H Q E h => ?_) (fun cdv A outer s H vs Q E hr h => ?_)
  · obtain ⟨a, r, rfl, _⟩ := h
    rfl
  obtain ⟨a, r, rfl, ht, ok, q⟩ := h
  refine ⟨_, pss_one (ps_ret (pe_callB (GsR.cr_sorted rfl hr.units) (by rfl) B.sorted (by decide +kernel) (pa_cons (pe_callTy (GsR.cr_set rfl hr.units) (by rfl) B.set (by decide +kernel) (pa_cons
    (pe_lc (own := [("other", 1)]) (g := gName 1) (tt := tYes) (te := tCall (spNameOf K) [] E0 (tCons (tVar 1) tNil)) rfl scNamesLike.nd
      (pi_list (pe_def dA hr (by decide) (by rfl) (pa_cons (pe_callB call_len_seq (by rfl) B.len PySem.boot_len (pa_cons (pv 0) pa_nil)) (pa_cons (pe_callB (GsR.cr_sumT rfl) (by rfl) B.sum (by decide +kernel) (pa_cons (pv 0) pa_nil)) pa_nil))))
      (blkOk_by (own := [("other", 1)]) (N := ["ring", "other"]) (sc := defScope sNamesLike) (by decide +kernel)) (fun _ _ _ _ _ => pg_name (i := 1) scNamesLike.nd rfl (Or.inl rfl)) (fun _ _ _ _ _ => pts_nil) (fun _ _ _ _ _ => pe_def dN hr (by decide) (by rfl) (pa_cons (pv 1) pa_nil))) pa_nil)) pa_nil))), ?_⟩
  refine ⟨_, rfl, a, _, rfl, .inr (SqT.of ht), _, rfl, a, ni r, rfl, SqT.of ht, ?_⟩
  have h7 := ok.hi
  have h3 := ok.lo
  have h4 := ok.few
  refine ⟨r.length, r.sum, ?_, h7, h4, fun H1 p1 N1 s1 hp1 r1 m1 l1 => ?_⟩
  · rw [tv_len, ni_sum]
    rfl
  refine ⟨p1, rfl, ⟨_, SqL.of hp1⟩, fun D nD => ?_⟩
  refine comp_it (walk_list (K := K) (a := p1) (xs := refs N1)) nD (by rw [List.length_map, sizeLine_eq]; omega) (fun j ys H2 => ∃ L, ys = refs L ∧ L.map (·.2) = ((N1.map (·.2)).take j).map Km534.name ∧ Rws K H2 L) (fun H2 s2 => SqL.of (s2 p1 _ hp1)) ⟨[], rfl, rfl, fun m hm => (by cases hm)⟩
    (fun c ys zs H3 H4 hD e => fun ⟨L, e1, e2, e3⟩ => ⟨L, e1, e2, e3.but hD e⟩) (fun j x ys H2 H3 hj s2 hD g y R R' done _ => ?_) fun ys H2 s2 hD hy g => ?_
  · obtain ⟨rfl, hx⟩ := y
    obtain ⟨L, rfl, e2, e3⟩ := g
    obtain ⟨m, em, rfl⟩ : ∃ m, N1[j]? = some m ∧ x = V.ref m.1 := by
      rw [List.getElem?_map] at hx
      obtain ⟨m, e1, e2⟩ := Option.map_eq_some_iff.mp hx
      exact ⟨m, e1, e2.symm⟩
    have mB : (N1.map (·.2))[j]? = some m.2 := by rw [List.getElem?_map, em]; rfl
    obtain ⟨ml, ms⟩ := (m1 m.2).mp (List.mem_of_getElem? mB)
    refine ⟨rfl, _, rfl, m.1, m.2, rfl, same_tup s2 (r1 m (List.mem_of_getElem? em)), by omega, by omega, fun H4 b s4 t4 => done _ _ s4 ⟨L ++ [(b, Km534.name m.2)], refs_snoc L b _, ?_, (e3.same s4).snoc t4⟩⟩
    rw [GsR.took mB, List.map_append, List.map_append, e2]
    rfl
  obtain ⟨L, rfl, e2, e3⟩ := g
  rw [List.length_map, List.take_of_length_le (by rw [List.length_map]; exact Nat.le_refl _)] at e2
  have mem : ∀ x, x ∈ L.map (·.2) ↔ x ∈ Km534.names r.length r.sum := fun x => by
    rw [e2]
    exact Gs.names_of_all h3 h7 h4 m1 x
  have ok2 : ∀ m ∈ L, m.2.length = r.length := fun m hm => (Gs.mem_names.mp ((mem m.2).mp (List.mem_map.mpr ⟨m, hm, rfl⟩))).1
  refine ⟨D, flats L, (Km534.names r.length r.sum).map (fun x => GsR.Itm.flat (ni x)), rfl, SqL.of (by rw [flats_refs]; exact hD), fun m hm => ?_, fun m hm => ?_, by rw [List.length_map]; have := Gs.names_few ok.size; omega, fun S M nS hM hc nd => ?_⟩
  · obtain ⟨z, hz, rfl⟩ := List.mem_map.mp hm
    exact SqT.of (e3 z hz)
  · obtain ⟨z, hz, rfl⟩ := List.mem_map.mp hm
    exact List.mem_map.mpr ⟨z.2, (mem z.2).mp (List.mem_map.mpr ⟨z, hz, rfl⟩), rfl⟩
  obtain ⟨N, rfl, hN⟩ := flats_lift hM
  refine ⟨S, flats N, rfl, upd_same, fun m hm => ?_, alike_rows fun m hm => by rw [ok2 m (hN m hm)]; omega, fun M2 p pm srt np => ?_⟩
  · obtain ⟨z, hz, rfl⟩ := List.mem_map.mp hm
    exact SqT.of (same_tup (same_upd nS) (e3 z (hN z hz)))
  obtain ⟨N2, rfl, hN2⟩ := flats_lift (L := N) fun m hm => pm.mem_iff.mp hm
  have s3 : Same H2 (upd (upd H2 S (GsR.SetO w S (flats N))) p (.lst ((flats N2).map fun q => V.ref q.1))) := (same_upd nS).trans (same_upd np)
  refine q _ p N2 ((s1.trans s2).trans s3) (by rw [upd_same, flats_refs]) (fun m hm => same_tup s3 (e3 m (hN m (hN2 m hm)))) ?_
  refine Gs.names_uniq ok.size (sorted_rows (fun m hm => ok2 m (hN m (hN2 m hm))) srt) fun x => ?_
  rw [← mem x]
  constructor
  · intro hx
    obtain ⟨z, hz, rfl⟩ := List.mem_map.mp hx
    exact List.mem_map.mpr ⟨z, hN z (hN2 z hz), rfl⟩
  · intro hx
    obtain ⟨z, hz, rfl⟩ := List.mem_map.mp hx
    obtain ⟨u, hu, eu⟩ := List.mem_map.mp (hc (z.1, GsR.Itm.flat (ni z.2)) (List.mem_map.mpr ⟨z, hz, rfl⟩))
    have hu2 := pm.mem_iff.mpr hu
    obtain ⟨v, hv, rfl⟩ := List.mem_map.mp hu2
    have ev : GsR.Itm.flat (ni v.2) = GsR.Itm.flat (ni z.2) := eu
    injection ev with ev
    exact List.mem_map.mpr ⟨v, hv, ni_inj ev⟩
end
end Gp
namespace Gp
open PySem PySem.Spec PyProof.Rows L2
theorem hu65 {A : Around} {k : Nat} (hr : Room k A) : A.units + 65 < cLine := by
  have := hr.un
  omega
/-! ### rank_of, all_at_one_place -/
def spRankOf (K : PySem.W.Frag) : Sp := fun vs H Q _ => ∃ (a : Addr) (r : List Nat), vs = [.ref a] ∧ Tp K H a r ∧ Gs.Ok r ∧ ∀ H', Same H H' → Q (.int (Km535.rank r : Nat)) H'
theorem scRankOf : FnScope ["ring"] ["ring"] (defScope sRankOf) := ⟨rfl, rfl, rfl, by decide +kernel, rfl, by decide +kernel, by decide +kernel⟩
def spAllAtOne (K : PySem.W.Frag) : Sp := fun vs H Q _ => ∃ (a : Addr) (r : List Nat), vs = [.ref a] ∧ Tp K H a r ∧ Gs.Ok r ∧ Q (.bl (Km535.gathered r)) H
theorem scAllAtOne : FnScope ["ring"] ["ring"] (defScope sAllAtOne) := ⟨rfl, rfl, rfl, by decide +kernel, rfl, by decide +kernel, by decide +kernel⟩
/-- the place of a row in a list of rows, as index finds it -/
theorem index_rows {K : PySem.W.Frag} {H : Hp} {p b : Addr} {N : List Row} {x : List Nat} {Q : VK} (hp : H p = some (.lst (refs N))) (rN : Rws K H N) (tb : Tp K H b x) (hx : x ∈ N.map (·.2)) (q : Q (.int (Gs.place (N.map (·.2)) x : Nat)) H) : rIndexD K (.ref p) [.ref b] H Q := by
  obtain ⟨h1, h2⟩ := Gs.place_at hx
  refine ⟨p, .ref b, dt x, N.map fun m => dt m.2, Gs.place (N.map (·.2)) x, dt x, rfl, rfl, .lst (SqL.of hp) (dp_rows rN), dp_tup tb, rows_shaped N, dt_shaped x, ?_, ?_, fun m z hm hz => ?_, q⟩
  · rw [List.getElem?_map] at h1 ⊢
    obtain ⟨m, e1, e2⟩ := Option.map_eq_some_iff.mp h1
    rw [e1]
    exact congrArg (fun r => some (dt r)) e2
  · rw [eqv_dt]
    exact decide_eq_true rfl
  · rw [List.getElem?_map] at hz
    obtain ⟨q, e1, rfl⟩ := Option.map_eq_some_iff.mp hz
    rw [eqv_dt]
    refine decide_eq_false fun z => h2 m hm ?_
    rw [List.getElem?_map, e1]
    exact congrArg some z
section
variable {P : Program} {w : World} {K : PySem.W.Frag} {mg : Str → Option Value} {base : Heap}
theorem ok_rank_of {f : Addr} {fd : FuncData} (F : Fun K "rank_of" "rank_of" sRankOf f fd) (dN : Def P w K mg base 2 "name_of" (spNameOf K)) (dL : Def P w K mg base 3 "names_like" (spNamesLike K)) : FnOk P w K mg base CX0 4 f fd ["ring"] (spRankOf K) := by
  refine F.ok scRankOf (fun vs H Q E h => ?_) (fun cdv A outer s H vs Q E hr h => ?_)
  · obtain ⟨a, r, rfl, _⟩ := h
    rfl
  obtain ⟨a, r, rfl, ht, ok, q⟩ := h
  refine ⟨_, pss_one (ps_ret (pe_bm PySem.F.plainAttrs_list PySem.F.slot_list_index PySem.F.type_list_index (mt_indexD (hu65 hr)) (pe_def dL hr (by decide) (by rfl) (pa_cons (pv 0) pa_nil)) (pa_cons (pe_def dN hr (by decide) (by rfl) (pa_cons (pv 0) pa_nil)) pa_nil))), ?_⟩
  refine ⟨_, rfl, a, r, rfl, ht, ok, fun H1 p N s1 hp rN eN => ?_⟩
  refine ⟨.inl ⟨rfl, _, SqL.of hp⟩, _, rfl, a, r, rfl, same_tup s1 ht, by have := ok.lo; omega, by have := ok.hi; omega, fun H2 b s2 t2 => ?_⟩
  refine index_rows (s2 p _ hp) (rN.same s2) t2 (by rw [eN]; exact ok.name_in) ?_
  rw [eN, ← Gs.rank_place]
  exact q H2 (s1.trans s2)
theorem ok_all_at_one {f : Addr} {fd : FuncData} (B : Bt mg) (F : Fun K "all_at_one_place" "all_at_one_place" sAllAtOne f fd) : FnOk P w K mg base CX0 1 f fd ["ring"] (spAllAtOne K) := by
  refine F.ok scAllAtOne (fun vs H Q E h => ?_) (fun cdv A outer s H vs Q E hr h => ?_)
  · obtain ⟨a, r, rfl, _⟩ := h
    rfl
  obtain ⟨a, r, rfl, ht, ok, q⟩ := h
  refine ⟨_, pss_one (ps_ret (pe_cmpR op_eq (pe_callB (GsR.cr_maxT rfl) (by rfl) B.max (by decide +kernel) (pa_cons (pv 0) pa_nil)) (pe_callB (GsR.cr_sumT rfl) (by rfl) B.sum (by decide +kernel) (pa_cons (pv 0) pa_nil)) (nomark _))), ?_⟩
  refine ⟨_, rfl, a, ni r, rfl, SqT.of ht, by rw [ni_len]; have := ok.lo; omega, fun m hm hle => ?_⟩
  refine ⟨_, rfl, a, ni r, rfl, SqT.of ht, rfl, ?_⟩
  obtain ⟨x, hx, rfl⟩ := List.mem_map.mp hm
  have e : x = Gs.most r := Gs.most_uniq hx fun y hy => by
    have := hle (y : Int) (List.mem_map.mpr ⟨y, hy, rfl⟩)
    omega
  rw [ok.gathered] at q
  rw [ni_sum, e]
  have e2 : decide (V.int (Gs.most r : Int) = V.int (r.sum : Nat)) = decide (Gs.most r = r.sum) := by
    by_cases c : Gs.most r = r.sum
    · rw [c]; simp
    · rw [decide_eq_false c]
      refine decide_eq_false fun z => c ?_
      injection z with z
      omega
  rw [e2]
  exact q
end
end Gp
namespace Gp
open PySem PySem.Spec PyProof.Rows L2
/-- what the top has of MOST_SEEN -/
structure Mst (K : PySem.W.Frag) (mg : Str → Option Value) (M : Addr) : Prop where
  name : mg "MOST_SEEN" = some (.ref M)
  tup : ∀ H, SqT K H M [.non, .int 2, .int 1]
/-! ### seen_ring -/
def spSeen (K : PySem.W.Frag) : Sp := fun vs H Q _ => ∃ (a : Addr) (r : List Nat) (e : Nat), vs = [.ref a, .int e] ∧ Tp K H a r ∧ e ≤ 2 ∧ r.length ≤ 100 ∧ ∀ H' b, Same H H' → Tp K H' b (Gs.seen e r) → Q (.ref b) H'
abbrev nSeen : List Str := ["ring", "eyes", "most", "here"]
theorem scSeen : FnScope nSeen ["ring", "eyes"] (defScope sSeenRing) := ⟨rfl, rfl, rfl, by decide +kernel, rfl, by decide +kernel, by decide +kernel⟩
theorem seen_zero (r : List Nat) : Gs.seen 0 r = r := by
  unfold Gs.seen
  have : Km534.sees 0 = fun x => x := by funext x; rfl
  rw [this, List.map_id']
section
variable {P : Program} {w : World} {K : PySem.W.Frag} {mg : Str → Option Value} {base : Heap}
theorem ok_seen {f M : Addr} {fd : FuncData} (B : Bt mg) (S : Mst K mg M) (F : Fun K "seen_ring" "seen_ring" sSeenRing f fd) : FnOk P w K mg base CX0 1 f fd ["ring", "eyes"] (spSeen K) := by
  refine F.ok scSeen (fun vs H Q E h => ?_) (fun cdv A outer s H vs Q E hr h => ?_)
  · obtain ⟨a, r, e, rfl, _⟩ := h
    rfl
  obtain ⟨a, r, e, rfl, ht, he, hl, k⟩ := h
  refine ⟨_, pss_cons (ps_set (i := 2) scSeen.nd rfl (Or.inr rfl) (pe_ix ix_tup (pe_glob (v := .ref M) rfl S.name rfl) (pv 1) (fun _ _ => rfl)))
    (pss_cons (ps_if (pt_cmpR op_isN (pv 2) pe_non (nomark _)) (pss_one (ps_ret (pv 0))) pss_nil)
    (pss_one (ps_ret (pe_callTy call_tuple_of (by rfl) B.tuple (by decide +kernel) (pa_cons (pe_lc (own := [("here", 3)]) (g := gName 3) (tt := tYes) rfl scSeen.nd (pi_tup (pv 0)) (blkOk_by (own := [("here", 3)]) (N := nSeen) (sc := defScope sSeenRing) (by decide +kernel))
      (fun _ _ _ _ _ => pg_name (i := 3) scSeen.nd rfl (Or.inl rfl)) (fun _ _ _ _ _ => pts_nil) (fun _ _ _ _ _ => pe_callB (call_min2 rfl) (by rfl) B.min (by decide +kernel) (pa_cons (pv 3) (pa_cons (pv 2) pa_nil)))) pa_nil))))), ?_⟩
  have two : e = 0 ∨ ∃ m : Nat, (∀ x, Km534.sees e x = min x m) ∧ ([V.non, V.int 2, V.int 1] : List V)[e]? = some (V.int (m : Int)) := by
    match e, he with
    | 0, _ => exact .inl rfl
    | 1, _ => exact .inr ⟨2, fun x => rfl, rfl⟩
    | 2, _ => exact .inr ⟨1, fun x => rfl, rfl⟩
  rcases two with rfl | ⟨m, hm, ge⟩
  · refine ⟨_, rfl, M, _, _, V.non, rfl, rfl, S.tup H, atI_nat (j := 0) rfl, ?_⟩
    refine ⟨_, rfl, rfl, _, rfl, iteDT rfl ⟨_, rfl, k H a (Same.refl H) ?_⟩⟩
    rw [seen_zero]
    exact ht
  · refine ⟨_, rfl, M, _, _, V.int (m : Int), rfl, rfl, S.tup H, atI_nat ge, ?_⟩
    refine ⟨_, rfl, rfl, _, rfl, iteDF (fun z => by cases z) ?_⟩
    refine ⟨_, rfl, a, rfl, ⟨_, SqT.of ht⟩, fun D nD => ?_⟩
    refine comp_it (walk_tup (K := K) (a := a) (xs := tv r)) nD (by rw [tv_len, sizeLine_eq]; omega) (fun i ys _ => ys = tv ((Gs.seen e r).take i)) (fun H1 s1 => SqT.of (same_tup s1 ht)) rfl (fun _ _ _ _ _ _ _ z => z) (fun i x ys H1 H2 hi s1 hD g y R R' done _ => ?_) fun ys H1 s1 hD hy g => ?_
    · obtain ⟨rfl, hx⟩ := y
      rw [tv_get] at hx
      obtain ⟨x, ex, rfl⟩ := Option.map_eq_some_iff.mp hx
      refine ⟨rfl, _, rfl, _, rfl, _, _, rfl, done _ _ (Same.refl _) ?_⟩
      have es : (Gs.seen e r)[i]? = some (Km534.sees e x) := by rw [Gs.seen, List.getElem?_map, ex]; rfl
      rw [g, GsR.took es, tv_app, hm]
      have ev : (if (m : Int) < (x : Int) then (m : Int) else (x : Int)) = ((min x m : Nat) : Int) := by
        by_cases c : (m : Int) < (x : Int)
        · rw [if_pos c]; omega
        · rw [if_neg c]; omega
      rw [ev]
      rfl
    · refine ⟨D, ys, rfl, .inl ⟨SqL.of hD, fun l nl => k _ l (s1.trans (same_upd nl)) ?_⟩⟩
      show (upd _ _ _) _ = _
      rw [upd_same, g, tv_len, List.take_of_length_le (by rw [Gs.len_seen]; exact Nat.le_refl _)]
end
end Gp
namespace Gp
open PySem PySem.Spec PyProof.Rows L2
/-! ### view_of -/
def spView (K : PySem.W.Frag) : Sp := fun vs H Q _ => ∃ (a : Addr) (r : List Nat) (e p : Nat), vs = [.ref a, .int e, .int p] ∧ Tp K H a r ∧ e ≤ 2 ∧ p < r.length ∧ r.length ≤ 100 ∧ ∀ H' b, Same H H' → Tp K H' b (Gs.vw e r p) → Q (.ref b) H'
abbrev nView : List Str := ["ring", "eyes", "place", "seen"]
theorem scView : FnScope nView ["ring", "eyes", "place"] (defScope sViewOf) := ⟨rfl, rfl, rfl, by decide +kernel, rfl, by decide +kernel, by decide +kernel⟩
/-! ### lesser_steps -/
def spLesser (K : PySem.W.Frag) : Sp := fun vs H Q _ => ∃ (a : Addr) (r : List Nat) (e p : Nat), vs = [.ref a, .int e, .int p] ∧ Tp K H a r ∧ e ≤ 2 ∧ p < r.length ∧ r.length ≤ 100 ∧ ∀ H' b, Same H H' → H b = none → H' b = some (.lst ((Gs.lesser e r p).map V.int)) → Q (.ref b) H'
abbrev nLesser : List Str := ["ring", "eyes", "place", "seen", "onward", "backward"]
theorem scLesser : FnScope nLesser ["ring", "eyes", "place"] (defScope sLesserSteps) := ⟨rfl, rfl, rfl, by decide +kernel, rfl, by decide +kernel, by decide +kernel⟩
/-! ### is_even_handed -/
def spEven (K : PySem.W.Frag) : Sp := fun vs H Q _ => ∃ (a : Addr) (r : List Nat) (e p : Nat), vs = [.ref a, .int e, .int p] ∧ Tp K H a r ∧ e ≤ 2 ∧ p < r.length ∧ r.length ≤ 100 ∧ ∀ H', Same H H' → Q (.bl (Km534.even_ ⟨r, e⟩ p)) H'
theorem scEven : FnScope ["ring", "eyes", "place"] ["ring", "eyes", "place"] (defScope sIsEven) := ⟨rfl, rfl, rfl, by decide +kernel, rfl, by decide +kernel, by decide +kernel⟩
theorem even_len (e : Nat) (r : List Nat) (p : Nat) : decide (V.int (((Gs.lesser e r p).map V.int).length : Nat) = V.int 2) = Km534.even_ ⟨r, e⟩ p := by
  rw [Gs.even_eq, List.length_map]
  unfold Gs.lesser
  by_cases c : Gs.onw e r p = Gs.bkw e r p
  · rw [if_pos c, c, beq_self_eq_true]
    rfl
  · rw [if_neg c]
    have h : (Gs.onw e r p == Gs.bkw e r p) = false := by simpa using c
    rw [h]
    split <;> rfl
section
variable {P : Program} {w : World} {K : PySem.W.Frag} {mg : Str → Option Value} {base : Heap}
theorem ok_view {f : Addr} {fd : FuncData} (B : Bt mg) (F : Fun K "view_of" "view_of" sViewOf f fd) (dS : Def P w K mg base 1 "seen_ring" (spSeen K)) (dT : Def P w K mg base 1 "turned" (spTurned K)) (dM : Def P w K mg base 1 "mirrored" (spMirrored K)) : FnOk P w K mg base CX0 2 f fd ["ring", "eyes", "place"] (spView K) := by
  refine F.ok scView (fun vs H Q E h => ?_) (fun cdv A outer s H vs Q E hr h => ?_)
  · obtain ⟨a, r, e, p, rfl, _⟩ := h
    rfl
  obtain ⟨a, r, e, p, rfl, ht, he, hp, hl, k⟩ := h
  refine ⟨_, pss_cons (ps_set (i := 3) scView.nd rfl (Or.inl rfl) (pe_def dS hr (by decide) (by rfl) (pa_cons (pv 0) (pa_cons (pv 1) pa_nil))))
    (pss_one (ps_ret (pe_callB (GsR.cr_minT2 rfl hr.units) (by rfl) B.min (by decide +kernel) (pa_cons (pe_def dT hr (by decide) (by rfl) (pa_cons (pv 3) (pa_cons (pv 2) pa_nil))) (pa_cons (pe_def dM hr (by decide) (by rfl) (pa_cons (pv 3) (pa_cons (pv 2) pa_nil))) pa_nil))))), ?_⟩
  refine ⟨_, rfl, _, rfl, a, r, e, rfl, ht, he, hl, fun H1 b1 s1 t1 => ?_⟩
  have hl1 := Gs.len_seen e r
  refine ⟨_, rfl, _, rfl, b1, Gs.seen e r, p, rfl, t1, by omega, by omega, fun H2 b2 s2 t2 => ?_⟩
  refine ⟨_, rfl, _, rfl, b1, Gs.seen e r, p, rfl, same_tup s2 t1, by omega, by omega, fun H3 b3 s3 t3 => ?_⟩
  refine ⟨b2, b3, ni (Gs.onw e r p), ni (Gs.bkw e r p), rfl, SqT.of (same_tup s3 t2), SqT.of t3, ?_⟩
  have s4 := (s1.trans s2).trans s3
  rw [lex_less (by rw [Gs.len_bk, Gs.len_on])]
  unfold Gs.vw at k
  by_cases c : Km534.less (Gs.bkw e r p) (Gs.onw e r p) = true
  · rw [if_pos c] at k ⊢
    exact k H3 b3 s4 t3
  · rw [if_neg c] at k ⊢
    exact k H3 b2 s4 (same_tup s3 t2)
theorem ok_lesser {f : Addr} {fd : FuncData} (F : Fun K "lesser_steps" "lesser_steps" sLesserSteps f fd) (dS : Def P w K mg base 1 "seen_ring" (spSeen K)) (dT : Def P w K mg base 1 "turned" (spTurned K)) (dM : Def P w K mg base 1 "mirrored" (spMirrored K)) : FnOk P w K mg base CX0 2 f fd ["ring", "eyes", "place"] (spLesser K) := by
  refine F.ok scLesser (fun vs H Q E h => ?_) (fun cdv A outer s H vs Q E hr h => ?_)
  · obtain ⟨a, r, e, p, rfl, _⟩ := h
    rfl
  obtain ⟨a, r, e, p, rfl, ht, he, hp, hl, k⟩ := h
  refine ⟨_, pss_cons (ps_set (i := 3) scLesser.nd rfl (Or.inl rfl) (pe_def dS hr (by decide) (by rfl) (pa_cons (pv 0) (pa_cons (pv 1) pa_nil))))
    (pss_cons (ps_set (i := 4) scLesser.nd rfl (Or.inl rfl) (pe_def dT hr (by decide) (by rfl) (pa_cons (pv 3) (pa_cons (pv 2) pa_nil))))
    (pss_cons (ps_set (i := 5) scLesser.nd rfl (Or.inl rfl) (pe_def dM hr (by decide) (by rfl) (pa_cons (pv 3) (pa_cons (pv 2) pa_nil))))
    (pss_cons (ps_if (pt_cmpR (op_eqD hr.units) (pv 4) (pv 5) (nomark _)) (pss_one (ps_ret (pe_lst (pa_cons pe_int (pa_cons (pe_un un_neg pe_int) pa_nil))))) pss_nil)
    (pss_one (ps_ret (pe_ifExp (pt_cmpR (op_ltT hr.units0) (pv 4) (pv 5) (nomark _)) (pe_lst (pa_cons pe_int pa_nil)) (pe_lst (pa_cons (pe_un un_neg pe_int) pa_nil)))))))), ?_⟩
  refine ⟨_, rfl, _, rfl, a, r, e, rfl, ht, he, hl, fun H1 b1 s1 t1 => ?_⟩
  have hl1 := Gs.len_seen e r
  refine ⟨_, rfl, _, rfl, b1, Gs.seen e r, p, rfl, t1, by omega, by omega, fun H2 b2 s2 t2 => ?_⟩
  refine ⟨_, rfl, _, rfl, b1, Gs.seen e r, p, rfl, same_tup s2 t1, by omega, by omega, fun H3 b3 s3 t3 => ?_⟩
  have s4 := (s1.trans s2).trans s3
  refine ⟨_, rfl, _, rfl, dt (Gs.onw e r p), dt (Gs.bkw e r p), dp_tup (same_tup s3 t2), dp_tup t3, dt_shaped _, dt_shaped _, _, rfl, ?_⟩
  rw [eqv_dt]
  unfold Gs.lesser at k
  by_cases c : Gs.onw e r p = Gs.bkw e r p
  · rw [if_pos c] at k
    refine iteDT c ⟨_, rfl, (by show 2 ≤ sizeLine; decide), fun l nl => k _ l (s4.trans (same_upd nl)) (s4.free nl) upd_same⟩
  · rw [if_neg c] at k
    refine iteDF c ⟨_, rfl, _, rfl, b2, b3, ni (Gs.onw e r p), ni (Gs.bkw e r p), rfl, rfl, SqT.of (same_tup s3 t2), SqT.of t3, _, rfl, ?_⟩
    rw [lex_less (by rw [Gs.len_bk, Gs.len_on])]
    by_cases d : Km534.less (Gs.onw e r p) (Gs.bkw e r p) = true
    · rw [if_pos d] at k ⊢
      exact ⟨(by show 1 ≤ sizeLine; decide), fun l nl => k _ l (s4.trans (same_upd nl)) (s4.free nl) upd_same⟩
    · rw [if_neg d] at k ⊢
      exact ⟨_, rfl, (by show 1 ≤ sizeLine; decide), fun l nl => k _ l (s4.trans (same_upd nl)) (s4.free nl) upd_same⟩
theorem ok_even {f : Addr} {fd : FuncData} (B : Bt mg) (F : Fun K "is_even_handed" "is_even_handed" sIsEven f fd) (dL : Def P w K mg base 2 "lesser_steps" (spLesser K)) : FnOk P w K mg base CX0 3 f fd ["ring", "eyes", "place"] (spEven K) := by
  refine F.ok scEven (fun vs H Q E h => ?_) (fun cdv A outer s H vs Q E hr h => ?_)
  · obtain ⟨a, r, e, p, rfl, _⟩ := h
    rfl
  obtain ⟨a, r, e, p, rfl, ht, he, hp, hl, k⟩ := h
  refine ⟨_, pss_one (ps_ret (pe_cmpR op_eq (pe_callB call_len_seq (by rfl) B.len PySem.boot_len (pa_cons (pe_def dL hr (by decide) (by rfl) (pa_cons (pv 0) (pa_cons (pv 1) (pa_cons (pv 2) pa_nil)))) pa_nil)) pe_int (nomark _))), ?_⟩
  refine ⟨_, rfl, _, rfl, _, rfl, a, r, e, p, rfl, ht, he, hp, hl, fun H1 b s1 n1 h1 => ?_⟩
  refine ⟨b, _, rfl, .inl (SqL.of h1), rfl, ?_⟩
  rw [even_len]
  exact k H1 s1
end
end Gp
namespace Gp
open PySem PySem.Spec PyProof.Rows L2
/-! ### the rule as a dict -/
def kk (v : List Nat) : List L2.Key := v.map fun (x : Nat) => Sum.inl (x : Int)
theorem kk_tv : ∀ v : List Nat, (kk v).map kV = tv v
  | [] => rfl
  | x :: v => by
    show kV (Sum.inl (x : Int)) :: (kk v).map kV = V.int (x : Int) :: tv v
    rw [kk_tv v]
    rfl
theorem kk_inj : ∀ {a b : List Nat}, kk a = kk b → a = b
  | [], [], _ => rfl
  | [], _ :: _, h => by cases h
  | _ :: _, [], h => by cases h
  | x :: a, y :: b, h => by
    have h' : (Sum.inl (x : Int) : L2.Key) :: kk a = Sum.inl (y : Int) :: kk b := h
    injection h' with h1 h2
    injection h1 with h1
    rw [kk_inj h2, Int.ofNat_inj.mp h1]
/-- a dict of rows and numbers -/
def kvs (l : List (List Nat × Nat)) : List (List L2.Key × V) := l.map fun q => (kk q.1, V.int (q.2 : Int))
theorem kvs_len (l : List (List Nat × Nat)) : (kvs l).length = l.length := List.length_map _
def look (l : List (List Nat × Nat)) (v : List Nat) : Option Nat := (l.find? fun q => q.1 == v).map (·.2)
theorem val_kvs : ∀ (l : List (List Nat × Nat)) (v : List Nat), valV (kvs l) (kk v) = (look l v).map fun (m : Nat) => V.int (m : Int)
  | [], _ => rfl
  | q :: l, v => by
    have e : kvs (q :: l) = (kk q.1, V.int (q.2 : Int)) :: kvs l := rfl
    rw [e]
    unfold look
    by_cases c : q.1 = v
    · rw [valV_pos (by rw [c]), List.find?_cons_of_pos (by simpa using c)]
      rfl
    · rw [valV_neg fun z => c (kk_inj z), List.find?_cons_of_neg (by simpa using c), val_kvs l v]
      rfl
/-- the rule at d -/
abbrev RuleAt (H : Hp) (d : Addr) (l : List (List Nat × Nat)) : Prop := H d = some (.dT (kvs l))
theorem get_rule {K : PySem.W.Frag} {H : Hp} {d b : Addr} {l : List (List Nat × Nat)} {v : List Nat} (h : RuleAt H d l) (t : Tp K H b v) : DGet H d (.ref b) ((look l v).map fun (m : Nat) => V.int (m : Int)) :=
  .inr ⟨kvs l, kk v, b, .inl h, rfl, by rw [kk_tv]; exact t, (val_kvs l v).symm⟩
theorem told_look (d : Km535.Desk) (v : List Nat) : Km535.told d v = (look d.rule v).getD 0 := by
  unfold Km535.told look
  cases d.rule.find? fun r => r.1 == v <;> rfl
/-! ### eager_steps -/
def spEager (K : PySem.W.Frag) : Sp := fun vs H Q _ => ∃ (a d : Addr) (r : List Nat) (e p : Nat) (l : List (List Nat × Nat)), vs = [.ref a, .int e, .ref d, .int p] ∧ Tp K H a r ∧ RuleAt H d l ∧ e ≤ 2 ∧ p < r.length ∧ r.length ≤ 100 ∧
  ∀ H' b, Same H H' → H b = none → H' b = some (.lst ((Gs.stepsOf ((look l (Gs.vw e r p)).getD 0) (Gs.lesser e r p)).map V.int)) → Q (.ref b) H'
abbrev nEager : List Str := ["ring", "eyes", "rule", "place", "done", "steps", "step"]
theorem scEager : FnScope nEager ["ring", "eyes", "rule", "place"] (defScope sEagerSteps) := ⟨rfl, rfl, rfl, by decide +kernel, rfl, by decide +kernel, by decide +kernel⟩
theorem dec_int (i j : Int) : decide (V.int i = V.int j) = decide (i = j) := by
  by_cases c : i = j
  · rw [c]; simp
  · rw [decide_eq_false c]
    refine decide_eq_false fun z => c ?_
    injection z
section
variable {P : Program} {w : World} {K : PySem.W.Frag} {mg : Str → Option Value} {base : Heap}
theorem ok_eager {f : Addr} {fd : FuncData} (F : Fun K "eager_steps" "eager_steps" sEagerSteps f fd) (dV : Def P w K mg base 2 "view_of" (spView K)) (dL : Def P w K mg base 2 "lesser_steps" (spLesser K)) : FnOk P w K mg base CX0 3 f fd ["ring", "eyes", "rule", "place"] (spEager K) := by
  refine F.ok scEager (fun vs H Q E h => ?_) (fun cdv A outer s H vs Q E hr h => ?_)
  · obtain ⟨a, d, r, e, p, l, rfl, _⟩ := h
    rfl
  obtain ⟨a, d, r, e, p, l, rfl, ht, hd, he, hp, hl, k⟩ := h
  refine ⟨_, pss_cons (ps_set (i := 4) scEager.nd rfl (Or.inl rfl) (pe_dget2 (hu_of hr) (pv 2) (pe_def dV hr (by decide) (by rfl) (pa_cons (pv 0) (pa_cons (pv 1) (pa_cons (pv 3) pa_nil)))) pe_int ⟨rfl, rfl, rfl, rfl⟩))
    (pss_cons (ps_if (pt_cmpR op_eq (pv 4) pe_int (nomark _)) (pss_one (ps_ret (pe_lst pa_nil))) pss_nil)
    (pss_cons (ps_set (i := 5) scEager.nd rfl (Or.inl rfl) (pe_def dL hr (by decide) (by rfl) (pa_cons (pv 0) (pa_cons (pv 1) (pa_cons (pv 3) pa_nil)))))
    (pss_one (ps_ret (pe_ifExp (pt_cmpR op_eq (pv 4) pe_int (nomark _)) (pv 5) (pe_lc (own := [("step", 6)]) (g := gName 6) (tt := tYes) rfl scEager.nd (pi_list (pv 5)) (blkOk_by (own := [("step", 6)]) (N := nEager) (sc := defScope sEagerSteps) (by decide +kernel))
      (fun _ _ _ _ _ => pg_name (i := 6) scEager.nd rfl (Or.inl rfl)) (fun _ _ _ _ _ => pts_nil) (fun _ _ _ _ _ => pe_un un_neg (pv 6)))))))), ?_⟩
  refine ⟨_, rfl, d, rfl, .inr ⟨_, .inl hd⟩, _, rfl, _, rfl, _, rfl, a, r, e, p, rfl, ht, he, hp, hl, fun H1 b1 s1 t1 => ?_⟩
  refine ⟨_, get_rule (K := K) (s1 d _ hd) t1, ?_⟩
  have ev : ((look l (Gs.vw e r p)).map fun (m : Nat) => V.int (m : Int)).getD (V.int 0) = V.int (((look l (Gs.vw e r p)).getD 0 : Nat) : Int) := by
    cases look l (Gs.vw e r p) <;> rfl
  rw [ev]
  generalize (look l (Gs.vw e r p)).getD 0 = m at k ⊢
  refine ⟨_, rfl, rfl, _, rfl, ?_⟩
  rw [dec_int]
  unfold Gs.stepsOf at k
  by_cases c0 : m = 0
  · rw [if_pos c0] at k
    exact iteDT (by rw [c0]; rfl) ⟨(by show 0 ≤ sizeLine; decide), fun x nx => k _ x (s1.trans (same_upd nx)) (s1.free nx) upd_same⟩
  · rw [if_neg c0] at k
    refine iteDF (fun z => c0 (by omega)) ⟨_, rfl, _, rfl, _, rfl, a, r, e, p, rfl, same_tup s1 ht, he, hp, hl, fun H2 b2 s2 n2 h2 => ?_⟩
    refine ⟨_, rfl, rfl, _, rfl, ?_⟩
    rw [dec_int]
    have s3 := s1.trans s2
    by_cases c1 : m = 1
    · rw [if_pos c1] at k
      exact iteDT (by rw [c1]; rfl) ⟨_, rfl, k H2 b2 s3 (s1.free n2) h2⟩
    · rw [if_neg c1] at k
      refine iteDF (fun z => c1 (by omega)) ⟨_, rfl, b2, rfl, ⟨_, SqL.of h2⟩, fun D nD => ?_⟩
      have few : (Gs.lesser e r p).length ≤ 2 := by rcases Gs.lesser_cases e r p with z | z | z <;> rw [z] <;> simp
      refine comp_it (walk_list (K := K) (a := b2) (xs := (Gs.lesser e r p).map V.int)) nD (by rw [List.length_map, sizeLine_eq]; omega) (fun i ys _ => ys = (((Gs.lesser e r p).map fun x => -x).take i).map V.int) (fun H3 s4 => SqL.of (s4 b2 _ h2)) rfl (fun _ _ _ _ _ _ _ z => z) (fun i x ys H3 H4 hi s4 hD g y R R' done _ => ?_) fun ys H3 s4 hD hy g => ?_
      · obtain ⟨rfl, hx⟩ := y
        rw [List.getElem?_map] at hx
        obtain ⟨z, ez, rfl⟩ := Option.map_eq_some_iff.mp hx
        refine ⟨rfl, _, rfl, _, rfl, done _ _ (Same.refl _) ?_⟩
        have en : ((Gs.lesser e r p).map fun x => -x)[i]? = some (-z) := by rw [List.getElem?_map, ez]; rfl
        rw [g, GsR.took en, List.map_append]
        rfl
      · refine k H3 D (s3.trans s4) (s3.free nD) ?_
        rw [hD, g, List.take_of_length_le (by rw [List.length_map, List.length_map]; exact Nat.le_refl _)]
end
end Gp
namespace Gp
open PySem PySem.Spec PyProof.Rows L2
/-! ### stepped -/
def spStepped (K : PySem.W.Frag) : Sp := fun vs H Q _ => ∃ (a : Addr) (c : List Nat) (p : Nat) (st : Int), vs = [.ref a, .int p, .int st] ∧ Tp K H a c ∧ p < c.length ∧ c.length ≤ 100 ∧ 1 ≤ c.getD p 0 ∧ ∀ H' b, Same H H' → Tp K H' b (Km535.move c p (Gs.goTo c.length p st)) → Q (.ref b) H'
abbrev nStepped : List Str := ["ring", "place", "step", "counts"]
theorem scStepped : FnScope nStepped ["ring", "place", "step"] (defScope sStepped) := ⟨rfl, rfl, rfl, by decide +kernel, rfl, by decide +kernel, by decide +kernel⟩
theorem tv_set (c : List Nat) (p v : Nat) : (tv c).set p (V.int (v : Int)) = tv (c.set p v) := by
  show ((ni c).map V.int).set p (V.int (v : Int)) = (ni (c.set p v)).map V.int
  rw [ni, ni, List.map_set, List.map_set]
theorem ixN_nat {n k : Nat} (h : k < n) : ixN n (k : Int) = some k := by
  unfold ixN
  rw [if_pos (by omega), Int.toNat_natCast]
  first | rfl | rw [if_pos (by omega)]
theorem tv_at {c : List Nat} {p : Nat} (h : p < c.length) : (tv c)[p]? = some (V.int ((c.getD p 0 : Nat) : Int)) := by
  rw [tv_get, List.getD_eq_getElem?_getD, List.getElem?_eq_getElem h]
  rfl
section
variable {P : Program} {w : World} {K : PySem.W.Frag} {mg : Str → Option Value} {base : Heap}
theorem ok_stepped {f : Addr} {fd : FuncData} (B : Bt mg) (F : Fun K "stepped" "stepped" sStepped f fd) : FnOk P w K mg base CX0 1 f fd ["ring", "place", "step"] (spStepped K) := by
  refine F.ok scStepped (fun vs H Q E h => ?_) (fun cdv A outer s H vs Q E hr h => ?_)
  · obtain ⟨a, c, p, st, rfl, _⟩ := h
    rfl
  obtain ⟨a, c, p, st, rfl, ht, hp, hl, h1, k⟩ := h
  refine ⟨_, pss_cons (ps_set (i := 3) scStepped.nd rfl (Or.inl rfl) (pe_callTy call_list_of (by rfl) B.list (by decide +kernel) (pa_cons (pv 0) pa_nil)))
    (pss_cons (ps_augS (pv 3) (pv 1) GsR.get_ix pe_int ip_sub set_list)
    (pss_cons (ps_augS (pv 3) (pe_op op_modN (pe_op op_add (pv 1) (pv 2)) (pe_callB call_len_seq (by rfl) B.len PySem.boot_len (pa_cons (pv 0) pa_nil))) GsR.get_ix pe_int ip_add set_list)
    (pss_one (ps_ret (pe_callTy call_tuple_of (by rfl) B.tuple (by decide +kernel) (pa_cons (pv 3) pa_nil)))))), ?_⟩
  refine ⟨_, rfl, a, _, rfl, .inr (SqT.of ht), fun l nl => ?_⟩
  have la : a ≠ l := fun z => by
    have q : H a = some _ := ht
    rw [z, nl] at q
    cases q
  have pc : p < (tv c).length := by rw [tv_len]; exact hp
  refine ⟨_, rfl, _, rfl, l, tv c, p, _, rfl, rfl, SqL.of upd_same, tv_at hp, ?_⟩
  refine ⟨_, _, rfl, rfl, l, tv c, (p : Int), p, rfl, rfl, upd_same, ixN_nat pc, ?_⟩
  have e1 : ((c.getD p 0 : Nat) : Int) - 1 = ((c.getD p 0 - 1 : Nat) : Int) := by omega
  dsimp only
  rw [e1, tv_set]
  have hq : Gs.goTo c.length p st < c.length := by
    unfold Gs.goTo
    have h0 : (0 : Int) ≤ ((p : Int) + st) % (c.length : Int) := Int.emod_nonneg _ (by omega)
    have h2 : ((p : Int) + st) % (c.length : Int) < (c.length : Int) := Int.emod_lt_of_pos _ (by omega)
    omega
  have eq : Int.fmod ((p : Int) + st) (c.length : Int) = ((Gs.goTo c.length p st : Nat) : Int) := by
    unfold Gs.goTo
    rw [Int.fmod_eq_emod_of_nonneg _ (by omega), Int.toNat_of_nonneg (Int.emod_nonneg _ (by omega))]
  have hq2 : Gs.goTo c.length p st < (Gs.dec c p).length := by rw [Gs.len_dec]; exact hq
  refine ⟨_, rfl, _, rfl, _, rfl, _, _, rfl, rfl, _, rfl, a, _, rfl, .inr (SqT.of ((upd_ne la).trans ((upd_ne la).trans ht))), ?_⟩
  rw [tv_len]
  refine ⟨_, _, rfl, rfl, (by omega), ?_⟩
  refine ⟨l, tv (Gs.dec c p), Gs.goTo c.length p st, _, rfl, congrArg V.int eq, SqL.of upd_same, tv_at hq2, ?_⟩
  refine ⟨_, _, rfl, rfl, l, tv (Gs.dec c p), ((Gs.goTo c.length p st : Nat) : Int), Gs.goTo c.length p st, rfl, congrArg V.int eq, upd_same, ixN_nat (by rw [tv_len]; exact hq2), ?_⟩
  have e2 : (((Gs.dec c p).getD (Gs.goTo c.length p st) 0 : Nat) : Int) + 1 = (((Gs.dec c p).getD (Gs.goTo c.length p st) 0 + 1 : Nat) : Int) := by omega
  dsimp only
  rw [e2, tv_set]
  refine ⟨_, rfl, l, _, rfl, .inl ⟨SqL.of upd_same, fun t nt => k _ t (fun b o e => ?_) upd_same⟩⟩
  have hb : b ≠ l := fun z => by rw [z, nl] at e; cases e
  have hbt : b ≠ t := fun z => by
    rw [← z, upd_ne hb, upd_ne hb, upd_ne hb, e] at nt
    cases nt
  rw [upd_ne hbt, upd_ne hb, upd_ne hb, upd_ne hb]
  exact e
end
end Gp
namespace Gp
open PySem PySem.Spec PyProof.Rows L2
/-! ### steps_by_place -/
/-- the steps of each place -/
def stp (e : Nat) (l : List (List Nat × Nat)) (r : List Nat) (p : Nat) : List Int := if 0 < r.getD p 0 then Gs.stepsOf ((look l (Gs.vw e r p)).getD 0) (Gs.lesser e r p) else []
def tab (e : Nat) (l : List (List Nat × Nat)) (r : List Nat) : List (List Int) := (List.range r.length).map (stp e l r)
/-- lists of steps at addresses -/
abbrev Stp := Addr × List Int
abbrev srefs (L : List Stp) : List V := L.map fun m => V.ref m.1
def Sts (H : Hp) (L : List Stp) : Prop := ∀ m ∈ L, H m.1 = some (.lst (m.2.map V.int))
theorem Sts.same {H H' : Hp} {L : List Stp} (h : Sts H L) (e : Same H H') : Sts H' L := fun m hm => e _ _ (h m hm)
theorem srefs_snoc (L : List Stp) (b : Addr) (r : List Int) : srefs L ++ [V.ref b] = srefs (L ++ [(b, r)]) := by
  show _ = (L ++ [(b, r)]).map fun m => V.ref m.1
  rw [List.map_append]
  rfl
def spStepsBy (K : PySem.W.Frag) : Sp := fun vs H Q _ => ∃ (a d : Addr) (r : List Nat) (e : Nat) (l : List (List Nat × Nat)), vs = [.ref a, .int e, .ref d] ∧ Tp K H a r ∧ RuleAt H d l ∧ e ≤ 2 ∧ r.length ≤ 100 ∧
  ∀ H' p (L : List Stp), Same H H' → H' p = some (.lst (srefs L)) → Sts H' L → L.map (·.2) = tab e l r → Q (.ref p) H'
abbrev nStepsBy : List Str := ["ring", "eyes", "rule", "place", "robots"]
theorem scStepsBy : FnScope nStepsBy ["ring", "eyes", "rule"] (defScope sStepsBy) := ⟨rfl, rfl, rfl, by decide +kernel, rfl, by decide +kernel, by decide +kernel⟩
theorem range_moreI (f : Nat → List Int) (i : Nat) : (List.range (i + 1)).map f = (List.range i).map f ++ [f i] := by
  rw [List.range_succ, List.map_append]
  rfl
section
variable {P : Program} {w : World} {K : PySem.W.Frag} {mg : Str → Option Value} {base : Heap}
theorem ok_steps_by {f : Addr} {fd : FuncData} (B : Bt mg) (F : Fun K "steps_by_place" "steps_by_place" sStepsBy f fd) (dE : Def P w K mg base 3 "eager_steps" (spEager K)) : FnOk P w K mg base CX0 4 f fd ["ring", "eyes", "rule"] (spStepsBy K) := by
  refine F.ok scStepsBy (fun vs H Q E h => ?_) (fun cdv A outer s H vs Q E hr h => ?_)
  · obtain ⟨a, d, r, e, l, rfl, _⟩ := h
    rfl
  obtain ⟨a, d, r, e, l, rfl, ht, hd, he, hl, k⟩ := h
  refine ⟨_, pss_one (ps_ret (pe_lc (own := [("place", 3), ("robots", 4)]) (g := gTup K 2 (gCons (gName 3) (gCons (gName 4) gNil))) (tt := tYes) (te := tIf (tTest (tOp (rI0 fun i j => .bl (decide (j < i))) (tVar 4) (tC (.int 0)))) (tCall (spEager K) [] E0 (tCons (tVar 0) (tCons (tVar 1) (tCons (tVar 2) (tCons (tVar 3) tNil))))) (tLst tNil))
    rfl scStepsBy.nd (GsR.pi_enumT (by rfl) B.enumerate (pa_cons (pv 0) pa_nil)) (blkOk_by (own := [("place", 3), ("robots", 4)]) (N := nStepsBy) (sc := defScope sStepsBy) (by decide +kernel))
    (fun _ _ _ _ _ => pg_tup rfl (pgs_cons (pg_name (i := 3) scStepsBy.nd rfl (Or.inl rfl)) (pgs_cons (pg_name (i := 4) scStepsBy.nd rfl (Or.inl rfl)) pgs_nil))) (fun _ _ _ _ _ => pts_nil)
    (fun _ _ _ _ _ => pe_ifExp (pt_cmpR op_gt (pv 4) pe_int (nomark _)) (pe_def dE hr (by decide) (by rfl) (pa_cons (pv 0) (pa_cons (pv 1) (pa_cons (pv 2) (pa_cons (pv 3) pa_nil))))) (pe_lst pa_nil)))), ?_⟩
  refine ⟨_, rfl, a, tv r, rfl, SqT.of ht, fun D nD => ?_⟩
  refine comp_it (GsR.walk_enumT (K := K) (a := a) (xs := tv r)) nD (by rw [tv_len, sizeLine_eq]; omega) (fun i ys H2 => ∃ L : List Stp, ys = srefs L ∧ L.map (·.2) = (List.range i).map (stp e l r) ∧ ∀ m ∈ L, m.1 ≠ D ∧ H2 m.1 = some (.lst (m.2.map V.int))) (fun H2 s2 => SqT.of (same_tup s2 ht)) ⟨[], rfl, rfl, fun m hm => (by cases hm)⟩
    (fun i ys zs H2 H3 hD be => fun ⟨L, e1, e2, e3⟩ => ⟨L, e1, e2, fun m hm => ⟨(e3 m hm).1, be _ _ (e3 m hm).1 (e3 m hm).2⟩⟩) (fun i x ys H2 H3 hi s2 hD g y R R' done _ => ?_) fun ys H2 s2 hD hy g => ?_
  · obtain ⟨T, x1, x2, rfl, nT, rfl, e1, e2⟩ := y
    obtain rfl : V.int (i : Nat) = x1 := Option.some.inj e1
    rw [tv_len] at hi
    obtain rfl : V.int ((r.getD i 0 : Nat) : Int) = x2 := Option.some.inj ((tv_at hi).symm.trans e2)
    obtain ⟨L, rfl, f2, f3⟩ := g
    have s3 : Same H2 (upd H2 T (.tup [V.int (i : Nat), V.int ((r.getD i 0 : Nat) : Int)])) := same_upd nT
    refine ⟨T, _, rfl, SqT.of upd_same, rfl, _, _, rfl, _, _, rfl, rfl, rfl, _, rfl, _, _, rfl, rfl, _, rfl, ?_⟩
    by_cases c : 0 < r.getD i 0
    · refine iteDT (by omega) ⟨_, rfl, _, rfl, _, rfl, _, rfl, a, d, r, e, i, l, rfl, same_tup s3 (same_tup s2 ht), s3 d _ (s2 d _ hd), he, hi, hl, fun H4 b s4 nb hb => ?_⟩
      have bD : b ≠ D := fun z => by rw [z, s3 D _ hD] at nb; cases nb
      have hb2 : H4 b = some (.lst ((stp e l r i).map V.int)) := by rw [stp, if_pos c]; exact hb
      refine done _ _ (s3.trans s4) ⟨L ++ [(b, stp e l r i)], srefs_snoc L b _, ?_, fun m hm => ?_⟩
      · rw [List.map_append, f2, range_moreI]
        rfl
      · rcases List.mem_append.mp hm with z | z
        · exact ⟨(f3 m z).1, s4 _ _ (s3 _ _ (f3 m z).2)⟩
        · rw [List.mem_singleton.mp z]; exact ⟨bD, hb2⟩
    · refine iteDF (by omega) ⟨(by show 0 ≤ sizeLine; decide), fun b nb => ?_⟩
      have bD : b ≠ D := fun z => by rw [z, s3 D _ hD] at nb; cases nb
      refine done _ _ (s3.trans (same_upd nb)) ⟨L ++ [(b, [])], srefs_snoc L b _, ?_, fun m hm => ?_⟩
      · rw [List.map_append, f2, range_moreI]
        show _ ++ [_] = _ ++ [stp e l r i]
        rw [stp, if_neg c]
      · rcases List.mem_append.mp hm with z | z
        · exact ⟨(f3 m z).1, same_upd nb _ _ (s3 _ _ (f3 m z).2)⟩
        · rw [List.mem_singleton.mp z]; exact ⟨bD, upd_same⟩
  · obtain ⟨L, rfl, f2, f3⟩ := g
    rw [tv_len] at f2
    exact k H2 D L s2 hD (fun m hm => (f3 m hm).2) f2
end
/-! ### eager_robots -/
def eg (r : List Nat) (t : List (List Int)) : Nat := (((List.range r.length).filter fun p => decide (0 < (t.getD p []).length)).map fun p => r.getD p 0).sum
def spEagerRobots (K : PySem.W.Frag) : Sp := fun vs H Q _ => ∃ (a b : Addr) (r : List Nat) (L : List Stp), vs = [.ref a, .ref b] ∧ Tp K H a r ∧ r.length ≤ 100 ∧ H b = some (.lst (srefs L)) ∧ Sts H L ∧ L.length = r.length ∧ ∀ H', Same H H' → Q (.int (eg r (L.map (·.2)) : Nat)) H'
abbrev nEagerRobots : List Str := ["ring", "steps", "place", "robots"]
theorem scEagerRobots : FnScope nEagerRobots ["ring", "steps"] (defScope sEagerRobots) := ⟨rfl, rfl, rfl, by decide +kernel, rfl, by decide +kernel, by decide +kernel⟩
section
variable {P : Program} {w : World} {K : PySem.W.Frag} {mg : Str → Option Value} {base : Heap}
theorem ok_eager_robots {f : Addr} {fd : FuncData} (B : Bt mg) (F : Fun K "eager_robots" "eager_robots" sEagerRobots f fd) : FnOk P w K mg base CX0 1 f fd ["ring", "steps"] (spEagerRobots K) := by
  refine F.ok scEagerRobots (fun vs H Q E h => ?_) (fun cdv A outer s H vs Q E hr h => ?_)
  · obtain ⟨a, b, r, L, rfl, _⟩ := h
    rfl
  obtain ⟨a, b, r, L, rfl, ht, hl, hb, hs, hL, k⟩ := h
  refine ⟨_, pss_one (ps_ret (pe_callB (cr_sum rfl) (by rfl) B.sum (by decide +kernel) (pa_cons (pe_lc (own := [("place", 2), ("robots", 3)]) (g := gTup K 2 (gCons (gName 2) (gCons (gName 3) gNil)))
    (tt := tTest (tOp (rI0 fun i j => .bl (decide (j < i))) (tCB (fun xs H Q => ∃ p ys, xs = [.ref p] ∧ (SqL K H p ys ∨ SqT K H p ys) ∧ Q (.int ((ys.length : Nat) : Int)) H) (tCons (tOp (rIxL K) (tVar 1) (tVar 2)) tNil)) (tC (.int 0)))) (te := tVar 3)
    rfl scEagerRobots.nd (GsR.pi_enumT (by rfl) B.enumerate (pa_cons (pv 0) pa_nil)) (blkOk_by (own := [("place", 2), ("robots", 3)]) (N := nEagerRobots) (sc := defScope sEagerRobots) (by decide +kernel))
    (fun _ _ _ _ _ => pg_tup rfl (pgs_cons (pg_name (i := 2) scEagerRobots.nd rfl (Or.inl rfl)) (pgs_cons (pg_name (i := 3) scEagerRobots.nd rfl (Or.inl rfl)) pgs_nil)))
    (fun _ _ _ _ _ => pts_one (pt_cmpR op_gt (pe_callB call_len_seq (by rfl) B.len PySem.boot_len (pa_cons (pe_ix ix_list (pv 1) (pv 2) (fun _ _ => rfl)) pa_nil)) pe_int (nomark _))) (fun _ _ _ _ _ => pv 3)) pa_nil))), ?_⟩
  refine ⟨_, rfl, a, tv r, rfl, SqT.of ht, fun D nD => ?_⟩
  refine comp_it (GsR.walk_enumT (K := K) (a := a) (xs := tv r)) nD (by rw [tv_len, sizeLine_eq]; omega) (fun i ys _ => ys = tv (((List.range i).filter fun p => decide (0 < ((L.map (·.2)).getD p []).length)).map fun p => r.getD p 0)) (fun H2 s2 => SqT.of (same_tup s2 ht)) rfl (fun _ _ _ _ _ _ _ z => z) (fun i x ys H2 H3 hi s2 hD g y R R' done skip => ?_) fun ys H2 s2 hD hy g => ?_
  · obtain ⟨T, x1, x2, rfl, nT, rfl, e1, e2⟩ := y
    obtain rfl : V.int (i : Nat) = x1 := Option.some.inj e1
    rw [tv_len] at hi
    obtain rfl : V.int ((r.getD i 0 : Nat) : Int) = x2 := Option.some.inj ((tv_at hi).symm.trans e2)
    have s3 : Same H2 (upd H2 T (.tup [V.int (i : Nat), V.int ((r.getD i 0 : Nat) : Int)])) := same_upd nT
    have hiL : i < L.length := by omega
    have em : L[i]? = some L[i] := List.getElem?_eq_getElem hiL
    generalize L[i] = m at em
    have eg1 : (srefs L)[i]? = some (V.ref m.1) := by rw [List.getElem?_map, em]; rfl
    have eg2 : (L.map (·.2)).getD i [] = m.2 := by rw [List.getD_eq_getElem?_getD, List.getElem?_map, em]; rfl
    refine ⟨T, _, rfl, SqT.of upd_same, rfl, _, _, rfl, _, _, rfl, rfl, rfl, _, rfl, _, rfl, b, _, _, _, rfl, rfl, SqL.of (s3 b _ (s2 b _ hb)), atI_nat eg1, m.1, _, rfl, .inl (SqL.of (s3 _ _ (s2 _ _ (hs m (List.mem_of_getElem? em))))), _, _, rfl, rfl, _, rfl, ?_⟩
    rw [List.length_map]
    by_cases c : 0 < m.2.length
    · refine iteDT (by omega) ⟨_, rfl, done _ _ s3 ?_⟩
      rw [g, List.range_succ, List.filter_append, List.filter_cons_of_pos (by rw [eg2]; exact decide_eq_true c), List.map_append, tv_app]
      rfl
    · refine iteDF (by omega) (skip _ s3 ?_)
      rw [g, List.range_succ, List.filter_append, List.filter_cons_of_neg (by rw [eg2]; simpa using c)]
      simp
  · refine ⟨D, ni (((List.range r.length).filter fun p => decide (0 < ((L.map (·.2)).getD p []).length)).map fun p => r.getD p 0), rfl, SqL.of ?_, ?_⟩
    · rw [hD, g, tv_len]
    · rw [ni_sum]
      exact k H2 s2
end
end Gp
namespace Gp
open PySem PySem.Spec PyProof.Rows L2
/-! ### plays: how many have gone, and the ring then -/
abbrev Pl := Addr × (Nat × List Nat)
abbrev prefs (L : List Pl) : List V := L.map fun m => V.ref m.1
def PlAt (K : PySem.W.Frag) (H : Hp) (L : List Pl) : Prop := ∀ m ∈ L, ∃ b, H m.1 = some (.tup [.int (m.2.1 : Int), .ref b]) ∧ Tp K H b m.2.2
theorem PlAt.same {K : PySem.W.Frag} {H H' : Hp} {L : List Pl} (h : PlAt K H L) (e : Same H H') : PlAt K H' L := fun m hm => let ⟨b, h1, h2⟩ := h m hm; ⟨b, e _ _ h1, e _ _ h2⟩
theorem PlAt.but {K : PySem.W.Frag} {H H' : Hp} {L : List Pl} {D : Addr} {ys : List V} (h : PlAt K H L) (hD : H D = some (.lst ys)) (e : But D H H') : PlAt K H' L := fun m hm => let ⟨b, h1, h2⟩ := h m hm; ⟨b, e.tup hD h1, e.tup hD h2⟩
theorem PlAt.app {K : PySem.W.Frag} {H : Hp} {L M : List Pl} (h : PlAt K H L) (h' : PlAt K H M) : PlAt K H (L ++ M) := fun m hm => by
  rcases List.mem_append.mp hm with z | z
  · exact h m z
  · exact h' m z
theorem prefs_snoc (L : List Pl) (b : Addr) (x : Nat × List Nat) : prefs L ++ [V.ref b] = prefs (L ++ [(b, x)]) := by
  show _ = (L ++ [(b, x)]).map fun m => V.ref m.1
  rw [List.map_append]
  rfl
/-- one more goes -/
def goneOn (p : Nat) (S : List Int) (x : Nat × List Nat) : List (Nat × List Nat) := S.map fun s => (x.1 + 1, Km535.move x.2 p (Gs.goTo x.2.length p s))
/-! ### with_one_more -/
def spWithOne (K : PySem.W.Frag) : Sp := fun vs H Q _ => ∃ (a b : Addr) (p : Nat) (S : List Int) (L : List Pl), vs = [.ref a, .int p, .ref b] ∧ H a = some (.lst (prefs L)) ∧ PlAt K H L ∧ L.length ≤ 1000 ∧ S.length ≤ 2 ∧ H b = some (.lst (S.map V.int)) ∧
  (∀ m ∈ L, p < m.2.2.length ∧ m.2.2.length ≤ 100 ∧ 1 ≤ m.2.2.getD p 0) ∧ ∀ H' c (M : List Pl), Same H H' → H' c = some (.lst (prefs M)) → PlAt K H' M → M.map (·.2) = L.map (·.2) ++ (L.map (·.2)).flatMap (goneOn p S) → M.length ≤ 3000 → Q (.ref c) H'
abbrev nWithOne : List Str := ["plays", "place", "steps_here", "more", "gone", "ring", "step"]
theorem scWithOne : FnScope nWithOne ["plays", "place", "steps_here"] (defScope sWithOne) := ⟨rfl, rfl, rfl, by decide +kernel, rfl, by decide +kernel, by decide +kernel⟩
theorem len_gone (p : Nat) {S : List Int} (hS : S.length ≤ 2) : ∀ l : List (Nat × List Nat), (l.flatMap (goneOn p S)).length ≤ 2 * l.length
  | [] => Nat.zero_le _
  | x :: l => by
    have := len_gone p hS l
    rw [List.flatMap_cons, List.length_append, List.length_cons, goneOn, List.length_map]
    omega
section
variable {P : Program} {w : World} {K : PySem.W.Frag} {mg : Str → Option Value} {base : Heap}
theorem ok_with_one {f : Addr} {fd : FuncData} (B : Bt mg) (F : Fun K "with_one_more" "with_one_more" sWithOne f fd) (dS : Def P w K mg base 1 "stepped" (spStepped K)) : FnOk P w K mg base CX0 2 f fd ["plays", "place", "steps_here"] (spWithOne K) := by
  refine F.ok scWithOne (fun vs H Q E h => ?_) (fun cdv A outer s H vs Q E hr h => ?_)
  · obtain ⟨a, b, p, S, L, rfl, _⟩ := h
    rfl
  obtain ⟨a, b, p, S, L, rfl, ha, hL, lL, lS, hb, hp, k⟩ := h
  refine ⟨_, pss_cons (ps_set (i := 3) scWithOne.nd rfl (Or.inl rfl) (pe_callTy call_list_of (by rfl) B.list (by decide +kernel) (pa_cons (pv 0) pa_nil)))
    (pss_cons (ps_for PassesOwn.never rfl (pi_list (pv 0)) (pg_tup rfl (pgs_cons (pg_name (i := 4) scWithOne.nd rfl (Or.inr rfl)) (pgs_cons (pg_name (i := 5) scWithOne.nd rfl (Or.inr rfl)) pgs_nil)))
      (pss_one (ps_expr (pe_bm PySem.F.plainAttrs_list PySem.F.slot_list_extend PySem.F.type_list_extend mt_extend (pv 3) (pa_cons
        (pe_lc (own := [("step", 6)]) (g := gName 6) (tt := tYes) (te := tTup (tCons (tOp (rI0 fun i j => .int (i + j)) (tVar 4) (tC (.int 1))) (tCons (tCall (spStepped K) [] E0 (tCons (tVar 5) (tCons (tVar 1) (tCons (tVar 6) tNil)))) tNil)))
          rfl scWithOne.nd (pi_list (pv 2)) (blkOk_by (own := [("step", 6)]) (N := nWithOne) (sc := defScope sWithOne) (by decide +kernel)) (fun _ _ _ _ _ => pg_name (i := 6) scWithOne.nd rfl (Or.inl rfl)) (fun _ _ _ _ _ => pts_nil)
          (fun _ _ _ _ _ => pe_tup (pa_cons (pe_op op_add (pv 4) pe_int) (pa_cons (pe_def dS hr (by decide) (by rfl) (pa_cons (pv 5) (pa_cons (pv 1) (pa_cons (pv 6) pa_nil)))) pa_nil)))) pa_nil)))))
    (pss_one (ps_ret (pv 3)))), ?_⟩
  refine ⟨_, rfl, a, _, rfl, .inl (SqL.of ha), fun l nl => ?_⟩
  refine ⟨_, rfl, a, rfl, ⟨_, SqL.of (same_upd nl a _ ha)⟩, ?_⟩
  refine for_it (walk_list (K := K) (a := a) (xs := prefs L)) (fun j σ H2 => ∃ (M : List Pl) (v4 v5 : Option V), σ = [some (.ref a), some (.int p), some (.ref b), some (.ref l), v4, v5, none] ∧ Same H H2 ∧ H2 l = some (.lst (prefs M)) ∧ PlAt K H2 M ∧ M.map (·.2) = L.map (·.2) ++ ((L.map (·.2)).take j).flatMap (goneOn p S))
    ⟨L, none, none, rfl, same_upd nl, upd_same, hL.same (same_upd nl), by simp⟩ (fun j σ H2 _ => fun ⟨M, _, _, _, s2, _⟩ => SqL.of (s2 a _ ha)) ?_ ?_
  · rintro j x σ H1 H2 hj ⟨M, v4, v5, rfl, s2, hl, hM, eM⟩ ⟨rfl, hx⟩
    obtain ⟨m, em, rfl⟩ : ∃ m, L[j]? = some m ∧ x = V.ref m.1 := by
      rw [List.getElem?_map] at hx
      obtain ⟨m, e1, e2⟩ := Option.map_eq_some_iff.mp hx
      exact ⟨m, e1, e2.symm⟩
    have mL := List.mem_of_getElem? em
    obtain ⟨c, hc1, hc2⟩ := (hL.same s2) m mL
    obtain ⟨p1, p2, p3⟩ := hp m mL
    have mB : (L.map (·.2))[j]? = some m.2 := by rw [List.getElem?_map, em]; rfl
    have lenM : M.length ≤ 3000 := by
      have e1 := congrArg List.length eM
      have e2 := len_gone p lS ((L.map (·.2)).take j)
      rw [List.length_map, List.length_append, List.length_map] at e1
      rw [List.length_take, List.length_map] at e2
      omega
    refine ⟨m.1, _, rfl, SqT.of hc1, rfl, _, _, rfl, _, _, rfl, rfl, ?_⟩
    refine ⟨_, rfl, .inl ⟨rfl, _, SqL.of hl⟩, _, rfl, b, rfl, ⟨_, SqL.of (s2 b _ hb)⟩, fun D nD => ?_⟩
    refine comp_it (walk_list (K := K) (a := b) (xs := S.map V.int)) nD (by rw [List.length_map, sizeLine_eq]; omega) (fun i ys H3 => ∃ N : List Pl, ys = prefs N ∧ N.map (·.2) = goneOn p (S.take i) m.2 ∧ PlAt K H3 N) (fun H3 s3 => SqL.of (s3 b _ (s2 b _ hb))) ⟨[], rfl, rfl, fun m hm => (by cases hm)⟩
      (fun i ys zs H3 H4 hD e => fun ⟨N, e1, e2, e3⟩ => ⟨N, e1, e2, e3.but hD e⟩) (fun i x ys H3 H4 hi s3 hD g y R R' done _ => ?_) fun ys H3 s3 hD hy g => ?_
    · obtain ⟨rfl, hx⟩ := y
      obtain ⟨N, rfl, e2, e3⟩ := g
      rw [List.getElem?_map] at hx
      obtain ⟨t, et, rfl⟩ := Option.map_eq_some_iff.mp hx
      refine ⟨rfl, _, rfl, _, _, rfl, rfl, _, rfl, _, rfl, _, rfl, c, m.2.2, p, t, rfl, same_tup s3 hc2, p1, p2, p3, fun H5 u s5 t5 => ?_⟩
      refine ⟨(by show 2 ≤ sizeLine; decide), fun q nq => done _ _ (s5.trans (same_upd nq)) ⟨N ++ [(q, (m.2.1 + 1, Km535.move m.2.2 p (Gs.goTo m.2.2.length p t)))], prefs_snoc N q _, ?_, ?_⟩⟩
      · rw [List.map_append, e2, GsR.took et]
        show _ ++ [_] = List.map _ (S.take i ++ [t])
        rw [List.map_append]
        rfl
      · refine (e3.same (s5.trans (same_upd nq))).app fun z hz => ?_
        rw [List.mem_singleton.mp hz]
        refine ⟨u, upd_same, same_upd nq _ _ t5⟩
    · obtain ⟨N, rfl, e2, e3⟩ := g
      rw [List.length_map, List.take_length] at e2
      have lenN : N.length ≤ 2 := by
        have e1 := congrArg List.length e2
        rw [List.length_map, goneOn, List.length_map] at e1
        omega
      refine ⟨l, D, _, _, rfl, rfl, s3 l _ hl, hD, ?_, ?_⟩
      · rw [List.length_map, List.length_map, sizeLine_eq]
        omega
      · have but : But l H3 (upd H3 l (.lst (prefs M ++ prefs N))) := fun b o hb e => (upd_ne hb).trans e
        refine ⟨M ++ N, some (.int (m.2.1 : Int)), some (.ref c), rfl, fun b o e => ?_, ?_, ?_, ?_⟩
        · have nb : b ≠ l := fun z => by rw [z, nl] at e; cases e
          exact (upd_ne nb).trans (s3 b o (s2 b o e))
        · rw [upd_same, prefs, prefs, prefs, ← List.map_append]
        · exact ((hM.same s3).app e3).but (s3 l _ hl) but
        · rw [List.map_append, eM, e2, take_flat (goneOn p S) mB, List.append_assoc]
  · rintro σ H2 ⟨M, v4, v5, rfl, s2, hl, hM, eM⟩
    rw [List.length_map, ← List.length_map (f := fun m : Pl => m.2), List.take_length] at eM
    have lenM : M.length ≤ 3000 := by
      have e1 := congrArg List.length eM
      have e2 := len_gone p lS (L.map (·.2))
      rw [List.length_map, List.length_append, List.length_map] at e1
      rw [List.length_map] at e2
      omega
    exact ⟨_, rfl, k H2 l M s2 hl hM eM lenM⟩
end
/-! ### may_go -/
def goB (a g t : Nat) : Bool := if a = 0 then decide (g = 1) else if a = 1 then decide (1 ≤ g) else (decide (1 ≤ g) && decide (g = t))
theorem goB_ok {a g t : Nat} (h : a ≤ 2) : goB a g t = true ↔ Gs.goOk a g t := by
  unfold goB Gs.goOk
  match a, h with
  | 0, _ => simp
  | 1, _ => simp
  | 2, _ => simp
def spMayGo : Sp := fun vs H Q _ => ∃ (g t a : Nat), vs = [.int g, .int t, .int a] ∧ a ≤ 2 ∧ Q (.bl (goB a g t)) H
theorem scMayGo : FnScope ["gone", "eager", "mode"] ["gone", "eager", "mode"] (defScope sMayGo) := ⟨rfl, rfl, rfl, by decide +kernel, rfl, by decide +kernel, by decide +kernel⟩
/-- the numbers that the top names -/
structure Cst (mg : Str → Option Value) : Prop where
  one : ∃ t, mg "ONE_GOES" = some (.int 0 t)
  some : ∃ t, mg "SOME_GO" = some (.int 1 t)
section
variable {P : Program} {w : World} {K : PySem.W.Frag} {mg : Str → Option Value} {base : Heap}
theorem ok_may_go {f : Addr} {fd : FuncData} (C : Cst mg) (F : Fun K "may_go" "may_go" sMayGo f fd) : FnOk P w K mg base CX0 1 f fd ["gone", "eager", "mode"] spMayGo := by
  refine F.ok scMayGo (fun vs H Q E h => ?_) (fun cdv A outer s H vs Q E hr h => ?_)
  · obtain ⟨g, t, a, rfl, _⟩ := h
    rfl
  obtain ⟨g, t, a, rfl, ha, k⟩ := h
  obtain ⟨t1, m1⟩ := C.one
  obtain ⟨t2, m2⟩ := C.some
  refine ⟨_, pss_cons (ps_if (pt_cmpR op_eq (pv 2) (pe_glob (v := .int 0) rfl m1 ⟨_, rfl⟩) (nomark _)) (pss_one (ps_ret (pe_cmpR op_eq (pv 0) pe_int (nomark _)))) pss_nil)
    (pss_cons (ps_if (pt_cmpR op_eq (pv 2) (pe_glob (v := .int 1) rfl m2 ⟨_, rfl⟩) (nomark _)) (pss_one (ps_ret (pe_cmpR op_ge (pv 0) pe_int (nomark _)))) pss_nil)
    (pss_one (ps_ret (pe_and (pe_cmpR op_ge (pv 0) pe_int (nomark _)) (pe_one (pe_cmpR op_eq (pv 0) (pv 1) (nomark _))))))), ?_⟩
  unfold goB at k
  refine ⟨_, rfl, rfl, _, rfl, ?_⟩
  rw [dec_int]
  by_cases c0 : a = 0
  · rw [if_pos c0] at k
    refine iteDT (by omega) ⟨_, rfl, rfl, ?_⟩
    rw [dec_int]
    have e : decide ((g : Int) = 1) = decide (g = 1) := decide_eq_decide.mpr (by omega)
    rw [e]
    exact k
  · rw [if_neg c0] at k
    refine iteDF (by omega) ⟨_, rfl, rfl, _, rfl, ?_⟩
    rw [dec_int]
    have e1 : decide ((1 : Int) ≤ (g : Int)) = decide (1 ≤ g) := decide_eq_decide.mpr (by omega)
    by_cases c1 : a = 1
    · rw [if_pos c1] at k
      refine iteDT (by omega) ⟨_, rfl, _, _, rfl, rfl, ?_⟩
      try dsimp only
      rw [e1]
      exact k
    · rw [if_neg c1] at k
      refine iteDF (by omega) ⟨_, rfl, _, _, rfl, rfl, _, rfl, ?_⟩
      try dsimp only
      rw [e1]
      by_cases d : 1 ≤ g
      · rw [decide_eq_true d] at k ⊢
        refine ⟨_, rfl, _, rfl, rfl, ?_⟩
        rw [dec_int]
        have e2 : decide ((g : Int) = (t : Int)) = decide (g = t) := decide_eq_decide.mpr (by omega)
        rw [e2]
        exact k
      · rw [decide_eq_false d] at k ⊢
        exact k
end
end Gp
namespace Gp
open PySem PySem.Spec PyProof.Rows L2
/-! ### all_plays -/
/-- the steps of a place in a list of them -/
def sAt (t : List (List Int)) (p : Nat) : List Int := t.getD p []
def spAllPlays (K : PySem.W.Frag) : Sp := fun vs H Q _ => ∃ (a b : Addr) (r : List Nat) (L : List Stp) (e : Nat), vs = [.ref a, .ref b] ∧ Tp K H a r ∧ H b = some (.lst (srefs L)) ∧ Sts H L ∧ L.length = r.length ∧ Gs.Ok r ∧ e ≤ 2 ∧ Gs.Stps e r (sAt (L.map (·.2))) ∧
  ∀ H' c (M : List Pl), Same H H' → H' c = some (.lst (prefs M)) → PlAt K H' M → (∀ x, x ∈ M.map (·.2) ↔ ∃ w, Gs.Play r (Gs.Ts r.length (sAt (L.map (·.2)))) w ∧ x = (w.length, Km535.doAll r w)) → M.length ≤ 62 → Q (.ref c) H'
abbrev nAllPlays : List Str := ["ring", "steps", "plays", "place", "robots", "robot"]
theorem scAllPlays : FnScope nAllPlays ["ring", "steps"] (defScope sAllPlays) := ⟨rfl, rfl, rfl, by decide +kernel, rfl, by decide +kernel, by decide +kernel⟩
def pitm (x : Nat × List Nat) : GsR.Itm := .pair (x.1 : Int) (ni x.2)
theorem pitm_inj {x y : Nat × List Nat} (h : pitm x = pitm y) : x = y := by
  injection h with h1 h2
  exact Prod.ext (Int.ofNat_inj.mp h1) (ni_inj h2)
def pairs (L : List Pl) : List (Addr × GsR.Itm) := L.map fun m => (m.1, pitm m.2)
theorem pairs_lift {L : List Pl} : ∀ {M : List (Addr × GsR.Itm)}, (∀ m ∈ M, m ∈ pairs L) → ∃ N : List Pl, M = pairs N ∧ ∀ m ∈ N, m ∈ L
  | [], _ => ⟨[], rfl, fun m h => (by cases h)⟩
  | m :: M, h => by
    obtain ⟨N, e, hN⟩ := pairs_lift fun q hq => h q (List.mem_cons_of_mem _ hq)
    obtain ⟨p, hp, e2⟩ := List.mem_map.mp (h m List.mem_cons_self)
    refine ⟨p :: N, by rw [e, ← e2]; rfl, fun q hq => ?_⟩
    rcases List.mem_cons.mp hq with rfl | hq
    · exact hp
    · exact hN q hq
theorem pairs_refs (N : List Pl) : (pairs N).map (fun q => V.ref q.1) = prefs N := by
  rw [pairs, List.map_map]
  rfl
theorem alike_pairs (N : List Pl) : ∀ m ∈ pairs N, ∀ q ∈ pairs N, GsR.Alike m.2 q.2 := by
  intro m hm q hq
  obtain ⟨a, ha, rfl⟩ := List.mem_map.mp hm
  obtain ⟨b, hb, rfl⟩ := List.mem_map.mp hq
  trivial
section
variable {P : Program} {w : World} {K : PySem.W.Frag} {mg : Str → Option Value} {base : Heap}
theorem ok_all_plays {f : Addr} {fd : FuncData} (B : Bt mg) (F : Fun K "all_plays" "all_plays" sAllPlays f fd) (dW : Def P w K mg base 2 "with_one_more" (spWithOne K)) : FnOk P w K mg base CX0 3 f fd ["ring", "steps"] (spAllPlays K) := by
  refine F.ok scAllPlays (fun vs H Q E h => ?_) (fun cdv A outer s H vs Q E hr h => ?_)
  · obtain ⟨a, b, r, L, e, rfl, _⟩ := h
    rfl
  obtain ⟨a, b, r, L, e, rfl, ht, hb, hs, hL, ok, he, st, k⟩ := h
  have tk := st.tok ok.lo
  obtain ⟨D, lD, cov⟩ := st.few he ok
  have h7 := ok.hi
  refine ⟨_, pss_cons (ps_set (i := 2) scAllPlays.nd rfl (Or.inl rfl) (pe_lst (pa_cons (pe_tup (pa_cons pe_int (pa_cons (pv 0) pa_nil))) pa_nil)))
    (pss_cons (ps_for PassesOwn.never rfl (GsR.pi_enumT (by rfl) B.enumerate (pa_cons (pv 0) pa_nil)) (pg_tup rfl (pgs_cons (pg_name (i := 3) scAllPlays.nd rfl (Or.inl rfl)) (pgs_cons (pg_name (i := 4) scAllPlays.nd rfl (Or.inl rfl)) pgs_nil)))
      (pss_one (ps_for PassesOwn.never rfl (pi_range1 rfl B.range (pa_cons (pv 4) pa_nil)) (pg_name (i := 5) scAllPlays.nd rfl (Or.inl rfl))
        (pss_one (ps_set (i := 2) scAllPlays.nd rfl (Or.inl rfl) (pe_callB (GsR.cr_sorted rfl hr.units) (by rfl) B.sorted (by decide +kernel) (pa_cons (pe_callTy (GsR.cr_set rfl hr.units) (by rfl) B.set (by decide +kernel) (pa_cons
          (pe_def dW hr (by decide) (by rfl) (pa_cons (pv 2) (pa_cons (pv 3) (pa_cons (pe_ix ix_list (pv 1) (pv 3) (fun _ _ => rfl)) pa_nil)))) pa_nil)) pa_nil)))))))
    (pss_one (ps_ret (pv 2)))), ?_⟩
  refine ⟨_, rfl, (by show 2 ≤ sizeLine; decide), fun t0 nt0 => ?_⟩
  refine ⟨(by show 1 ≤ sizeLine; decide), fun c0 nc0 => ?_⟩
  have s0 := (same_upd nt0 (o := .tup [.int 0, .ref a])).trans (same_upd nc0 (o := .lst [.ref t0]))
  refine ⟨_, rfl, a, tv r, rfl, SqT.of (s0 a _ ht), ?_⟩
  refine for_it (GsR.walk_enumT (K := K) (a := a) (xs := tv r)) (fun i σ H1 => ∃ (c : Addr) (M : List Pl) (v3 v4 v5 : Option V), σ = [some (.ref a), some (.ref b), some (.ref c), v3, v4, v5] ∧ Same H H1 ∧ H1 c = some (.lst (prefs M)) ∧ PlAt K H1 M ∧ (∀ x, x ∈ M.map (·.2) ↔ Gs.Stage r (Gs.Ts r.length (sAt (L.map (·.2)))) i 0 x) ∧ M.length ≤ 62)
    ⟨c0, [(t0, (0, r))], none, none, none, rfl, s0, upd_same, ?_, ?_, by simp⟩ (fun i σ H1 _ => fun ⟨c, M, _, _, _, _, s1, _⟩ => SqT.of (s1 a _ ht)) ?_ ?_
  · intro m hm
    rw [List.mem_singleton.mp hm]
    refine ⟨a, same_upd nc0 _ _ upd_same, s0 a _ ht⟩
  · intro x
    rw [Gs.stage_zero]
    simp
  · rintro i x σ H1 H2 hi ⟨c, M, v3, v4, v5, rfl, s1, hc, hM, mM, lM⟩ ⟨T, x1, x2, rfl, nT, rfl, e1, e2⟩
    obtain rfl : V.int (i : Nat) = x1 := Option.some.inj e1
    rw [tv_len] at hi
    obtain rfl : V.int ((r.getD i 0 : Nat) : Int) = x2 := Option.some.inj ((tv_at hi).symm.trans e2)
    have s2 : Same H1 (upd H1 T (.tup [V.int (i : Nat), V.int ((r.getD i 0 : Nat) : Int)])) := same_upd nT
    have few : r.getD i 0 ≤ 4 := by
      have := Gs.sum_set r i 0 hi
      have := ok.few
      omega
    refine ⟨T, _, rfl, SqT.of upd_same, rfl, _, _, rfl, _, _, rfl, rfl, ?_⟩
    refine ⟨_, rfl, ((r.getD i 0 : Nat) : Int), rfl, by omega, by omega, ?_⟩
    rw [Int.toNat_natCast]
    refine for_it (walk_range (lo := 0) (n := r.getD i 0)) (fun j σ H3 => ∃ (c : Addr) (M : List Pl) (v5 : Option V), σ = [some (.ref a), some (.ref b), some (.ref c), some (.int (i : Nat)), some (.int ((r.getD i 0 : Nat) : Int)), v5] ∧ Same H H3 ∧ H3 c = some (.lst (prefs M)) ∧ PlAt K H3 M ∧ (∀ x, x ∈ M.map (·.2) ↔ Gs.Stage r (Gs.Ts r.length (sAt (L.map (·.2)))) i j x) ∧ M.length ≤ 62)
      ⟨c, M, v5, rfl, s1.trans s2, s2 c _ hc, hM.same s2, mM, lM⟩ (fun _ _ _ _ _ => trivial) ?_ ?_
    · rintro j x σ H3 H4 hj ⟨c, M, v5, rfl, s3, hc, hM, mM, lM⟩ ⟨rfl, rfl⟩
      have hiL : i < L.length := by omega
      have em : L[i]? = some L[i] := List.getElem?_eq_getElem hiL
      generalize L[i] = m at em
      have eg1 : (srefs L)[i]? = some (V.ref m.1) := by rw [List.getElem?_map, em]; rfl
      have eg2 : sAt (L.map (·.2)) i = m.2 := by rw [sAt, List.getD_eq_getElem?_getD, List.getElem?_map, em]; rfl
      have two : m.2.length ≤ 2 := by
        have := tk.two i
        rw [Gs.Ts, List.length_map, eg2] at this
        exact this
      refine ⟨_, rfl, _, rfl, _, rfl, _, rfl, b, _, _, _, rfl, rfl, SqL.of (s3 b _ hb), atI_nat eg1, ?_⟩
      refine ⟨c, m.1, i, m.2, M, rfl, hc, hM, by omega, two, s3 _ _ (hs m (List.mem_of_getElem? em)), fun q hq => ?_, fun H5 g N s5 hg hN eN lN => ?_⟩
      · have z := (mM q.2).mp (List.mem_map.mpr ⟨q, hq, rfl⟩)
        have z1 := Gs.stage_len z
        exact ⟨by omega, by omega, Gs.stage_pos tk hi z hj⟩
      have mN : ∀ x, x ∈ N.map (·.2) ↔ Gs.Stage r (Gs.Ts r.length (sAt (L.map (·.2)))) i (j + 1) x := fun x => by
        rw [eN, List.mem_append, List.mem_flatMap, Gs.stage_more, ← mM x]
        refine or_congr Iff.rfl ?_
        constructor
        · rintro ⟨y, hy, hx⟩
          obtain ⟨sg, hsg, rfl⟩ := List.mem_map.mp hx
          have hy2 := (mM y).mp hy
          refine ⟨y, hy2, Gs.goTo r.length i sg, List.mem_map.mpr ⟨sg, by rw [eg2]; exact hsg, rfl⟩, ?_⟩
          rw [Gs.stage_len hy2]
        · rintro ⟨y, hy, q, hq, rfl⟩
          obtain ⟨sg, hsg, rfl⟩ := List.mem_map.mp hq
          rw [eg2] at hsg
          refine ⟨y, (mM y).mpr hy, List.mem_map.mpr ⟨sg, hsg, ?_⟩⟩
          rw [Gs.stage_len hy]
      have inD : ∀ m ∈ N, pitm m.2 ∈ D.map pitm := fun q hq => by
        have z := (mN q.2).mp (List.mem_map.mpr ⟨q, hq, rfl⟩)
        obtain ⟨wy, fy, ey⟩ := Gs.stage_up hi (show j + 1 ≤ r.getD i 0 from hj) z
        rw [ey]
        exact List.mem_map.mpr ⟨_, cov wy fy, rfl⟩
      refine ⟨g, pairs N, D.map pitm, rfl, SqL.of (by rw [pairs_refs]; exact hg), fun q hq => ?_, fun q hq => ?_, by rw [List.length_map]; exact lD, fun S Z nS hZ hcov nd => ?_⟩
      · obtain ⟨z, hz, rfl⟩ := List.mem_map.mp hq
        obtain ⟨u, h1, h2⟩ := hN z hz
        exact ⟨u, SqT.of h1, SqT.of h2⟩
      · obtain ⟨z, hz, rfl⟩ := List.mem_map.mp hq
        exact inD z hz
      obtain ⟨Y, rfl, hY⟩ := pairs_lift hZ
      have s6 := same_upd nS (o := GsR.SetO w S (pairs Y))
      refine ⟨S, pairs Y, rfl, upd_same, fun q hq => ?_, alike_pairs Y, fun Z2 p pm srt np => ?_⟩
      · obtain ⟨z, hz, rfl⟩ := List.mem_map.mp hq
        obtain ⟨u, h1, h2⟩ := hN z (hY z hz)
        exact ⟨u, SqT.of (s6 _ _ h1), SqT.of (s6 _ _ h2)⟩
      obtain ⟨Y2, rfl, hY2⟩ := pairs_lift (L := Y) fun q hq => pm.mem_iff.mp hq
      have s7 := s6.trans (same_upd np (o := .lst ((pairs Y2).map fun q => V.ref q.1)))
      have nd2 : ((pairs Y2).map (·.2)).Nodup := (pm.map (·.2)).nodup_iff.mpr nd
      refine ⟨p, Y2, some (.int (0 + (j : Int))), rfl, (s3.trans s5).trans s7, ?_, fun q hq => (hN.same s7) q (hY q (hY2 q hq)), fun x => ?_, ?_⟩
      · rw [upd_same, pairs_refs]
      · rw [← mN x]
        constructor
        · intro hx
          obtain ⟨z, hz, rfl⟩ := List.mem_map.mp hx
          exact List.mem_map.mpr ⟨z, hY z (hY2 z hz), rfl⟩
        · intro hx
          obtain ⟨z, hz, rfl⟩ := List.mem_map.mp hx
          obtain ⟨u, hu, eu⟩ := List.mem_map.mp (hcov (z.1, pitm z.2) (List.mem_map.mpr ⟨z, hz, rfl⟩))
          obtain ⟨v, hv, rfl⟩ := List.mem_map.mp (pm.mem_iff.mpr hu)
          exact List.mem_map.mpr ⟨v, hv, pitm_inj eu⟩
      · have z := Gs.nodup_le ((pairs Y2).map (·.2)) (D.map pitm) nd2 fun x hx => by
          obtain ⟨u, hu, rfl⟩ := List.mem_map.mp hx
          obtain ⟨v, hv, rfl⟩ := List.mem_map.mp hu
          exact inD v (hY v (hY2 v hv))
        rw [List.length_map, List.length_map, pairs, List.length_map] at z
        omega
    · rintro σ H3 ⟨c, M, v5, rfl, s3, hc, hM, mM, lM⟩
      exact ⟨c, M, _, _, v5, rfl, s3, hc, hM, fun x => (mM x).trans (Gs.stage_next _ _ _ _), lM⟩
  · rintro σ H1 ⟨c, M, v3, v4, v5, rfl, s1, hc, hM, mM, lM⟩
    rw [tv_len] at mM
    exact ⟨_, rfl, k H1 c M s1 hc hM (fun x => (mM x).trans (Gs.stage_last _ _ _)) lM⟩
end
end Gp
namespace Gp
open PySem PySem.Spec PyProof.Rows L2
/-! ### the steps' table and the rule -/
theorem stp_form (e : Nat) (l : List (List Nat × Nat)) (r : List Nat) : Gs.Stps e r (stp e l r) where
  form p := by
    unfold stp Gs.stepsOf
    split
    · split
      · exact .inl rfl
      · split
        · exact .inr (.inl rfl)
        · exact .inr (.inr rfl)
    · exact .inl rfl
  void p h := by
    unfold stp
    rw [if_neg (by omega)]
theorem sAt_tab (e : Nat) (l : List (List Nat × Nat)) (r : List Nat) : sAt (tab e l r) = stp e l r := by
  funext p
  unfold sAt tab
  rw [List.getD_eq_getElem?_getD, List.getElem?_map]
  by_cases h : p < r.length
  · rw [List.getElem?_range h]
    rfl
  · rw [List.getElem?_eq_none (by simpa using h)]
    show [] = stp e l r p
    unfold stp
    have : r.getD p 0 = 0 := by rw [List.getD_eq_getElem?_getD, List.getElem?_eq_none (by omega)]; rfl
    rw [if_neg (by omega)]
/-- with robots there, the steps lead where the rule lets go -/
theorem mem_stp (d : Km535.Desk) {r : List Nat} (h0 : 0 < r.length) {p : Nat} (hp : 0 < r.getD p 0) (q : Nat) : q ∈ Gs.Ts r.length (stp d.see.eyes d.rule r) p ↔ q ∈ Km535.goes d r p := by
  rw [Gs.mem_goes d h0, told_look]
  unfold Gs.Ts stp
  rw [if_pos hp]
theorem play_stp (d : Km535.Desk) {r : List Nat} (h0 : 0 < r.length) (w : List (Nat × Nat)) : Gs.Play r (Gs.Ts r.length (stp d.see.eyes d.rule r)) w ↔ Gs.Play r (Km535.goes d r) w := by
  have go : ∀ {T T' : Nat → List Nat}, (∀ p, 0 < r.getD p 0 → ∀ q, q ∈ T p → q ∈ T' p) → Gs.Play r T w → Gs.Play r T' w := fun h f => f.mono fun p _ b hb => by
    obtain ⟨qs, e1, e2, e3⟩ := hb
    refine ⟨qs, e1, fun q hq => ?_, e3⟩
    have : 0 < qs.length := List.length_pos_of_mem hq
    exact h p (by omega) q (e2 q hq)
  exact ⟨go fun p hp q => (mem_stp d h0 hp q).mp, go fun p hp q => (mem_stp d h0 hp q).mpr⟩
theorem sum_filter (f : Nat → Nat) (b : Nat → Bool) : ∀ l : List Nat, ((l.filter b).map f).sum = (l.map fun p => if b p = true then f p else 0).sum
  | [] => rfl
  | p :: l => by
    cases c : b p with
    | true => rw [List.filter_cons_of_pos c, List.map_cons, List.sum_cons, List.map_cons, List.sum_cons, sum_filter f b l, c, if_pos rfl]
    | false => rw [List.filter_cons_of_neg (by simp [c]), List.map_cons, List.sum_cons, sum_filter f b l, c]; simp
theorem eg_tot (d : Km535.Desk) {r : List Nat} (h0 : 0 < r.length) : eg r (tab d.see.eyes d.rule r) = Gs.tot r (Km535.goes d r) := by
  unfold eg Gs.tot
  rw [sum_filter]
  refine congrArg List.sum (List.map_congr_left fun p _ => ?_)
  have e1 : (tab d.see.eyes d.rule r).getD p [] = stp d.see.eyes d.rule r p := congrFun (sAt_tab _ _ _) p
  rw [e1]
  unfold Gs.cap
  by_cases hp : 0 < r.getD p 0
  · have e2 : decide (0 < (stp d.see.eyes d.rule r p).length) = Gs.eagerAt r (Km535.goes d r) p := by
      unfold Gs.eagerAt
      rw [decide_eq_true hp, Bool.true_and]
      by_cases c : stp d.see.eyes d.rule r p = []
      · have g : Km535.goes d r p = [] := List.eq_nil_iff_forall_not_mem.mpr fun q hq => by
          have := (mem_stp d h0 hp q).mpr hq
          rw [Gs.Ts, c] at this
          cases this
        rw [c, g]
        rfl
      · obtain ⟨x, hx⟩ := List.exists_mem_of_ne_nil _ c
        have hg := (mem_stp d h0 hp (Gs.goTo r.length p x)).mp (List.mem_map.mpr ⟨x, hx, rfl⟩)
        have ne := List.ne_nil_of_mem hg
        rw [decide_eq_true (List.length_pos_of_mem hx)]
        have : (Km535.goes d r p != []) = true := by simpa using ne
        rw [this]
    rw [e2]
  · have z : r.getD p 0 = 0 := by omega
    rw [z]
    simp
/-! ### next_names -/
/-- eyes and rule of a desk at these addresses -/
def spNextNames (K : PySem.W.Frag) : Sp := fun vs H Q _ => ∃ (a d : Addr) (r : List Nat) (dk : Km535.Desk) (m : Nat), vs = [.ref a, .int (dk.see.eyes : Nat), .ref d, .int m] ∧ Tp K H a r ∧ RuleAt H d dk.rule ∧ dk.see.eyes ≤ 2 ∧ m ≤ 2 ∧ Gs.Ok r ∧
  ∀ H' p (N : List Row), Same H H' → H' p = some (.lst (refs N)) → Rws K H' N → N.map (·.2) = Gs.nx dk m r → Q (.ref p) H'
abbrev nNext : List Str := ["ring", "eyes", "rule", "mode", "steps", "eager", "gone", "after"]
theorem scNext : FnScope nNext ["ring", "eyes", "rule", "mode"] (defScope sNextNames) := ⟨rfl, rfl, rfl, by decide +kernel, rfl, by decide +kernel, by decide +kernel⟩
section
variable {P : Program} {w : World} {K : PySem.W.Frag} {mg : Str → Option Value} {base : Heap}
theorem ok_next_names {f : Addr} {fd : FuncData} (B : Bt mg) (F : Fun K "next_names" "next_names" sNextNames f fd) (dSB : Def P w K mg base 4 "steps_by_place" (spStepsBy K)) (dER : Def P w K mg base 1 "eager_robots" (spEagerRobots K)) (dAP : Def P w K mg base 3 "all_plays" (spAllPlays K)) (dMG : Def P w K mg base 1 "may_go" spMayGo)
    (dNO : Def P w K mg base 2 "name_of" (spNameOf K)) : FnOk P w K mg base CX0 5 f fd ["ring", "eyes", "rule", "mode"] (spNextNames K) := by
  refine F.ok scNext (fun vs H Q E h => ?_) (fun cdv A outer s H vs Q E hr h => ?_)
  · obtain ⟨a, d, r, dk, m, rfl, _⟩ := h
    rfl
  obtain ⟨a, d, r, dk, m, rfl, ht, hd, he, hm, ok, k⟩ := h
  have h3 := ok.lo
  have h7 := ok.hi
  refine ⟨_, pss_cons (ps_set (i := 4) scNext.nd rfl (Or.inl rfl) (pe_def dSB hr (by decide) (by rfl) (pa_cons (pv 0) (pa_cons (pv 1) (pa_cons (pv 2) pa_nil)))))
    (pss_cons (ps_set (i := 5) scNext.nd rfl (Or.inr rfl) (pe_def dER hr (by decide) (by rfl) (pa_cons (pv 0) (pa_cons (pv 4) pa_nil))))
    (pss_one (ps_ret (pe_callB (GsR.cr_sorted rfl hr.units) (by rfl) B.sorted (by decide +kernel) (pa_cons (pe_callTy (GsR.cr_set rfl hr.units) (by rfl) B.set (by decide +kernel) (pa_cons
      (pe_lc (own := [("gone", 6), ("after", 7)]) (g := gTup K 2 (gCons (gName 6) (gCons (gName 7) gNil))) (tt := tB (tCall spMayGo [] E0 (tCons (tVar 6) (tCons (tVar 5) (tCons (tVar 3) tNil))))) (te := tCall (spNameOf K) [] E0 (tCons (tVar 7) tNil)) rfl scNext.nd
        (pi_list (pe_def dAP hr (by decide) (by rfl) (pa_cons (pv 0) (pa_cons (pv 4) pa_nil)))) (blkOk_by (own := [("gone", 6), ("after", 7)]) (N := nNext) (sc := defScope sNextNames) (by decide +kernel))
        (fun _ _ _ _ _ => pg_tup rfl (pgs_cons (pg_name (i := 6) scNext.nd rfl (Or.inl rfl)) (pgs_cons (pg_name (i := 7) scNext.nd rfl (Or.inl rfl)) pgs_nil)))
        (fun _ _ _ _ _ => pts_one (pt_val (pe_def dMG hr (by decide) (by rfl) (pa_cons (pv 6) (pa_cons (pv 5) (pa_cons (pv 3) pa_nil)))))) (fun _ _ _ _ _ => pe_def dNO hr (by decide) (by rfl) (pa_cons (pv 7) pa_nil))) pa_nil)) pa_nil))))), ?_⟩
  refine ⟨_, rfl, _, rfl, _, rfl, a, d, r, dk.see.eyes, dk.rule, rfl, ht, hd, he, by omega, fun H1 b1 L s1 h1 hL eL => ?_⟩
  have lL : L.length = r.length := by
    have := congrArg List.length eL
    rw [List.length_map, tab, List.length_map, List.length_range] at this
    exact this
  refine ⟨_, rfl, _, rfl, a, b1, r, L, rfl, same_tup s1 ht, by omega, h1, hL, lL, fun H2 s2 => ?_⟩
  rw [eL, eg_tot dk (by omega)]
  have s12 := s1.trans s2
  refine ⟨_, rfl, _, rfl, a, b1, r, L, dk.see.eyes, rfl, same_tup s12 ht, s2 _ _ h1, hL.same s2, lL, ok, he, ?_, fun H3 c M s3 hc hM mM lM => ?_⟩
  · rw [eL, sAt_tab]
    exact stp_form _ _ _
  rw [eL, sAt_tab] at mM
  refine ⟨c, rfl, ⟨_, SqL.of hc⟩, fun D nD => ?_⟩
  -- the names of what plays that may be make
  refine comp_it (walk_list (K := K) (a := c) (xs := prefs M)) nD (by rw [List.length_map, sizeLine_eq]; omega) (fun j ys H4 => ∃ N : List Row, ys = refs N ∧ N.map (·.2) = (((M.map (·.2)).take j).filter fun x => goB m x.1 (Gs.tot r (Km535.goes dk r))).map (fun x => Km534.name x.2) ∧ Rws K H4 N) (fun H4 s4 => SqL.of (s4 c _ hc)) ⟨[], rfl, rfl, fun m hm => (by cases hm)⟩
    (fun j ys zs H4 H5 hD e => fun ⟨N, e1, e2, e3⟩ => ⟨N, e1, e2, e3.but hD e⟩) (fun j x ys H4 H5 hj s4 hD g y R R' done skip => ?_) fun ys H4 s4 hD hy g => ?_
  · obtain ⟨rfl, hx⟩ := y
    obtain ⟨N, rfl, e2, e3⟩ := g
    obtain ⟨z, ez, rfl⟩ : ∃ z, M[j]? = some z ∧ x = V.ref z.1 := by
      rw [List.getElem?_map] at hx
      obtain ⟨z, e1, e2⟩ := Option.map_eq_some_iff.mp hx
      exact ⟨z, e1, e2.symm⟩
    have zM := List.mem_of_getElem? ez
    obtain ⟨u, hu1, hu2⟩ := (hM.same s4) z zM
    have zB : (M.map (·.2))[j]? = some z.2 := by rw [List.getElem?_map, ez]; rfl
    obtain ⟨wz, fz, ewz⟩ := (mM z.2).mp (List.mem_map.mpr ⟨z, zM, rfl⟩)
    have lz : z.2.2.length = r.length := by rw [ewz]; exact Gs.len_doAll _ _
    refine ⟨z.1, _, rfl, SqT.of hu1, rfl, _, _, rfl, _, _, rfl, rfl, rfl, _, rfl, _, rfl, _, rfl, z.2.1, Gs.tot r (Km535.goes dk r), m, rfl, hm, _, rfl, ?_⟩
    cases cg : goB m z.2.1 (Gs.tot r (Km535.goes dk r)) with
    | true =>
      refine ⟨_, rfl, u, z.2.2, rfl, hu2, by omega, by omega, fun H6 v s6 t6 => done _ _ s6 ⟨N ++ [(v, Km534.name z.2.2)], refs_snoc N v _, ?_, (e3.same s6).snoc t6⟩⟩
      rw [GsR.took zB, List.filter_append, List.map_append, List.map_append, e2, List.filter_cons_of_pos (p := fun x : Nat × List Nat => goB m x.1 (Gs.tot r (Km535.goes dk r))) (a := z.2) cg]
      rfl
    | false =>
      refine skip _ (Same.refl _) ⟨N, rfl, ?_, e3⟩
      rw [GsR.took zB, List.filter_append, e2, List.filter_cons_of_neg (by simp [cg])]
      simp
  obtain ⟨N, rfl, e2, e3⟩ := g
  rw [List.length_map, ← List.length_map (f := fun q : Pl => q.2), List.take_length] at e2
  have mem : ∀ x, x ∈ N.map (·.2) ↔ x ∈ Km535.nextNames dk m r := fun x => by
    rw [e2, List.mem_map, Gs.mem_next dk m ok]
    constructor
    · rintro ⟨y, hy, rfl⟩
      obtain ⟨hy1, hy2⟩ := List.mem_filter.mp hy
      obtain ⟨wy, fy, rfl⟩ := (mM y).mp hy1
      exact ⟨wy, (play_stp dk (by omega) wy).mp fy, (goB_ok hm).mp hy2, rfl⟩
    · rintro ⟨wy, fy, gy, rfl⟩
      exact ⟨(wy.length, Km535.doAll r wy), List.mem_filter.mpr ⟨(mM _).mpr ⟨wy, (play_stp dk (by omega) wy).mpr fy, rfl⟩, (goB_ok hm).mpr gy⟩, rfl⟩
  have ok2 : ∀ q ∈ N, q.2 ∈ Km534.names r.length r.sum := fun q hq => Gs.next_in ok ((mem q.2).mp (List.mem_map.mpr ⟨q, hq, rfl⟩))
  have len2 : ∀ q ∈ N, q.2.length = r.length := fun q hq => (Gs.mem_names.mp (ok2 q hq)).1
  refine ⟨D, flats N, (Km534.names r.length r.sum).map (fun x => GsR.Itm.flat (ni x)), rfl, SqL.of (by rw [flats_refs]; exact hD), fun q hq => ?_, fun q hq => ?_, by rw [List.length_map]; have := Gs.names_few ok.size; omega, fun S Z nS hZ hcov nd => ?_⟩
  · obtain ⟨z, hz, rfl⟩ := List.mem_map.mp hq
    exact SqT.of (e3 z hz)
  · obtain ⟨z, hz, rfl⟩ := List.mem_map.mp hq
    exact List.mem_map.mpr ⟨z.2, ok2 z hz, rfl⟩
  obtain ⟨Y, rfl, hY⟩ := flats_lift hZ
  refine ⟨S, flats Y, rfl, upd_same, fun q hq => ?_, alike_rows fun q hq => by rw [len2 q (hY q hq)]; omega, fun Z2 p pm srt np => ?_⟩
  · obtain ⟨z, hz, rfl⟩ := List.mem_map.mp hq
    exact SqT.of (same_tup (same_upd nS) (e3 z (hY z hz)))
  obtain ⟨Y2, rfl, hY2⟩ := flats_lift (L := Y) fun q hq => pm.mem_iff.mp hq
  have s5 : Same H4 (upd (upd H4 S (GsR.SetO w S (flats Y))) p (.lst ((flats Y2).map fun q => V.ref q.1))) := (same_upd nS).trans (same_upd np)
  refine k _ p Y2 (((s12.trans s3).trans s4).trans s5) (by rw [upd_same, flats_refs]) (fun q hq => same_tup s5 (e3 q (hY q (hY2 q hq)))) ?_
  refine Gs.nx_uniq ok (sorted_rows (fun q hq => len2 q (hY q (hY2 q hq))) srt) fun x => ?_
  rw [← mem x]
  constructor
  · intro hx
    obtain ⟨z, hz, rfl⟩ := List.mem_map.mp hx
    exact List.mem_map.mpr ⟨z, hY z (hY2 z hz), rfl⟩
  · intro hx
    obtain ⟨z, hz, rfl⟩ := List.mem_map.mp hx
    obtain ⟨u, hu, eu⟩ := List.mem_map.mp (hcov (z.1, GsR.Itm.flat (ni z.2)) (List.mem_map.mpr ⟨z, hz, rfl⟩))
    obtain ⟨v, hv, rfl⟩ := List.mem_map.mp (pm.mem_iff.mpr hu)
    have ev : GsR.Itm.flat (ni v.2) = GsR.Itm.flat (ni z.2) := eu
    injection ev with ev
    exact List.mem_map.mpr ⟨v, hv, ni_inj ev⟩
end
end Gp
namespace Gp
open PySem PySem.Spec PyProof.Rows L2
/-! ### at_rest_together -/
def spAtRest (K : PySem.W.Frag) : Sp := fun vs H Q _ => ∃ (a d : Addr) (r : List Nat) (dk : Km535.Desk), vs = [.ref a, .int (dk.see.eyes : Nat), .ref d] ∧ Tp K H a r ∧ RuleAt H d dk.rule ∧ dk.see.eyes ≤ 2 ∧ Gs.Ok r ∧ ∀ H', Same H H' → Q (.bl (Km536.done dk r)) H'
theorem scAtRest : FnScope ["ring", "eyes", "rule"] ["ring", "eyes", "rule"] (defScope sAtRest) := ⟨rfl, rfl, rfl, by decide +kernel, rfl, by decide +kernel, by decide +kernel⟩
theorem done_tot (dk : Km535.Desk) (r : List Nat) : Km536.done dk r = (Km535.gathered r && decide (Gs.tot r (Km535.goes dk r) = 0)) := by
  unfold Km536.done
  congr 1
  by_cases c : Gs.tot r (Km535.goes dk r) = 0
  · rw [decide_eq_true c, (Gs.eager_nil dk r).mpr c]
    rfl
  · rw [decide_eq_false c]
    have : Km535.eager dk r ≠ [] := fun z => c ((Gs.eager_nil dk r).mp z)
    simpa using this
section
variable {P : Program} {w : World} {K : PySem.W.Frag} {mg : Str → Option Value} {base : Heap}
theorem ok_at_rest {f : Addr} {fd : FuncData} (F : Fun K "at_rest_together" "at_rest_together" sAtRest f fd) (dAA : Def P w K mg base 1 "all_at_one_place" (spAllAtOne K)) (dSB : Def P w K mg base 4 "steps_by_place" (spStepsBy K)) (dER : Def P w K mg base 1 "eager_robots" (spEagerRobots K)) : FnOk P w K mg base CX0 5 f fd ["ring", "eyes", "rule"] (spAtRest K) := by
  refine F.ok scAtRest (fun vs H Q E h => ?_) (fun cdv A outer s H vs Q E hr h => ?_)
  · obtain ⟨a, d, r, dk, rfl, _⟩ := h
    rfl
  obtain ⟨a, d, r, dk, rfl, ht, hd, he, ok, k⟩ := h
  have h3 := ok.lo
  have h7 := ok.hi
  refine ⟨_, pss_one (ps_ret (pe_and (pe_def dAA hr (by decide) (by rfl) (pa_cons (pv 0) pa_nil)) (pe_one (pe_cmpR op_eq (pe_def dER hr (by decide) (by rfl) (pa_cons (pv 0) (pa_cons (pe_def dSB hr (by decide) (by rfl) (pa_cons (pv 0) (pa_cons (pv 1) (pa_cons (pv 2) pa_nil)))) pa_nil))) pe_int (nomark _))))), ?_⟩
  rw [done_tot] at k
  refine ⟨_, rfl, a, r, rfl, ht, ok, _, rfl, ?_⟩
  cases c : Km535.gathered r with
  | false =>
    rw [c] at k
    exact k H (Same.refl H)
  | true =>
    rw [c] at k
    refine ⟨_, rfl, _, rfl, _, rfl, _, rfl, a, d, r, dk.see.eyes, dk.rule, rfl, ht, hd, he, by omega, fun H1 b L s1 h1 hL eL => ?_⟩
    have lL : L.length = r.length := by
      have := congrArg List.length eL
      rw [List.length_map, tab, List.length_map, List.length_range] at this
      exact this
    refine ⟨a, b, r, L, rfl, same_tup s1 ht, by omega, h1, hL, lL, fun H2 s2 => ⟨rfl, ?_⟩⟩
    rw [eL, eg_tot dk (by omega), dec_int]
    have e : decide (((Gs.tot r (Km535.goes dk r) : Nat) : Int) = 0) = decide (Gs.tot r (Km535.goes dk r) = 0) := decide_eq_decide.mpr (by omega)
    rw [e]
    exact k H2 (s1.trans s2)
end
/-- a dict of rows and lists -/
def fkv (L : List (List Nat × Addr)) : List (List L2.Key × V) := L.map fun q => (kk q.1, V.ref q.2)
def FolAt (K : PySem.W.Frag) (H : Hp) (dk : Km535.Desk) (m : Nat) (L : List (List Nat × Addr)) : Prop := ∀ q ∈ L, ∃ N : List Row, H q.2 = some (.lst (refs N)) ∧ Rws K H N ∧ N.map (·.2) = Gs.nx dk m q.1
/-- heaps that differ at a dict alone -/
theorem But.lst {D : Addr} {H H' : Hp} (e : But D H H') {u : List (List L2.Key × V)} (hD : H D = some (.dT u)) {a : Addr} {o : HO} (h : H a = some o) (ne : ∀ v, o ≠ .dT v) : H' a = some o := e _ _ (fun z => by
  rw [z, hD] at h
  exact ne u (Option.some.inj h).symm) h
theorem But.refl (D : Addr) (H : Hp) : But D H H := fun _ _ _ e => e
theorem But.trans {D : Addr} {H H1 H2 : Hp} (a : But D H H1) (b : But D H1 H2) : But D H H2 := fun c o hc e => b c o hc (a c o hc e)
theorem But.of {D : Addr} {H H' : Hp} (e : Same H H') : But D H H' := fun b o _ q => e b o q
theorem But.put (D : Addr) (H : Hp) (o : HO) : But D H (upd H D o) := fun _ _ hb e => (upd_ne hb).trans e
theorem FolAt.but {K : PySem.W.Frag} {H H' : Hp} {dk : Km535.Desk} {m : Nat} {L : List (List Nat × Addr)} (h : FolAt K H dk m L) {D : Addr} {u : List (List L2.Key × V)} (hD : H D = some (.dT u)) (e : But D H H') : FolAt K H' dk m L := fun q hq => by
  obtain ⟨N, h1, h2, h3⟩ := h q hq
  exact ⟨N, e.lst hD h1 (fun v z => by cases z), fun z hz => e.lst hD (h2 z hz) (fun v z => by cases z), h3⟩
theorem FolAt.same {K : PySem.W.Frag} {H H' : Hp} {dk : Km535.Desk} {m : Nat} {L : List (List Nat × Addr)} (h : FolAt K H dk m L) (e : Same H H') : FolAt K H' dk m L := fun q hq => by
  obtain ⟨N, h1, h2, h3⟩ := h q hq
  exact ⟨N, e _ _ h1, h2.same e, h3⟩
theorem fkv_at {L : List (List Nat × Addr)} (nd : (L.map (·.1)).Nodup) {i : Nat} {q : List Nat × Addr} (h : L[i]? = some q) : valV (fkv L) (kk q.1) = some (V.ref q.2) := by
  induction L generalizing i with
  | nil => simp at h
  | cons z L ih =>
    have e : fkv (z :: L) = (kk z.1, V.ref z.2) :: fkv L := rfl
    rw [e]
    obtain ⟨n1, n2⟩ := List.nodup_cons.mp nd
    cases i with
    | zero =>
      obtain rfl : z = q := Option.some.inj h
      exact valV_pos rfl
    | succ i =>
      rw [valV_neg]
      · exact ih n2 h
      · intro z2
        exact n1 (List.mem_map.mpr ⟨q, List.mem_of_getElem? h, (kk_inj z2).symm⟩)
theorem put_fkv {L : List (List Nat × Addr)} {x : List Nat} (h : x ∉ L.map (·.1)) (a : Addr) : putK (fkv L) (kk x) (V.ref a) = fkv (L ++ [(x, a)]) := by
  unfold putK
  rw [if_neg]
  · rw [fkv, fkv, List.map_append]; rfl
  · intro z
    obtain ⟨y, hy, e⟩ := List.any_eq_true.mp z
    obtain ⟨q, hq, rfl⟩ := List.mem_map.mp hy
    exact h (List.mem_map.mpr ⟨q, hq, kk_inj (of_decide_eq_true e)⟩)
theorem look_none {F : List (List Nat × Nat)} {x : List Nat} (h : look F x = none) : ∀ q ∈ F, q.1 ≠ x := fun q hq e => by
  unfold look at h
  rw [Option.map_eq_none_iff, List.find?_eq_none] at h
  exact h q hq (by simpa using e)
theorem put_kvs {F : List (List Nat × Nat)} {x : List Nat} (h : look F x = none) (k : Nat) : putK (kvs F) (kk x) (V.int (k : Int)) = kvs (F ++ [(x, k)]) := by
  unfold putK
  rw [if_neg]
  · rw [kvs, kvs, List.map_append]; rfl
  · intro z
    obtain ⟨y, hy, e⟩ := List.any_eq_true.mp z
    obtain ⟨q, hq, rfl⟩ := List.mem_map.mp hy
    exact look_none h q hq (kk_inj (of_decide_eq_true e))
theorem look_snoc {F : List (List Nat × Nat)} {x : List Nat} (h : look F x = none) (k : Nat) (y : List Nat) : look (F ++ [(x, k)]) y = if y = x then some k else look F y := by
  unfold look at h ⊢
  rw [List.find?_append]
  by_cases c : y = x
  · subst c
    rw [if_pos rfl]
    rw [Option.map_eq_none_iff] at h
    rw [h]
    simp
  · rw [if_neg c]
    cases e : F.find? fun q => q.1 == y with
    | some q => rfl
    | none =>
      have : (x == y) = false := by simpa using fun z => c z.symm
      simp [this]
/-- what may come next of each name, in a dict -/
def Fol (K : PySem.W.Frag) (H : Hp) (f : Addr) (dk : Km535.Desk) (m : Nat) : Prop := ∃ L : List (List Nat × Addr), Rd H f (.dT (fkv L)) ∧ L.map (·.1) = Km536.allNames dk ∧ FolAt K H dk m L
theorem same_rd {H H' : Hp} {b : Addr} {u : HO} (e : Same H H') (h : Rd H b u) : Rd H' b u := by
  rcases h with h | ⟨o, h⟩
  · exact .inl (e _ _ h)
  · exact .inr ⟨o, e _ _ h⟩
theorem Fol.same {K : PySem.W.Frag} {H H' : Hp} {f : Addr} {dk : Km535.Desk} {m : Nat} (h : Fol K H f dk m) (e : Same H H') : Fol K H' f dk m := by
  obtain ⟨L, h1, h2, h3⟩ := h
  exact ⟨L, same_rd e h1, h2, h3.same e⟩
theorem Fol.but {K : PySem.W.Frag} {H H' : Hp} {f D : Addr} {dk : Km535.Desk} {m : Nat} {u : List (List L2.Key × V)} (h : Fol K H f dk m) (hD : H D = some (.dT u)) (e : But D H H') (ne : f ≠ D) : Fol K H' f dk m := by
  obtain ⟨L, h1, h2, h3⟩ := h
  refine ⟨L, ?_, h2, h3.but hD e⟩
  rcases h1 with h1 | ⟨o, h1⟩
  · exact .inl (e _ _ ne h1)
  · exact .inr ⟨o, e _ _ ne h1⟩
theorem Fol.get {K : PySem.W.Frag} {H : Hp} {f a : Addr} {dk : Km535.Desk} {m : Nat} {x : List Nat} (h : Fol K H f dk m) (ok : Gs.DOk dk) (hx : x ∈ Km536.allNames dk) (ht : Tp K H a x) :
    ∃ (q : Addr) (N : List Row), DGet H f (.ref a) (some (.ref q)) ∧ H q = some (.lst (refs N)) ∧ Rws K H N ∧ N.map (·.2) = Gs.nx dk m x ∧ N.length ≤ 20 ∧ ∀ z ∈ N, z.2 ∈ Km536.allNames dk := by
  obtain ⟨L, h1, h2, h3⟩ := h
  rw [← h2] at hx
  obtain ⟨p, hp, ep⟩ := List.mem_map.mp hx
  obtain ⟨i, hi, ei⟩ := List.getElem_of_mem hp
  obtain ⟨N, g1, g2, g3⟩ := h3 p hp
  have xA : x ∈ Km536.allNames dk := by rw [← h2]; exact hx
  rw [ep] at g3
  have gi : L[i]? = some p := by rw [List.getElem?_eq_getElem hi, ei]
  have ev := fkv_at (by rw [h2]; exact Gs.nodup_all ok) gi
  rw [ep] at ev
  obtain ⟨okx, _, _, _⟩ := Gs.ok_all ok xA
  refine ⟨p.2, N, .inr ⟨fkv L, kk x, a, h1, rfl, by rw [kk_tv]; exact ht, ev.symm⟩, g1, g2, g3, ?_, fun z hz => ?_⟩
  · have e3 := congrArg List.length g3
    have e4 : (Gs.nx dk m x).length ≤ (Km534.names x.length x.sum).length := List.length_filter_le _ _
    have e5 := Gs.names_few okx.size
    rw [List.length_map] at e3
    omega
  · exact Gs.next_all ok xA (by rw [← g3]; exact List.mem_map.mpr ⟨z, hz, rfl⟩)
/-! ### rests_together -/
def spRests (K : PySem.W.Frag) : Sp := fun vs H Q _ => ∃ (a f : Addr) (x : List Nat) (dk : Km535.Desk) (m : Nat), vs = [.ref a, .ref f] ∧ Tp K H a x ∧ Gs.DOk dk ∧ x ∈ Km536.allNames dk ∧ Fol K H f dk m ∧ Q (.bl (Km536.done dk x)) H
theorem scRests : FnScope ["name", "following"] ["name", "following"] (defScope sRests) := ⟨rfl, rfl, rfl, by decide +kernel, rfl, by decide +kernel, by decide +kernel⟩
section
variable {P : Program} {w : World} {K : PySem.W.Frag} {mg : Str → Option Value} {base : Heap}
theorem ok_rests {f : Addr} {fd : FuncData} (B : Bt mg) (F : Fun K "rests_together" "rests_together" sRests f fd) (dAA : Def P w K mg base 1 "all_at_one_place" (spAllAtOne K)) : FnOk P w K mg base CX0 2 f fd ["name", "following"] (spRests K) := by
  refine F.ok scRests (fun vs H Q E h => ?_) (fun cdv A outer s H vs Q E hr h => ?_)
  · obtain ⟨a, d, x, dk, m, rfl, _⟩ := h
    rfl
  obtain ⟨a, g, x, dk, m, rfl, ht, ok, hx, hf, k⟩ := h
  refine ⟨_, pss_one (ps_ret (pe_and (pe_def dAA hr (by decide) (by rfl) (pa_cons (pv 0) pa_nil)) (pe_one (pe_cmpR op_eq (pe_callB call_len_seq (by rfl) B.len PySem.boot_len (pa_cons (pe_dget (hu_of hr) (pv 1) (pv 0) (fun _ _ => rfl)) pa_nil)) pe_int (nomark _))))), ?_⟩
  obtain ⟨okx, _, _, _⟩ := Gs.ok_all ok hx
  obtain ⟨q, N, dg, hq, hN, eN, lN, _⟩ := hf.get ok hx ht
  rw [Gs.done_nx m okx] at k
  refine ⟨_, rfl, a, x, rfl, ht, okx, _, rfl, ?_⟩
  cases c : Km535.gathered x with
  | false =>
    rw [c] at k
    exact k
  | true =>
    rw [c] at k
    refine ⟨_, rfl, _, rfl, g, V.ref q, rfl, dg, q, _, rfl, .inl (SqL.of hq), rfl, ?_⟩
    rw [dec_int, List.length_map]
    have e : decide (((N.length : Nat) : Int) = 0) = decide ((Gs.nx dk m x).length = 0) := decide_eq_decide.mpr (by rw [← eN, List.length_map]; omega)
    rw [e]
    exact k
end
/-! ### moves_if_known -/
def opt (o : Option Nat) : V := match o with
  | none => .non
  | some k => .int (k : Int)
def spMoves (K : PySem.W.Frag) : Sp := fun vs H Q _ => ∃ (a f d : Addr) (x : List Nat) (F : List (List Nat × Nat)) (dk : Km535.Desk) (m : Nat), vs = [.ref a, .ref f, .ref d] ∧ Tp K H a x ∧ Gs.DOk dk ∧ x ∈ Km536.allNames dk ∧ Fol K H f dk m ∧ RuleAt H d F ∧
  ∀ H', Same H H' → Q (opt (Gs.known dk m (look F) x)) H'
abbrev nMoves : List Str := ["name", "following", "longest", "after"]
theorem scMoves : FnScope nMoves ["name", "following", "longest"] (defScope sMoves) := ⟨rfl, rfl, rfl, by decide +kernel, rfl, by decide +kernel, by decide +kernel⟩
section
variable {P : Program} {w : World} {K : PySem.W.Frag} {mg : Str → Option Value} {base : Heap}
theorem ok_moves {f : Addr} {fd : FuncData} (B : Bt mg) (F : Fun K "moves_if_known" "moves_if_known" sMoves f fd) (dRT : Def P w K mg base 2 "rests_together" (spRests K)) : FnOk P w K mg base CX0 3 f fd ["name", "following", "longest"] (spMoves K) := by
  refine F.ok scMoves (fun vs H Q E h => ?_) (fun cdv A outer s H vs Q E hr h => ?_)
  · obtain ⟨a, ga, d, x, Fl, dk, m, rfl, _⟩ := h
    rfl
  obtain ⟨a, ga, d, x, Fl, dk, m, rfl, ht, ok, hxA, hf, hd, k⟩ := h
  obtain ⟨b, N, dg, hb, hN, eN, lN, _⟩ := hf.get ok hxA ht
  obtain ⟨okx, _, _, _⟩ := Gs.ok_all ok hxA
  refine ⟨_, pss_cons (ps_if (pt_cmpR op_eq (pe_callB call_len_seq (by rfl) B.len PySem.boot_len (pa_cons (pe_dget (hu_of hr) (pv 1) (pv 0) (fun _ _ => rfl)) pa_nil)) pe_int (nomark _)) (pss_one (ps_ret (pe_ifExp (pt_val (pe_def dRT hr (by decide) (by rfl) (pa_cons (pv 0) (pa_cons (pv 1) pa_nil)))) pe_int pe_non))) pss_nil)
    (pss_cons (ps_if (pt_not (pt_val (pe_callB (cr_all rfl) (by rfl) B.all (by decide +kernel) (pa_cons (pe_lc (own := [("after", 3)]) (g := gName 3) (tt := tYes) (te := tDIn (tVar 3) (tVar 2)) rfl scMoves.nd (pi_list (pe_dget (hu_of hr) (pv 1) (pv 0) (fun _ _ => rfl))) (blkOk_by (own := [("after", 3)]) (N := nMoves) (sc := defScope sMoves) (by decide +kernel))
        (fun _ _ _ _ _ => pg_name (i := 3) scMoves.nd rfl (Or.inl rfl)) (fun _ _ _ _ _ => pts_nil) (fun _ _ _ _ _ => pe_cmp (pc_din (hu_of hr) (pv 3) (pv 2)))) pa_nil)))) (pss_one (ps_ret pe_non)) pss_nil)
    (pss_one (ps_ret (pe_op op_add pe_int (pe_callB (cr_max rfl) (by rfl) B.max (by decide +kernel) (pa_cons (pe_lc (own := [("after", 3)]) (g := gName 3) (tt := tYes) (te := tDGet (tVar 2) (tVar 3)) rfl scMoves.nd (pi_list (pe_dget (hu_of hr) (pv 1) (pv 0) (fun _ _ => rfl))) (blkOk_by (own := [("after", 3)]) (N := nMoves) (sc := defScope sMoves) (by decide +kernel))
        (fun _ _ _ _ _ => pg_name (i := 3) scMoves.nd rfl (Or.inl rfl)) (fun _ _ _ _ _ => pts_nil) (fun _ _ _ _ _ => pe_dget (hu_of hr) (pv 2) (pv 3) (fun _ _ => rfl))) pa_nil)))))), ?_⟩
  have dgs : ∀ {H1 : Hp}, Same H H1 → DGet H1 ga (.ref a) (some (.ref b)) := fun e => by
    rcases dg with ⟨kv, k0, h1, h2, h3⟩ | ⟨kv, k0, b0, h1, h2, h3, h4⟩
    · exact .inl ⟨kv, k0, same_rd e h1, h2, h3⟩
    · exact .inr ⟨kv, k0, b0, same_rd e h1, h2, e _ _ h3, h4⟩
  have hq : ∀ {H1 : Hp}, Same H H1 → SqL K H1 b (refs N) := fun e => .inl (.inl (e _ _ hb))
  refine ⟨_, rfl, _, rfl, ga, V.ref b, rfl, dg, b, _, rfl, .inl (hq (Same.refl H)), rfl, _, rfl, ?_⟩
  rw [dec_int, List.length_map]
  have lenN : N.length = (Gs.nx dk m x).length := by rw [← eN, List.length_map]
  unfold Gs.known at k
  by_cases c0 : Gs.nx dk m x = []
  · rw [if_pos c0] at k
    have ed : Km536.done dk x = Km535.gathered x := by rw [Gs.done_nx m okx, c0]; simp
    refine iteDT (by rw [lenN, c0]; rfl) ⟨_, rfl, _, rfl, a, ga, x, dk, m, rfl, ht, ok, hxA, hf, _, rfl, ?_⟩
    rw [ed]
    cases g : Km535.gathered x with
    | true =>
      rw [if_pos g] at k
      exact k H (Same.refl H)
    | false =>
      rw [if_neg (by rw [g]; decide)] at k
      exact k H (Same.refl H)
  · rw [if_neg c0] at k
    have pos : 0 < N.length := by rw [lenN]; exact List.length_pos_iff.mpr c0
    refine iteDF (by omega) ⟨_, rfl, _, rfl, ga, V.ref b, rfl, dg, b, rfl, ⟨_, hq (Same.refl H)⟩, fun D nD => ?_⟩
    refine comp_it (walk_list (K := K) (a := b) (xs := refs N)) nD (by rw [List.length_map, sizeLine_eq]; omega) (fun i ys _ => ys = (((N.map (·.2)).take i).map fun y => (look Fl y).isSome).map V.bl) (fun H1 s1 => hq s1) rfl (fun _ _ _ _ _ _ _ z => z) (fun i v ys H1 H2 hi s1 hD g y R R' done _ => ?_) fun ys H1 s1 hD hy g => ?_
    · obtain ⟨rfl, hx⟩ := y
      obtain ⟨z, ez, rfl⟩ : ∃ z, N[i]? = some z ∧ v = V.ref z.1 := by
        rw [List.getElem?_map] at hx
        obtain ⟨z, e1, e2⟩ := Option.map_eq_some_iff.mp hx
        exact ⟨z, e1, e2.symm⟩
      have zB : (N.map (·.2))[i]? = some z.2 := by rw [List.getElem?_map, ez]; rfl
      refine ⟨rfl, _, rfl, _, rfl, d, _, rfl, get_rule (K := K) (s1 d _ hd) (same_tup s1 (hN z (List.mem_of_getElem? ez))), done _ _ (Same.refl _) ?_⟩
      rw [g, GsR.took zB, List.map_append, List.map_append, Option.isSome_map]
      rfl
    · rw [List.length_map, ← List.length_map (f := fun q : Row => q.2), List.take_length, eN] at g
      refine ⟨D, (Gs.nx dk m x).map fun y => (look Fl y).isSome, rfl, SqL.of (by rw [hD, g]), ?_⟩
      have ea : ((Gs.nx dk m x).map fun y => (look Fl y).isSome).all id = (Gs.nx dk m x).all fun y => (look Fl y).isSome := by rw [List.all_map]; rfl
      refine ⟨_, rfl, ?_⟩
      rw [ea]
      cases c1 : (Gs.nx dk m x).all fun y => (look Fl y).isSome with
      | false =>
        rw [if_neg (by rw [c1]; decide)] at k
        exact k H1 s1
      | true =>
        rw [if_pos c1] at k
        rw [List.all_eq_true] at c1
        refine ⟨_, rfl, _, rfl, ga, V.ref b, rfl, dgs s1, b, rfl, ⟨_, hq s1⟩, fun D2 nD2 => ?_⟩
        refine comp_it (walk_list (K := K) (a := b) (xs := refs N)) nD2 (by rw [List.length_map, sizeLine_eq]; omega) (fun i ys _ => ys = tv (((N.map (·.2)).take i).map fun y => (look Fl y).getD 0)) (fun H2 s2 => hq (s1.trans s2)) rfl (fun _ _ _ _ _ _ _ z => z) (fun i v ys H2 H3 hi s2 hD2 g2 y R R' done _ => ?_) fun ys H2 s2 hD2 hy2 g2 => ?_
        · obtain ⟨rfl, hx⟩ := y
          obtain ⟨z, ez, rfl⟩ : ∃ z, N[i]? = some z ∧ v = V.ref z.1 := by
            rw [List.getElem?_map] at hx
            obtain ⟨z, e1, e2⟩ := Option.map_eq_some_iff.mp hx
            exact ⟨z, e1, e2.symm⟩
          have zB : (N.map (·.2))[i]? = some z.2 := by rw [List.getElem?_map, ez]; rfl
          have zin : z.2 ∈ Gs.nx dk m x := by rw [← eN]; exact List.mem_of_getElem? zB
          have hs := c1 z.2 zin
          obtain ⟨n, en⟩ := Option.isSome_iff_exists.mp hs
          have s12 := s1.trans s2
          have dg := get_rule (K := K) (s12 d _ hd) (same_tup s12 (hN z (List.mem_of_getElem? ez)))
          rw [en] at dg
          refine ⟨rfl, _, rfl, _, rfl, d, V.int (n : Int), rfl, dg, done _ _ (Same.refl _) ?_⟩
          rw [g2, GsR.took zB, List.map_append, tv_app]
          show _ ++ [V.int (n : Int)] = _ ++ tv [(look Fl z.2).getD 0]
          rw [en]
          rfl
        · rw [List.length_map, ← List.length_map (f := fun q : Row => q.2), List.take_length, eN] at g2
          refine ⟨D2, ni ((Gs.nx dk m x).map fun y => (look Fl y).getD 0), rfl, SqL.of (by rw [hD2, g2]), by rw [ni_len, List.length_map]; exact List.length_pos_iff.mpr c0, fun t ht1 ht2 => ?_⟩
          obtain ⟨n, hn, rfl⟩ := List.mem_map.mp ht1
          have e : n = Gs.most ((Gs.nx dk m x).map fun y => (look Fl y).getD 0) := Gs.most_uniq hn fun y hy => by
            have := ht2 (y : Int) (List.mem_map.mpr ⟨y, hy, rfl⟩)
            omega
          refine ⟨_, _, rfl, rfl, ?_⟩
          have k2 := k H2 (s1.trans s2)
          rw [← e] at k2
          have e3 : (1 : Int) + (n : Int) = ((1 + n : Nat) : Int) := by omega
          dsimp only
          rw [e3]
          exact k2
end
end Gp
namespace Gp
open PySem PySem.Spec PyProof.Rows L2
/-! ### longest_by_name -/
/-- what the dict of the most moves holds on its way -/
structure Way (dk : Km535.Desk) (m : Nat) (F : List (List Nat × Nat)) : Prop where
  sound : ∀ x k, look F x = some k → Gs.Rk dk m x k
  once : (F.map (·.1)).Nodup
  sub : ∀ q ∈ F, q.1 ∈ Km536.allNames dk
theorem Way.add {dk : Km535.Desk} {m : Nat} {F : List (List Nat × Nat)} (w : Way dk m F) {x : List Nat} (hx : x ∈ Km536.allNames dk) (h : look F x = none) {k : Nat} (hk : Gs.known dk m (look F) x = some k) : Way dk m (F ++ [(x, k)]) where
  sound y j e := by
    rw [look_snoc h] at e
    by_cases c : y = x
    · rw [if_pos c] at e
      obtain rfl := Option.some.inj e
      rw [c]
      exact Gs.known_sound w.sound hk
    · rw [if_neg c] at e
      exact w.sound y j e
  once := by
    rw [List.map_append]
    refine List.nodup_append.mpr ⟨w.once, by simp, fun a ha b hb => ?_⟩
    obtain ⟨q, hq, rfl⟩ := List.mem_map.mp ha
    have : b = x := by simpa using hb
    rw [this]
    exact look_none h q hq
  sub q hq := by
    rcases List.mem_append.mp hq with z | z
    · exact w.sub q z
    · rw [List.mem_singleton.mp z]; exact hx
theorem Way.len {dk : Km535.Desk} {m : Nat} {F : List (List Nat × Nat)} (w : Way dk m F) : F.length ≤ (Km536.allNames dk).length := by
  have := Gs.nodup_le (F.map (·.1)) (Km536.allNames dk) w.once fun x hx => by
    obtain ⟨q, hq, rfl⟩ := List.mem_map.mp hx
    exact w.sub q hq
  rw [List.length_map] at this
  exact this
/-- what may come next of each name, in a dict that stands by itself -/
def FolS (K : PySem.W.Frag) (H : Hp) (f : Addr) (dk : Km535.Desk) (m : Nat) : Prop := ∃ L : List (List Nat × Addr), H f = some (.dT (fkv L)) ∧ L.map (·.1) = Km536.allNames dk ∧ FolAt K H dk m L
theorem FolS.fol {K : PySem.W.Frag} {H : Hp} {f : Addr} {dk : Km535.Desk} {m : Nat} (h : FolS K H f dk m) : Fol K H f dk m := by
  obtain ⟨L, h1, h2, h3⟩ := h
  exact ⟨L, .inl h1, h2, h3⟩
theorem FolS.same {K : PySem.W.Frag} {H H' : Hp} {f : Addr} {dk : Km535.Desk} {m : Nat} (h : FolS K H f dk m) (e : Same H H') : FolS K H' f dk m := by
  obtain ⟨L, h1, h2, h3⟩ := h
  exact ⟨L, e _ _ h1, h2, h3.same e⟩
def spFolBy (K : PySem.W.Frag) : Sp := fun vs H Q _ => ∃ (a d : Addr) (dk : Km535.Desk) (m : Nat), vs = [.ref a, .int (dk.see.eyes : Nat), .ref d, .int m] ∧ Tp K H a (Km535.ring dk) ∧ RuleAt H d dk.rule ∧ dk.see.eyes ≤ 2 ∧ m ≤ 2 ∧ Gs.DOk dk ∧
  ∀ H' c, Same H H' → FolS K H' c dk m → Q (.ref c) H'
abbrev nFolBy : List Str := ["ring", "eyes", "rule", "mode", "following", "name"]
theorem scFolBy : FnScope nFolBy ["ring", "eyes", "rule", "mode"] (defScope sFolBy) := ⟨rfl, rfl, rfl, by decide +kernel, rfl, by decide +kernel, by decide +kernel⟩
section
variable {P : Program} {w : World} {K : PySem.W.Frag} {mg : Str → Option Value} {base : Heap}
theorem ok_fol_by {f : Addr} {fd : FuncData} (F : Fun K "following_by_name" "following_by_name" sFolBy f fd) (dNL : Def P w K mg base 3 "names_like" (spNamesLike K)) (dNN : Def P w K mg base 5 "next_names" (spNextNames K)) : FnOk P w K mg base CX0 6 f fd ["ring", "eyes", "rule", "mode"] (spFolBy K) := by
  refine F.ok scFolBy (fun vs H Q E h => ?_) (fun cdv A outer s H vs Q E hr h => ?_)
  · obtain ⟨a, d, dk, m, rfl, _⟩ := h
    rfl
  obtain ⟨a, d, dk, m, rfl, ht, hd, he, hm, ok, k⟩ := h
  refine ⟨_, pss_cons (ps_set (i := 4) scFolBy.nd rfl (Or.inl rfl) pe_dnewT)
    (pss_cons (ps_for PassesOwn.never rfl (pi_list (pe_def dNL hr (by decide) (by rfl) (pa_cons (pv 0) pa_nil))) (pg_name (i := 5) scFolBy.nd rfl (Or.inl rfl)) (pss_one (ps_dput (hu_of hr) (pv 4) (pv 5) (pe_def dNN hr (by decide) (by rfl) (pa_cons (pv 5) (pa_cons (pv 1) (pa_cons (pv 2) (pa_cons (pv 3) pa_nil))))) rfl)))
    (pss_one (ps_ret (pv 4)))), ?_⟩
  intro d1 n1
  have s1 := same_upd n1 (o := .dT [])
  refine ⟨_, rfl, a, Km535.ring dk, rfl, s1 a _ ht, ok, fun H2 p N s2 hp rN eN => ?_⟩
  have eA : N.map (·.2) = Km536.allNames dk := by rw [eN, Gs.allNames_eq]
  have h2d : H2 d1 = some (.dT (fkv [])) := s2 d1 _ upd_same
  have s12 := s1.trans s2
  have nodA : (Km536.allNames dk).Nodup := Gs.nodup_all ok
  have fewA : (Km536.allNames dk).length ≤ 20 := by rw [Gs.allNames_eq]; exact Gs.names_few ok.size
  have lenN : N.length = (Km536.allNames dk).length := by rw [← eA, List.length_map]
  refine ⟨p, rfl, ⟨_, SqL.of hp⟩, ?_⟩
  refine for_it (walk_list (K := K) (a := p) (xs := refs N)) (fun j σ H3 => ∃ (L : List (List Nat × Addr)) (v5 : Option V), σ = [some (.ref a), some (.int (dk.see.eyes : Nat)), some (.ref d), some (.int m), some (.ref d1), v5] ∧ But d1 H2 H3 ∧ H3 d1 = some (.dT (fkv L)) ∧ L.map (·.1) = (Km536.allNames dk).take j ∧ FolAt K H3 dk m L)
    ⟨[], none, rfl, But.refl _ _, h2d, rfl, fun q hq => (by cases hq)⟩ (fun j σ H3 _ => fun ⟨L, _, _, b3, _⟩ => SqL.of (b3.lst h2d hp fun v z => by cases z)) ?_ ?_
  · rintro j x σ H3' H3 hj ⟨L, v5, rfl, b3, h3d, eL, fol⟩ ⟨rfl, hx⟩
    obtain ⟨z, ez, rfl⟩ : ∃ z, N[j]? = some z ∧ x = V.ref z.1 := by
      rw [List.getElem?_map] at hx
      obtain ⟨z, e1, e2⟩ := Option.map_eq_some_iff.mp hx
      exact ⟨z, e1, e2.symm⟩
    have zA : (Km536.allNames dk)[j]? = some z.2 := by rw [← eA, List.getElem?_map, ez]; rfl
    obtain ⟨okz, _, _, _⟩ := Gs.ok_all ok (List.mem_of_getElem? zA)
    have tz : Tp K H3 z.1 z.2 := b3.lst h2d (rN z (List.mem_of_getElem? ez)) fun v y => by cases y
    have hd3 : RuleAt H3 d dk.rule := b3 d _ (fun y => by
      have q : H d = some _ := hd
      rw [y, n1] at q
      cases q) (s12 d _ hd)
    have new : z.2 ∉ L.map (·.1) := fun y => by
      rw [eL] at y
      obtain ⟨i, hi, e⟩ := List.getElem_of_mem y
      rw [List.length_take] at hi
      have e2 : (Km536.allNames dk)[i]? = some z.2 := by
        rw [List.getElem_take] at e
        rw [List.getElem?_eq_getElem (by omega), e]
      have := (List.getElem?_inj (by omega) nodA).mp (e2.trans zA.symm)
      omega
    refine ⟨_, rfl, _, rfl, _, rfl, _, rfl, z.1, d, z.2, dk, m, rfl, tz, hd3, he, hm, okz, fun H4 q N4 s4 hq rN4 eN4 => ?_⟩
    have lenL : L.length ≤ 20 := by
      have := congrArg List.length eL
      rw [List.length_map, List.length_take] at this
      omega
    refine ⟨_, rfl, _, rfl, d1, _, rfl, .inr ⟨fkv L, kk z.2, z.1, s4 d1 _ h3d, rfl, by rw [kk_tv]; exact s4 _ _ tz, by rw [fkv, List.length_map, sizeLine_eq]; omega, rfl⟩, ?_⟩
    have bp := But.put d1 H4 (.dT (putK (fkv L) (kk z.2) (V.ref q)))
    refine ⟨L ++ [(z.2, q)], some (.ref z.1), rfl, (b3.trans (But.of s4)).trans bp, ?_, ?_, fun y hy => ?_⟩
    · rw [upd_same, put_fkv new]
    · rw [List.map_append, eL, GsR.took zA]; rfl
    · rcases List.mem_append.mp hy with y1 | y1
      · exact ((fol.same s4).but (s4 d1 _ h3d) bp) y y1
      · rw [List.mem_singleton.mp y1]
        exact ⟨N4, bp.lst (s4 d1 _ h3d) hq (fun v y => by cases y), fun u hu => bp.lst (s4 d1 _ h3d) (rN4 u hu) (fun v y => by cases y), eN4⟩
  · rintro σ H3 ⟨L, v5, rfl, b3, h3d, eL, fol⟩
    rw [List.length_map, lenN, List.take_length] at eL
    have sH3 : Same H H3 := fun b o e => b3 b o (fun y => by rw [y, n1] at e; cases e) (s12 b o e)
    exact ⟨_, rfl, k H3 d1 sH3 ⟨L, h3d, eL, fol⟩⟩
end
def spLongestBy (K : PySem.W.Frag) : Sp := fun vs H Q _ => ∃ (f : Addr) (dk : Km535.Desk) (m : Nat), vs = [.ref f] ∧ Gs.DOk dk ∧ FolS K H f dk m ∧
  ∀ H' c (F : List (List Nat × Nat)), Same H H' → RuleAt H' c F → (∀ x ∈ Km536.allNames dk, look F x = Km536.longest dk m x) → Way dk m F → Q (.ref c) H'
abbrev nLongestBy : List Str := ["following", "longest", "grown", "name", "most"]
theorem scLongestBy : FnScope nLongestBy ["following"] (defScope sLongestBy) := ⟨rfl, rfl, rfl, by decide +kernel, rfl, by decide +kernel, by decide +kernel⟩
section
variable {P : Program} {w : World} {K : PySem.W.Frag} {mg : Str → Option Value} {base : Heap}
theorem ok_longest_by {f : Addr} {fd : FuncData} (F : Fun K "longest_by_name" "longest_by_name" sLongestBy f fd) (dMV : Def P w K mg base 3 "moves_if_known" (spMoves K)) : FnOk P w K mg base CX0 4 f fd ["following"] (spLongestBy K) := by
  refine F.ok scLongestBy (fun vs H Q E h => ?_) (fun cdv A outer s H vs Q E hr h => ?_)
  · obtain ⟨a, dk, m, rfl, _⟩ := h
    rfl
  obtain ⟨d1, dk, m, rfl, ok, ⟨L, h3d, eL, fol⟩, k⟩ := h
  refine ⟨_, pss_cons (ps_set (i := 1) scLongestBy.nd rfl (Or.inl rfl) pe_dnewT)
    (pss_cons (ps_set (i := 2) scLongestBy.nd rfl (Or.inl rfl) pe_bl)
    (pss_cons (ps_while PassesOwn.never (pt_val (pv 2))
      (pss_cons (ps_set (i := 2) scLongestBy.nd rfl (Or.inl rfl) pe_bl)
      (pss_one (ps_lock (ps_for PassesOwn.never rfl (pi_keys (pv 0)) (pg_name (i := 3) scLongestBy.nd rfl (Or.inl rfl))
        (pss_cons (ps_set (i := 4) scLongestBy.nd rfl (Or.inl rfl) (pe_def dMV hr (by decide) (by rfl) (pa_cons (pv 3) (pa_cons (pv 0) (pa_cons (pv 1) pa_nil)))))
        (pss_one (ps_if (PW.pt (pw_and (pt_cmp (pc_dnotin (hu_of hr) (pv 3) (pv 1))) (pw_and1 (pt_cmpR op_notN (pv 4) pe_non (nomark _))))) (pss_cons (ps_dput (hu_of hr) (pv 1) (pv 3) (pv 4) rfl) (pss_one (ps_set (i := 2) scLongestBy.nd rfl (Or.inl rfl) pe_bl))) pss_nil))))))))
    (pss_one (ps_ret (pv 1))))), ?_⟩
  have nodA : (Km536.allNames dk).Nodup := Gs.nodup_all ok
  have fewA : (Km536.allNames dk).length ≤ 20 := by rw [Gs.allNames_eq]; exact Gs.names_few ok.size
  intro d2 n2
  have ne21 : d2 ≠ d1 := fun y => by rw [y, h3d] at n2; cases n2
  have ne12 : d1 ≠ d2 := fun y => ne21 y.symm
  have lenL : L.length = (Km536.allNames dk).length := by rw [← eL, List.length_map]
  let W : Nat → L2.St → Hp → Prop := fun μ σ Hc => ∃ (F : List (List Nat × Nat)) (g : Bool) (v5 v8 : Option V), σ = [some (.ref d1), some (.ref d2), some (.bl g), v5, v8] ∧ Same H Hc ∧ Hc d2 = some (.dT (kvs F)) ∧ Way dk m F ∧
    (g = false → ∀ x ∈ Km536.allNames dk, (Gs.known dk m (look F) x).isSome = true → (look F x).isSome = true) ∧ μ = 2 * ((Km536.allNames dk).length - F.length) + (if g = true then 1 else 0)
  refine ⟨W, ⟨_, [], true, none, none, rfl, same_upd n2, upd_same, ⟨fun x k e => (by cases e), List.nodup_nil, fun q hq => (by cases hq)⟩, fun y => (by cases y), rfl⟩, ?_⟩
  rintro μ σ Hc ⟨F, g, v5, v8, rfl, sc, hF, wF, cl, rfl⟩
  refine ⟨_, rfl, _, rfl, ?_⟩
  cases g with
  | false => exact ⟨_, rfl, k Hc d2 F sc hF (fun x hx => Gs.known_end ok wF.sound (cl rfl) hx) wF⟩
  | true =>
    refine ⟨fun σ' H' => ∃ μ', μ' < 2 * ((Km536.allNames dk).length - F.length) + (if true = true then 1 else 0) ∧ W μ' σ' H', fun σ' H' y => y, ?_⟩
    refine ⟨d1, .dT (fkv L), sc d1 _ h3d, trivial, fun od => ?_⟩
    refine ⟨_, rfl, d1, od, rfl, .inr ⟨fkv L, upd_same, ?_⟩⟩
    have bl := But.put d1 Hc (.frz od (.dT (fkv L)))
    have hL2 : (upd Hc d1 (.frz od (.dT (fkv L)))) d2 = some (.dT (kvs F)) := (upd_ne ne21).trans hF
    have folL : FolAt K (upd Hc d1 (.frz od (.dT (fkv L)))) dk m L := (fol.same sc).but (sc d1 _ h3d) bl
    refine for_it (walk_keysT (d := d1) (o := od) (kvs := fkv L)) (fun i σ H6 => ∃ (F1 : List (List Nat × Nat)) (g1 : Bool) (v5 v8 : Option V), σ = [some (.ref d1), some (.ref d2), some (.bl g1), v5, v8] ∧ But d2 (upd Hc d1 (.frz od (.dT (fkv L)))) H6 ∧ H6 d2 = some (.dT (kvs F1)) ∧ Way dk m F1 ∧
        (g1 = false → F1 = F ∧ ∀ x ∈ (Km536.allNames dk).take i, (Gs.known dk m (look F) x).isSome = true → (look F x).isSome = true) ∧ (g1 = true → F.length < F1.length))
      ⟨F, false, v5, v8, rfl, But.refl _ _, hL2, wF, fun _ => ⟨rfl, fun x hx => (by simp at hx)⟩, fun y => (by cases y)⟩ (fun i σ H6 _ => fun ⟨_, _, _, _, _, b6, _⟩ => b6 d1 _ ne12 upd_same) ?_ ?_
    · rintro i x σ H6' H6 hi ⟨F1, g1, v5, v8, rfl, b6, h6, w1, c0, c1⟩ ⟨rfl, key, v, q, ek, rfl, hq⟩
      obtain ⟨z, ez, e1, e2⟩ : ∃ z, L[i]? = some z ∧ kk z.1 = key ∧ V.ref z.2 = v := by
        rw [fkv, List.getElem?_map] at ek
        obtain ⟨z, e1, e2⟩ := Option.map_eq_some_iff.mp ek
        obtain ⟨e3, e4⟩ := Prod.mk.inj e2
        exact ⟨z, e1, e3, e4⟩
      subst e1; subst e2
      have zA : (Km536.allNames dk)[i]? = some z.1 := by rw [← eL, List.getElem?_map, ez]; rfl
      have zin := List.mem_of_getElem? zA
      obtain ⟨okz, _, _, _⟩ := Gs.ok_all ok zin
      rw [kk_tv] at hq
      have hk1 : H6 d1 = some (.frz od (.dT (fkv L))) := b6 d1 _ ne12 upd_same
      have f6 : Fol K H6 d1 dk m := ⟨L, .inr ⟨od, hk1⟩, eL, folL.but hL2 b6⟩
      refine ⟨_, rfl, _, rfl, _, rfl, q, d1, d2, z.1, F1, dk, m, rfl, hq, ok, zin, f6, h6, fun H7 s7 => ?_⟩
      have b7 := b6.trans (But.of s7)
      have h7 := s7 d2 _ h6
      refine ⟨_, rfl, _, rfl, d2, _, rfl, get_rule (K := K) h7 (s7 _ _ hq), _, rfl, ?_⟩
      -- nothing is added
      have stay : ((Gs.known dk m (look F1) z.1).isSome = true → (look F1 z.1).isSome = true) → ∃ (F1' : List (List Nat × Nat)) (g1' : Bool) (v5' v8' : Option V), [some (V.ref d1), some (.ref d2), some (.bl g1), some (V.ref q), some (opt (Gs.known dk m (look F1) z.1))] = [some (V.ref d1), some (.ref d2), some (.bl g1'), v5', v8'] ∧ But d2 (upd Hc d1 (.frz od (.dT (fkv L)))) H7 ∧ H7 d2 = some (.dT (kvs F1')) ∧ Way dk m F1' ∧
          (g1' = false → F1' = F ∧ ∀ x ∈ (Km536.allNames dk).take (i + 1), (Gs.known dk m (look F) x).isSome = true → (look F x).isSome = true) ∧ (g1' = true → F.length < F1'.length) := fun y => by
        refine ⟨F1, g1, some (.ref q), some (opt (Gs.known dk m (look F1) z.1)), rfl, b7, h7, w1, fun y1 => ?_, c1⟩
        obtain ⟨f1, f2⟩ := c0 y1
        refine ⟨f1, fun x hx => ?_⟩
        rw [GsR.took zA] at hx
        rcases List.mem_append.mp hx with y2 | y2
        · exact f2 x y2
        · rw [List.mem_singleton.mp y2, ← f1]; exact y
      cases lk : look F1 z.1 with
      | some k0 =>
        rw [lk] at stay
        exact stay fun _ => rfl
      | none =>
        rw [lk] at stay
        refine ⟨_, rfl, rfl, _, rfl, ?_⟩
        cases kn : Gs.known dk m (look F1) z.1 with
        | none =>
          rw [kn] at stay
          exact stay fun y => by cases y
        | some k1 =>
          refine ⟨_, rfl, _, rfl, _, rfl, d2, _, rfl, .inr ⟨kvs F1, kk z.1, q, h7, rfl, by rw [kk_tv]; exact s7 _ _ hq, by rw [kvs_len, sizeLine_eq]; have := w1.len; omega, rfl⟩, ?_⟩
          have bp := But.put d2 H7 (.dT (putK (kvs F1) (kk z.1) (V.int (k1 : Int))))
          refine ⟨F1 ++ [(z.1, k1)], true, some (.ref q), some (.int (k1 : Int)), rfl, b7.trans bp, ?_, w1.add zin lk kn, fun y => (by cases y), fun _ => ?_⟩
          · show (upd _ _ _) _ = _
            rw [upd_same]
            exact congrArg (fun u => some (HO.dT u)) (put_kvs lk k1)
          · rw [List.length_append]
            cases g1 with
            | true => have := c1 rfl; simp; omega
            | false => rw [(c0 rfl).1]; simp
    · rintro σ H6 ⟨F1, g1, v5, v8, rfl, b6, h6, w1, c0, c1⟩
      have hk1 : H6 d1 = some (.frz od (.dT (fkv L))) := b6 d1 _ ne12 upd_same
      refine ⟨hk1, _, ?_, F1, g1, v5, v8, rfl, fun b o e => ?_, (upd_ne ne21).trans h6, w1, fun y x hx => ?_, rfl⟩
      · have l1 := w1.len
        have l2 := wF.len
        cases g1 with
        | true =>
          have := c1 rfl
          simp
          omega
        | false =>
          rw [(c0 rfl).1]
          simp
      · by_cases c : b = d1
        · subst c
          rw [upd_same]
          exact (h3d.symm.trans e)
        · rw [upd_ne c]
          have nb2 : b ≠ d2 := fun y => by rw [y, n2] at e; cases e
          exact b6 b o nb2 ((upd_ne c).trans (sc b o e))
      · obtain ⟨f1, f2⟩ := c0 y
        rw [f1]
        refine f2 x ?_
        rw [fkv, List.length_map, lenL, List.take_length]
        exact hx
end
end Gp
namespace Gp
open PySem PySem.Spec PyProof.Rows L2
/-! ### numbers that the top names -/
abbrev IsN (mg : Str → Option Value) (x : Str) (v : Int) : Prop := ∃ t, mg x = some (.int v t)
theorem pe_num {X : Cx} {x : Str} {v : Int} {pos : Pos} (h : IsN X.mg x v) (hg : Gl X x) (hd : (x == ("__debug__" : Str)) = false := by decide) : PE X (.Name x pos) (tC (.int v)) := by
  obtain ⟨t, e⟩ := h
  exact pe_glob hg e ⟨t, rfl⟩ hd
structure Nm (mg : Str → Option Value) : Prop where
  noPlace : IsN mg "NO_PLACE" (-2)
  nothing : IsN mg "NOTHING_TOLD" (-6)
  notBegun : IsN mg "NOT_BEGUN" (-11)
  notAllowed : IsN mg "NOT_ALLOWED" (-22)
  tooMany : IsN mg "TOO_MANY" (-28)
  notThere : IsN mg "NOT_THERE" (-33)
  least : IsN mg "LEAST_PLACES" 3
  most : IsN mg "MOST_PLACES" 7
  robots : IsN mg "MOST_ROBOTS" 4
  views : IsN mg "MOST_VIEWS" 24
  lastEyes : IsN mg "LAST_EYES" 2
  lastDone : IsN mg "LAST_DONE" 2
  lastMode : IsN mg "LAST_MODE" 2
  begin0 : IsN mg "BEGIN" 0
/-! ### the world -/
structure Wc (K : PySem.W.Frag) (mg : Str → Option Value) (C : Addr) : Prop where
  cl : Cls K C
  nR : NoAttr K C "ring"
  nE : NoAttr K C "eyes"
  nU : NoAttr K C "rule"
  nM : NoAttr K C "mode"
  gC : mg "World" = some (.ref C)
def wF (t : Addr) (e : Nat) (d : Addr) (m : Nat) : List (Str × V) := [("ring", .ref t), ("eyes", .int (e : Int)), ("rule", .ref d), ("mode", .int (m : Int))]
theorem fl_at {k : Str} {v : V} {r : List (Str × V)} : List.lookup k ((k, v) :: r) = some v := by
  simp only [List.lookup, beq_self_eq_true k]
theorem fl_on {k g : Str} {v : V} {r : List (Str × V)} (h : (k == g) = false) : List.lookup k ((g, v) :: r) = List.lookup k r := by
  simp only [List.lookup, h]
theorem wF_ring (t : Addr) (e : Nat) (d : Addr) (m : Nat) : (wF t e d m).lookup ("ring" : Str) = some (.ref t) := fl_at
theorem wF_eyes (t : Addr) (e : Nat) (d : Addr) (m : Nat) : (wF t e d m).lookup ("eyes" : Str) = some (.int (e : Int)) := (fl_on (by decide +kernel)).trans fl_at
theorem wF_rule (t : Addr) (e : Nat) (d : Addr) (m : Nat) : (wF t e d m).lookup ("rule" : Str) = some (.ref d) := (fl_on (by decide +kernel)).trans ((fl_on (by decide +kernel)).trans fl_at)
theorem wF_mode (t : Addr) (e : Nat) (d : Addr) (m : Nat) : (wF t e d m).lookup ("mode" : Str) = some (.int (m : Int)) := (fl_on (by decide +kernel)).trans ((fl_on (by decide +kernel)).trans ((fl_on (by decide +kernel)).trans fl_at))
theorem pf_at {f : Str} {v x : V} {r : List (Str × V)} : putF f v ((f, x) :: r) = (f, v) :: r := if_pos rfl
theorem pf_on {f g : Str} {v x : V} {r : List (Str × V)} (h : ¬ g = f) : putF f v ((g, x) :: r) = (g, x) :: putF f v r := if_neg h
theorem wF_putR (t t' : Addr) (e : Nat) (d : Addr) (m : Nat) : putF "ring" (.ref t') (wF t e d m) = wF t' e d m := pf_at
theorem wF_putE (t : Addr) (e e' : Nat) (d : Addr) (m : Nat) : putF "eyes" (.int (e' : Int)) (wF t e d m) = wF t e' d m := (pf_on (by decide +kernel)).trans (congrArg _ pf_at)
theorem wF_putU (t : Addr) (e : Nat) (d d' : Addr) (m : Nat) : putF "rule" (.ref d') (wF t e d m) = wF t e d' m := (pf_on (by decide +kernel)).trans (congrArg _ ((pf_on (by decide +kernel)).trans (congrArg _ pf_at)))
theorem wF_putM (t : Addr) (e : Nat) (d : Addr) (m m' : Nat) : putF "mode" (.int (m' : Int)) (wF t e d m) = wF t e d m' := (pf_on (by decide +kernel)).trans (congrArg _ ((pf_on (by decide +kernel)).trans (congrArg _ ((pf_on (by decide +kernel)).trans (congrArg _ pf_at)))))
structure Good (dk : Km535.Desk) : Prop where
  ok : Gs.DOk dk
  ey : dk.see.eyes ≤ 2
  at2 : dk.at_ ≤ 2
  few : dk.rule.length ≤ 24
  once : (dk.rule.map (·.1)).Nodup
def WAt (K : PySem.W.Frag) (C : Addr) (H : Hp) (a : Addr) : Km536.State → Prop
  | none => ∃ (dx t d : Addr) (e m : Nat), H a = some (.ins C dx (wF t e d m)) ∧ H t = some (.tup [])
  | some dk => ∃ (dx t d : Addr), H a = some (.ins C dx (wF t dk.see.eyes d dk.at_)) ∧ Tp K H t (Km535.ring dk) ∧ RuleAt H d dk.rule ∧ Good dk
/-- all but worlds and dicts stays -/
def Fr (C : Addr) (H H' : Hp) : Prop := ∀ b o, H b = some o → (∀ dx fs, o ≠ .ins C dx fs) → (∀ u, o ≠ .dT u) → H' b = some o
theorem Fr.of {C : Addr} {H H' : Hp} (e : Same H H') : Fr C H H' := fun b o h _ _ => e b o h
theorem Fr.trans {C : Addr} {H H1 H2 : Hp} (a : Fr C H H1) (b : Fr C H1 H2) : Fr C H H2 := fun c o h n1 n2 => b c o (a c o h n1 n2) n1 n2
theorem Fr.upd {C : Addr} {H : Hp} {a dx : Addr} {fs : List (Str × V)} (h : H a = some (.ins C dx fs)) (o : HO) : Fr C H (upd H a o) := fun b u e n1 _ => (upd_ne fun z => by
  rw [z, h] at e
  exact n1 dx fs (Option.some.inj e).symm).trans e
theorem Fr.put {C : Addr} {H : Hp} {a : Addr} {u : List (List L2.Key × V)} (h : H a = some (.dT u)) (o : HO) : Fr C H (L2.upd H a o) := fun b v e _ n2 => (upd_ne fun z => by
  rw [z, h] at e
  exact n2 u (Option.some.inj e).symm).trans e
theorem Fr.tup {C : Addr} {H H' : Hp} (f : Fr C H H') {a : Addr} {xs : List V} (h : H a = some (.tup xs)) : H' a = some (.tup xs) := f _ _ h (fun _ _ z => by cases z) fun _ z => by cases z
theorem Fr.lst {C : Addr} {H H' : Hp} (f : Fr C H H') {a : Addr} {xs : List V} (h : H a = some (.lst xs)) : H' a = some (.lst xs) := f _ _ h (fun _ _ z => by cases z) fun _ z => by cases z
/-- the world's objects are there, and the same ones -/
theorem WAt.same {K : PySem.W.Frag} {C : Addr} {H H' : Hp} {a : Addr} {st : Km536.State} (h : WAt K C H a st) (e : Same H H') : WAt K C H' a st := by
  cases st with
  | none =>
    obtain ⟨dx, t, d, ey, m, h1, h2⟩ := h
    exact ⟨dx, t, d, ey, m, e _ _ h1, e _ _ h2⟩
  | some dk =>
    obtain ⟨dx, t, d, h1, h2, h3, g⟩ := h
    exact ⟨dx, t, d, e _ _ h1, e _ _ h2, e _ _ h3, g⟩
/-- what a call answers -/
def ansOf (st : Km536.State) (c : Km536.Call) : List Int := (Km536.step st c).2.num :: (Km536.step st c).2.nums
/-- behind a call: the world then, the answer, and that all else stays -/
structure Aft (K : PySem.W.Frag) (C : Addr) (H : Hp) (a : Addr) (st : Km536.State) (c : Km536.Call) (H' : Hp) (b : Addr) : Prop where
  world : WAt K C H' a (Km536.step st c).1
  frame : Fr C H H'
  new : H b = none
  ans : H' b = some (.lst ((ansOf st c).map V.int))
/-! ### World() -/
def spInit (C : Addr) : Sp := fun vs H Q _ => ∃ (p dx : Addr), vs = [.ref p] ∧ H p = some (.ins C dx []) ∧ ∀ H' : Hp, (∃ t d, H' p = some (.ins C dx (wF t 0 d 0)) ∧ H' t = some (.tup [])) → (∀ b o, H b = some o → b ≠ p → H' b = some o) → Q .non H'
theorem scWInit : FnScope ["self"] ["self"] (defScope sWInit) := ⟨rfl, rfl, rfl, by decide +kernel, rfl, by decide +kernel, by decide +kernel⟩
section
variable {P : Program} {w : World} {K : PySem.W.Frag} {mg : Str → Option Value} {base : Heap} {C : Addr}
theorem ok_init {f : Addr} {fd : FuncData} (T : Wc K mg C) (F : Fun K "__init__" "World.__init__" sWInit f fd) : FnOk P w K mg base CX0 1 f fd ["self"] (spInit C) := by
  refine F.ok scWInit (fun vs H Q E h => ?_) (fun cdv A outer s H vs Q E hr h => ?_)
  · obtain ⟨p, dx, rfl, _⟩ := h
    rfl
  obtain ⟨p, dx, rfl, hp, k⟩ := h
  refine ⟨_, pss_cons (ps_fld (pv 0) (pe_tup pa_nil) rfl) (pss_cons (ps_fld (pv 0) pe_int rfl) (pss_cons (ps_fld (pv 0) pe_dnewT rfl) (pss_one (ps_fld (pv 0) pe_int rfl)))), ?_⟩
  refine ⟨(by show 0 ≤ sizeLine; decide), fun t nt => ?_⟩
  have tp : p ≠ t := fun z => by rw [z, nt] at hp; cases hp
  refine ⟨_, rfl, p, C, dx, _, rfl, (upd_ne tp).trans hp, T.cl, T.nR, (by show 0 < 1000; decide), ?_⟩
  refine ⟨_, rfl, p, C, dx, _, rfl, upd_same, T.cl, T.nE, (by show 1 < 1000; decide), ?_⟩
  intro d nd
  have pd : p ≠ d := fun z => by rw [← z, upd_same] at nd; cases nd
  have td : t ≠ d := fun z => by rw [← z, upd_ne (Ne.symm tp), upd_ne (Ne.symm tp), upd_same] at nd; cases nd
  refine ⟨_, rfl, p, C, dx, _, rfl, (upd_ne pd).trans upd_same, T.cl, T.nU, (by show 2 < 1000; decide), ?_⟩
  refine ⟨_, rfl, p, C, dx, _, rfl, upd_same, T.cl, T.nM, (by show 3 < 1000; decide), ?_⟩
  refine k _ ⟨t, d, upd_same.trans ?_, ?_⟩ fun b o e hb => ?_
  · refine congrArg (fun u => some (HO.ins C dx u)) ?_
    have e1 : putF "ring" (.ref t) [] = [(("ring" : Str), V.ref t)] := rfl
    have e2 : putF "eyes" (.int 0) [(("ring" : Str), V.ref t)] = ([("ring", V.ref t), ("eyes", .int 0)] : List (Str × V)) := (pf_on (by decide +kernel)).trans rfl
    have e3 : putF "rule" (.ref d) [(("ring" : Str), V.ref t), ("eyes", .int 0)] = ([("ring", V.ref t), ("eyes", .int 0), ("rule", .ref d)] : List (Str × V)) := (pf_on (by decide +kernel)).trans (congrArg _ ((pf_on (by decide +kernel)).trans rfl))
    rw [e1, e2, e3]
    exact (pf_on (by decide +kernel)).trans (congrArg _ ((pf_on (by decide +kernel)).trans (congrArg _ ((pf_on (by decide +kernel)).trans rfl))))
  · rw [upd_ne (Ne.symm tp), upd_ne (Ne.symm tp), upd_ne td, upd_ne (Ne.symm tp), upd_ne (Ne.symm tp)]
    exact upd_same
  · have bt : b ≠ t := fun z => by rw [z, nt] at e; cases e
    have bd : b ≠ d := fun z => by rw [← z, upd_ne hb, upd_ne hb, upd_ne bt, e] at nd; cases nd
    rw [upd_ne hb, upd_ne hb, upd_ne bd, upd_ne hb, upd_ne hb, upd_ne bt]
    exact e
end
/-! ### is_begun -/
def spIsBegun (K : PySem.W.Frag) (C : Addr) : Sp := fun vs H Q _ => ∃ (a : Addr) (st : Km536.State), vs = [.ref a] ∧ WAt K C H a st ∧ Q (.bl st.isSome) H
theorem scIsBegun : FnScope ["world"] ["world"] (defScope sIsBegun) := ⟨rfl, rfl, rfl, by decide +kernel, rfl, by decide +kernel, by decide +kernel⟩
section
variable {P : Program} {w : World} {K : PySem.W.Frag} {mg : Str → Option Value} {base : Heap} {C : Addr}
theorem ok_is_begun {f : Addr} {fd : FuncData} (B : Bt mg) (T : Wc K mg C) (F : Fun K "is_begun" "is_begun" sIsBegun f fd) : FnOk P w K mg base CX0 1 f fd ["world"] (spIsBegun K C) := by
  refine F.ok scIsBegun (fun vs H Q E h => ?_) (fun cdv A outer s H vs Q E hr h => ?_)
  · obtain ⟨a, st, rfl, _⟩ := h
    rfl
  obtain ⟨a, st, rfl, hw, k⟩ := h
  refine ⟨_, pss_one (ps_ret (pe_cmpR op_gt (pe_callB call_len_seq (by rfl) B.len PySem.boot_len (pa_cons (pe_fld (pv 0) rfl) pa_nil)) pe_int (nomark _))), ?_⟩
  cases st with
  | none =>
    obtain ⟨dx, t, d, e, m, h1, h2⟩ := hw
    exact ⟨_, rfl, a, C, dx, _, _, rfl, h1, T.cl, T.nR, wF_ring _ _ _ _, t, _, rfl, .inr (SqT.of h2), _, _, rfl, rfl, k⟩
  | some dk =>
    obtain ⟨dx, t, d, h1, h2, _, g⟩ := hw
    refine ⟨_, rfl, a, C, dx, _, _, rfl, h1, T.cl, T.nR, wF_ring _ _ _ _, t, _, rfl, .inr (SqT.of h2), _, _, rfl, rfl, ?_⟩
    have := g.ok.lo
    have e : decide ((0 : Int) < (((tv (Km535.ring dk)).length : Nat) : Int)) = true := decide_eq_true (by rw [tv_len]; omega)
    dsimp only
    rw [e]
    exact k
end
end Gp
namespace Gp
open PySem PySem.Spec PyProof.Rows L2
/-- nothing changes: an answer alone -/
theorem aft_stay {K : PySem.W.Frag} {C : Addr} {H H1 : Hp} {a b : Addr} {st : Km536.State} {c : Km536.Call} {v : Int} {vs : List Int} (h : Km536.step st c = (st, ⟨v, vs⟩)) (hw : WAt K C H a st) (s : Same H H1) (nb : H1 b = none) : Aft K C H a st c (upd H1 b (.lst ((v :: vs).map V.int))) b := by
  refine ⟨?_, Fr.of (s.trans (same_upd nb)), s.free nb, ?_⟩
  · rw [h]
    exact hw.same (s.trans (same_upd nb))
  · rw [upd_same, ansOf, h]
/-! ### begin -/
theorem begin_no (st : Km536.State) {n e : Nat} (h : n < 3 ∨ 7 < n ∨ 2 < e) : Km536.step st (.begin_ n e) = (st, ⟨-22, []⟩) := by
  have e1 : Km535.step none (.begin_ n e) = (none, Km535.say (-22)) := if_pos h
  show (if (Km535.step none (.begin_ n e)).2.num < 0 then _ else _) = _
  rw [e1]
  rfl
theorem begin_yes (st : Km536.State) {n e : Nat} (h : ¬ (n < 3 ∨ 7 < n ∨ 2 < e)) : Km536.step st (.begin_ n e) = (some ⟨⟨List.replicate n 0, e⟩, [], 0⟩, ⟨0, []⟩) := by
  have e1 : Km535.step none (.begin_ n e) = (some ⟨⟨List.replicate n 0, e⟩, [], 0⟩, Km535.say 0) := if_neg h
  show (if (Km535.step none (.begin_ n e)).2.num < 0 then _ else _) = _
  rw [e1]
  rfl
def spBegin (K : PySem.W.Frag) (C : Addr) : Sp := fun vs H Q _ => ∃ (a : Addr) (st : Km536.State) (n e : Nat), vs = [.ref a, .int n, .int e] ∧ WAt K C H a st ∧ ∀ H' b, Aft K C H a st (.begin_ n e) H' b → Q (.ref b) H'
theorem scBegin : FnScope ["world", "places", "eyes"] ["world", "places", "eyes"] (defScope sBegin) := ⟨rfl, rfl, rfl, by decide +kernel, rfl, by decide +kernel, by decide +kernel⟩
theorem rep_tv (n : Nat) : (List.replicate n [V.int 0]).flatten = tv (List.replicate n 0) := by
  induction n with
  | zero => rfl
  | succ n ih =>
    rw [List.replicate_succ, List.flatten_cons, ih, List.replicate_succ]
    rfl
theorem sum_rep (n : Nat) : (List.replicate n 0).sum = 0 := by
  induction n with
  | zero => rfl
  | succ n ih => rw [List.replicate_succ, List.sum_cons, ih]
theorem world_ins {K : PySem.W.Frag} {C : Addr} {H : Hp} {a : Addr} {st : Km536.State} (h : WAt K C H a st) : ∃ (dx t d : Addr) (e m : Nat), H a = some (.ins C dx (wF t e d m)) := by
  cases st with
  | none =>
    obtain ⟨dx, t, d, e, m, h1, _⟩ := h
    exact ⟨dx, t, d, e, m, h1⟩
  | some dk =>
    obtain ⟨dx, t, d, h1, _⟩ := h
    exact ⟨dx, t, d, _, _, h1⟩
section
variable {P : Program} {w : World} {K : PySem.W.Frag} {mg : Str → Option Value} {base : Heap} {C : Addr}
theorem ok_begin {f : Addr} {fd : FuncData} (T : Wc K mg C) (M : Nm mg) (F : Fun K "begin_ring" "begin_ring" sBegin f fd) : FnOk P w K mg base CX0 1 f fd ["world", "places", "eyes"] (spBegin K C) := by
  refine F.ok scBegin (fun vs H Q E h => ?_) (fun cdv A outer s H vs Q E hr h => ?_)
  · obtain ⟨a, st, n, e, rfl, _⟩ := h
    rfl
  obtain ⟨a, st, n, e, rfl, hw, k⟩ := h
  refine ⟨_, pss_cons (ps_if (PW.pt (pw_or (pt_cmpR op_lt (pv 1) (pe_num M.least rfl) (nomark _)) (pw_or (pt_cmpR op_gt (pv 1) (pe_num M.most rfl) (nomark _)) (pw_or1 (pt_cmpR op_gt (pv 2) (pe_num M.lastEyes rfl) (nomark _)))))) (pss_one (ps_ret (pe_lst (pa_cons (pe_num M.notAllowed rfl) pa_nil)))) pss_nil)
    (pss_cons (ps_fld (pv 0) (pe_op op_repT (pe_tup (pa_cons pe_int pa_nil)) (pv 1)) rfl) (pss_cons (ps_fld (pv 0) (pv 2) rfl) (pss_cons (ps_fld (pv 0) pe_dnewT rfl) (pss_cons (ps_fld (pv 0) pe_int rfl) (pss_one (ps_ret (pe_lst (pa_cons pe_int pa_nil)))))))), ?_⟩
  have no : (n < 3 ∨ 7 < n ∨ 2 < e) → (1 ≤ sizeLine ∧ ∀ (l : Addr), H l = none → Q (V.ref l) (upd H l (.lst [V.int (-22)]))) := fun h => ⟨(by decide), fun l nl => k _ l (aft_stay (begin_no st h) hw (Same.refl H) nl)⟩
  refine ⟨_, rfl, _, _, rfl, rfl, _, rfl, ?_⟩
  by_cases c1 : n < 3
  · exact iteDT (by omega) (no (.inl c1))
  refine iteDF (by omega) ⟨_, rfl, _, _, rfl, rfl, _, rfl, ?_⟩
  by_cases c2 : 7 < n
  · exact iteDT (by omega) (no (.inr (.inl c2)))
  refine iteDF (by omega) ⟨_, rfl, _, _, rfl, rfl, _, rfl, ?_⟩
  by_cases c3 : 2 < e
  · exact iteDT (by omega) (no (.inr (.inr c3)))
  refine iteDF (by omega) ?_
  obtain ⟨dx, t, d, e0, m0, h1⟩ := world_ins hw
  refine ⟨(by show 1 ≤ sizeLine; decide), fun t1 n1 => ⟨_, rfl, t1, (n : Int), [V.int 0], rfl, rfl, SqT.of upd_same, (fun z => by cases z), by omega, by omega, (by show 1 ≤ 1000; decide), fun t2 n2 => ?_⟩⟩
  rw [Int.toNat_natCast, rep_tv]
  have s2 := (same_upd n1 (o := .tup [V.int 0])).trans (same_upd n2 (o := .tup (tv (List.replicate n 0))))
  generalize hH2 : upd (upd H t1 (.tup [V.int 0])) t2 (.tup (tv (List.replicate n 0))) = H2 at s2
  have ht2 : H2 t2 = some (.tup (tv (List.replicate n 0))) := by rw [← hH2]; exact upd_same
  have h2 := s2 a _ h1
  have a2 : t2 ≠ a := fun z => by rw [z, h2] at ht2; cases ht2
  refine ⟨_, rfl, a, C, dx, _, rfl, h2, T.cl, T.nR, (by show 4 < 1000; decide), ?_⟩
  refine ⟨_, rfl, _, rfl, a, C, dx, _, rfl, upd_same, T.cl, T.nE, (by show 4 < 1000; decide), ?_⟩
  rw [wF_putR]
  intro d2 n3
  have ad : a ≠ d2 := fun z => by rw [← z, upd_same] at n3; cases n3
  have td : t2 ≠ d2 := fun z => by rw [← z, upd_ne a2, upd_ne a2, ht2] at n3; cases n3
  refine ⟨_, rfl, a, C, dx, _, rfl, (upd_ne ad).trans upd_same, T.cl, T.nU, (by show 4 < 1000; decide), ?_⟩
  refine ⟨_, rfl, a, C, dx, _, rfl, upd_same, T.cl, T.nM, (by show 4 < 1000; decide), ?_⟩
  rw [wF_putE, wF_putU, show (V.int 0) = V.int ((0 : Nat) : Int) from rfl, wF_putM]
  refine ⟨(by show 1 ≤ sizeLine; decide), fun b nb => k _ b ?_⟩
  have eb := begin_yes st (n := n) (e := e) (by omega)
  have ab : a ≠ b := fun z => by rw [← z, upd_same] at nb; cases nb
  have tb : t2 ≠ b := fun z => by
    rw [← z, upd_ne a2, upd_ne a2, upd_ne td, upd_ne a2, upd_ne a2, ht2] at nb
    cases nb
  have db : d2 ≠ b := fun z => by
    rw [← z, upd_ne (Ne.symm ad), upd_ne (Ne.symm ad), upd_same] at nb
    cases nb
  have keep : ∀ x o, H x = some o → x ≠ a → x ≠ d2 ∧ x ≠ b := fun x o hx xa => by
    have q := s2 x o hx
    have x1 : x ≠ d2 := fun z => by rw [← z, upd_ne xa, upd_ne xa, q] at n3; cases n3
    refine ⟨x1, fun z => ?_⟩
    rw [← z, upd_ne xa, upd_ne xa, upd_ne x1, upd_ne xa, upd_ne xa, q] at nb
    cases nb
  refine ⟨?_, fun x o hx hn1 hn2 => ?_, ?_, ?_⟩
  · rw [eb]
    refine ⟨dx, t2, d2, (upd_ne ab).trans upd_same, ?_, ?_, ⟨?_, by show e ≤ 2; omega, Nat.zero_le _, Nat.zero_le _, List.nodup_nil⟩⟩
    · show (upd _ _ _) _ = _
      rw [upd_ne tb, upd_ne a2, upd_ne a2, upd_ne td, upd_ne a2, upd_ne a2]
      exact ht2
    · show (upd _ _ _) _ = _
      rw [upd_ne db, upd_ne (Ne.symm ad), upd_ne (Ne.symm ad), upd_same]
      rfl
    · refine ⟨?_, ?_, ?_⟩
      · show 3 ≤ (List.replicate n 0).length; rw [List.length_replicate]; omega
      · show (List.replicate n 0).length ≤ 7; rw [List.length_replicate]; omega
      · show (List.replicate n 0).sum ≤ 4; rw [sum_rep]; omega
  · have xa : x ≠ a := fun z => by rw [z, h1] at hx; exact hn1 _ _ (Option.some.inj hx).symm
    obtain ⟨x1, x2⟩ := keep x o hx xa
    rw [upd_ne x2, upd_ne xa, upd_ne xa, upd_ne x1, upd_ne xa, upd_ne xa]
    exact s2 x o hx
  · cases hb : H b with
    | none => rfl
    | some o => exact absurd rfl (keep b o hb (Ne.symm ab)).2
  · rw [upd_same, ansOf, eb]
    rfl
end
/-! ### eyes, at -/
theorem eyes_no (dk : Km535.Desk) {e : Nat} (h : 2 < e) : Km536.step (some dk) (.eyes e) = (some dk, ⟨-22, []⟩) := by
  have e1 : Km535.step (some dk) (.eyes e) = (some dk, Km535.say (-22)) := if_pos h
  show Km536.onRule dk (.eyes e) = _
  unfold Km536.onRule
  rw [e1]
  rfl
theorem eyes_yes (dk : Km535.Desk) {e : Nat} (h : ¬ 2 < e) : Km536.step (some dk) (.eyes e) = (some { dk with see := ⟨Km535.ring dk, e⟩, rule := [] }, ⟨(dk.see.eyes : Nat), []⟩) := by
  have e1 : Km535.step (some dk) (.eyes e) = (some { dk with see := ⟨Km535.ring dk, e⟩, rule := [] }, Km535.say (dk.see.eyes : Nat)) := if_neg h
  show Km536.onRule dk (.eyes e) = _
  unfold Km536.onRule
  rw [e1]
  rfl
theorem at_no (dk : Km535.Desk) {m : Nat} (h : 2 < m) : Km536.step (some dk) (.at_ m) = (some dk, ⟨-22, []⟩) := by
  have e1 : Km535.step (some dk) (.at_ m) = (some dk, Km535.say (-22)) := if_pos h
  show Km536.onRule dk (.at_ m) = _
  unfold Km536.onRule
  rw [e1]
  rfl
theorem at_yes (dk : Km535.Desk) {m : Nat} (h : ¬ 2 < m) : Km536.step (some dk) (.at_ m) = (some { dk with at_ := m }, ⟨(dk.at_ : Nat), []⟩) := by
  have e1 : Km535.step (some dk) (.at_ m) = (some { dk with at_ := m }, Km535.say (dk.at_ : Nat)) := if_neg h
  show Km536.onRule dk (.at_ m) = _
  unfold Km536.onRule
  rw [e1]
  rfl
/-- a call with one number -/
def sp1 (K : PySem.W.Frag) (C : Addr) (c : Nat → Km536.Call) : Sp := fun vs H Q _ => ∃ (a : Addr) (dk : Km535.Desk) (x : Nat), vs = [.ref a, .int x] ∧ WAt K C H a (some dk) ∧ ∀ H' b, Aft K C H a (some dk) (c x) H' b → Q (.ref b) H'
/-- a call with two -/
def sp2 (K : PySem.W.Frag) (C : Addr) (c : Nat → Nat → Km536.Call) : Sp := fun vs H Q _ => ∃ (a : Addr) (dk : Km535.Desk) (x y : Nat), vs = [.ref a, .int x, .int y] ∧ WAt K C H a (some dk) ∧ ∀ H' b, Aft K C H a (some dk) (c x y) H' b → Q (.ref b) H'
theorem scEyes : FnScope ["world", "eyes", "were"] ["world", "eyes"] (defScope sEyes) := ⟨rfl, rfl, rfl, by decide +kernel, rfl, by decide +kernel, by decide +kernel⟩
/-! ### refusal_of_mode -/
def refM (m : Nat) : V := if 2 < m then .int (-22) else .non
def spRefMode : Sp := fun vs H Q _ => ∃ m : Nat, vs = [.int m] ∧ Q (refM m) H
theorem scRefMode : FnScope ["mode"] ["mode"] (defScope sRefMode) := ⟨rfl, rfl, rfl, by decide +kernel, rfl, by decide +kernel, by decide +kernel⟩
theorem scMode : FnScope ["world", "mode", "refusal", "was"] ["world", "mode"] (defScope sMode) := ⟨rfl, rfl, rfl, by decide +kernel, rfl, by decide +kernel, by decide +kernel⟩
section
variable {P : Program} {w : World} {K : PySem.W.Frag} {mg : Str → Option Value} {base : Heap} {C : Addr}
theorem ok_ref_mode {f : Addr} {fd : FuncData} (M : Nm mg) (F : Fun K "refusal_of_mode" "refusal_of_mode" sRefMode f fd) : FnOk P w K mg base CX0 1 f fd ["mode"] spRefMode := by
  refine F.ok scRefMode (fun vs H Q E h => ?_) (fun cdv A outer s H vs Q E hr h => ?_)
  · obtain ⟨m, rfl, _⟩ := h
    rfl
  obtain ⟨m, rfl, k⟩ := h
  refine ⟨_, pss_one (ps_ret (pe_ifExp (pt_cmpR op_gt (pv 0) (pe_num M.lastMode rfl) (nomark _)) (pe_num M.notAllowed rfl) pe_non)), ?_⟩
  refine ⟨_, rfl, _, _, rfl, rfl, _, rfl, ?_⟩
  unfold refM at k
  by_cases c : 2 < m
  · rw [if_pos c] at k
    exact iteDT (by omega) k
  · rw [if_neg c] at k
    exact iteDF (by omega) k
theorem ok_mode {f : Addr} {fd : FuncData} (T : Wc K mg C) (F : Fun K "change_mode" "change_mode" sMode f fd) (dM : Def P w K mg base 1 "refusal_of_mode" spRefMode) : FnOk P w K mg base CX0 2 f fd ["world", "mode"] (sp1 K C .at_) := by
  refine F.ok scMode (fun vs H Q E h => ?_) (fun cdv A outer s H vs Q E hr h => ?_)
  · obtain ⟨a, dk, x, rfl, _⟩ := h
    rfl
  obtain ⟨a, dk, x, rfl, hw, k⟩ := h
  refine ⟨_, pss_cons (ps_set (i := 2) scMode.nd rfl (Or.inl rfl) (pe_def dM hr (by decide) (by rfl) (pa_cons (pv 1) pa_nil)))
    (pss_cons (ps_if (pt_cmpR op_notN (pv 2) pe_non (nomark _)) (pss_one (ps_ret (pe_lst (pa_cons (pv 2) pa_nil)))) pss_nil)
    (pss_cons (ps_set (i := 3) scMode.nd rfl (Or.inl rfl) (pe_fld (pv 0) rfl)) (pss_cons (ps_fld (pv 0) (pv 1) rfl) (pss_one (ps_ret (pe_lst (pa_cons (pv 3) pa_nil))))))), ?_⟩
  refine ⟨_, rfl, x, rfl, ?_⟩
  by_cases c : 2 < x
  · rw [show refM x = .int (-22) from if_pos c]
    exact ⟨_, rfl, rfl, _, rfl, _, rfl, (by show 1 ≤ sizeLine; decide), fun l nl => k _ l (aft_stay (at_no dk c) hw (Same.refl H) nl)⟩
  rw [show refM x = .non from if_neg c]
  refine ⟨_, rfl, rfl, _, rfl, ?_⟩
  obtain ⟨dx, t, d, h1, h2, h3, g⟩ := id hw
  have ta : t ≠ a := fun z => by
    have q : H t = some _ := h2
    rw [z, h1] at q
    cases q
  have da : d ≠ a := fun z => by
    have q : H d = some _ := h3
    rw [z, h1] at q
    cases q
  refine ⟨_, rfl, a, C, dx, _, _, rfl, h1, T.cl, T.nM, wF_mode _ _ _ _, ?_⟩
  refine ⟨_, rfl, _, rfl, a, C, dx, _, rfl, h1, T.cl, T.nM, (by show 4 < 1000; decide), ?_⟩
  rw [wF_putM]
  refine ⟨_, rfl, (by show 1 ≤ sizeLine; decide), fun b nb => k _ b ?_⟩
  have eb := at_yes dk c
  have s2 := same_upd nb (o := .lst [V.int (dk.at_ : Int)])
  have fr := Fr.upd h1 (.ins C dx (wF t dk.see.eyes d x))
  refine ⟨?_, fr.trans (Fr.of s2), ?_, ?_⟩
  · rw [eb]
    exact ⟨dx, t, d, s2 _ _ upd_same, s2 _ _ ((upd_ne ta).trans h2), s2 _ _ ((upd_ne da).trans h3), ⟨g.ok, g.ey, by show x ≤ 2; omega, g.few, g.once⟩⟩
  · have ab : b ≠ a := fun z => by rw [z, upd_same] at nb; cases nb
    rw [upd_ne ab] at nb
    exact nb
  · rw [upd_same, ansOf, eb]
    rfl
theorem ok_eyes {f : Addr} {fd : FuncData} (T : Wc K mg C) (M : Nm mg) (F : Fun K "change_eyes" "change_eyes" sEyes f fd) : FnOk P w K mg base CX0 1 f fd ["world", "eyes"] (sp1 K C .eyes) := by
  refine F.ok scEyes (fun vs H Q E h => ?_) (fun cdv A outer s H vs Q E hr h => ?_)
  · obtain ⟨a, dk, x, rfl, _⟩ := h
    rfl
  obtain ⟨a, dk, x, rfl, hw, k⟩ := h
  refine ⟨_, pss_cons (ps_if (pt_cmpR op_gt (pv 1) (pe_num M.lastEyes rfl) (nomark _)) (pss_one (ps_ret (pe_lst (pa_cons (pe_num M.notAllowed rfl) pa_nil)))) pss_nil)
    (pss_cons (ps_set (i := 2) scEyes.nd rfl (Or.inl rfl) (pe_fld (pv 0) rfl)) (pss_cons (ps_fld (pv 0) (pv 1) rfl) (pss_cons (ps_fld (pv 0) pe_dnewT rfl) (pss_one (ps_ret (pe_lst (pa_cons (pv 2) pa_nil))))))), ?_⟩
  refine ⟨_, rfl, _, _, rfl, rfl, _, rfl, ?_⟩
  by_cases c : 2 < x
  · exact iteDT (by omega) ⟨(by show 1 ≤ sizeLine; decide), fun l nl => k _ l (aft_stay (eyes_no dk c) hw (Same.refl H) nl)⟩
  refine iteDF (by omega) ?_
  obtain ⟨dx, t, d, h1, h2, h3, g⟩ := id hw
  have ta : t ≠ a := fun z => by
    have q : H t = some _ := h2
    rw [z, h1] at q
    cases q
  refine ⟨_, rfl, a, C, dx, _, _, rfl, h1, T.cl, T.nE, wF_eyes _ _ _ _, ?_⟩
  refine ⟨_, rfl, _, rfl, a, C, dx, _, rfl, h1, T.cl, T.nE, (by show 4 < 1000; decide), ?_⟩
  rw [wF_putE]
  intro d2 n2
  have ad : a ≠ d2 := fun z => by rw [← z, upd_same] at n2; cases n2
  have s1 := same_upd n2 (o := .dT [])
  refine ⟨_, rfl, a, C, dx, _, rfl, s1 _ _ upd_same, T.cl, T.nU, (by show 4 < 1000; decide), ?_⟩
  rw [wF_putU]
  refine ⟨_, rfl, (by show 1 ≤ sizeLine; decide), fun b nb => k _ b ?_⟩
  have eb := eyes_yes dk c
  have s2 := same_upd nb (o := .lst [V.int (dk.see.eyes : Int)])
  have f1 := Fr.upd h1 (.ins C dx (wF t x d dk.at_))
  have f2 := Fr.upd (C := C) (s1 a _ upd_same) (.ins C dx (wF t x d2 dk.at_))
  have fr := ((f1.trans (Fr.of s1)).trans f2).trans (Fr.of s2)
  refine ⟨?_, fr, ?_, ?_⟩
  · rw [eb]
    exact ⟨dx, t, d2, s2 _ _ upd_same, s2 _ _ ((upd_ne ta).trans (s1 _ _ ((upd_ne ta).trans h2))), s2 _ _ ((upd_ne (Ne.symm ad)).trans upd_same), ⟨g.ok, by show x ≤ 2; omega, g.at2, Nat.zero_le _, List.nodup_nil⟩⟩
  · cases hb : H b with
    | none => rfl
    | some o =>
      exfalso
      have ab : b ≠ a := fun z => by rw [z, upd_same] at nb; cases nb
      rw [upd_ne ab] at nb
      have q := s1.free nb
      rw [upd_ne ab, hb] at q
      cases q
  · rw [upd_same, ansOf, eb]
    rfl
end
end Gp
namespace Gp
open PySem PySem.Spec PyProof.Rows L2
/-! ### put -/
theorem onRule_of (dk : Km535.Desk) {c : Km535.Call} {st : Km535.State} {a : Km535.Ans} (h : Km535.step (some dk) c = (st, a)) : Km536.onRule dk c = (some (st.getD dk), ⟨a.num, a.nums⟩) := by
  unfold Km536.onRule
  rw [h]
theorem put_1 (dk : Km535.Desk) {p x : Nat} (h : (Km535.ring dk).length ≤ p) : Km536.step (some dk) (.put p x) = (some dk, ⟨-2, []⟩) :=
  onRule_of dk (st := some dk) (a := Km535.say (-2)) (if_pos h)
theorem put_2 (dk : Km535.Desk) {p x : Nat} (h : ¬ (Km535.ring dk).length ≤ p) (h2 : 4 < x) : Km536.step (some dk) (.put p x) = (some dk, ⟨-22, []⟩) :=
  onRule_of dk (st := some dk) (a := Km535.say (-22)) ((if_neg h).trans (if_pos h2))
theorem put_3 (dk : Km535.Desk) {p x : Nat} (h : ¬ (Km535.ring dk).length ≤ p) (h2 : ¬ 4 < x) (h3 : 4 < ((Km535.ring dk).set p x).sum) : Km536.step (some dk) (.put p x) = (some dk, ⟨-28, []⟩) :=
  onRule_of dk (st := some dk) (a := Km535.say (-28)) ((if_neg h).trans ((if_neg h2).trans (if_pos (by rw [Gs.ksum]; exact h3))))
theorem put_4 (dk : Km535.Desk) {p x : Nat} (h : ¬ (Km535.ring dk).length ≤ p) (h2 : ¬ 4 < x) (h3 : ¬ 4 < ((Km535.ring dk).set p x).sum) :
    Km536.step (some dk) (.put p x) = (some (Km535.setRing dk ((Km535.ring dk).set p x)), ⟨((Km535.ring dk).getD p 0 : Nat), []⟩) :=
  onRule_of dk (st := some (Km535.setRing dk ((Km535.ring dk).set p x))) (a := Km535.say ((Km535.ring dk).getD p 0 : Nat)) ((if_neg h).trans ((if_neg h2).trans (if_neg (by rw [Gs.ksum]; exact h3))))
theorem set_cut (r : List Nat) {p : Nat} (x : Nat) (h : p < r.length) : r.take p ++ [x] ++ r.drop (p + 1) = r.set p x := by
  rw [List.set_eq_take_append_cons_drop, if_pos h, List.append_assoc]
  rfl
abbrev nPut : List Str := ["world", "place", "robots", "were"]
theorem scPut : FnScope nPut ["world", "place", "robots"] (defScope sPut) := ⟨rfl, rfl, rfl, by decide +kernel, rfl, by decide +kernel, by decide +kernel⟩
section
variable {P : Program} {w : World} {K : PySem.W.Frag} {mg : Str → Option Value} {base : Heap} {C : Addr}
/-- the world's ring is another one now -/
theorem aft_ring {H H2 H4 : Hp} {a t2 dx t d b : Addr} {dk : Km535.Desk} {c : Km536.Call} {r : List Nat} {v : Int} (s2 : Same H H2) (h1 : H a = some (.ins C dx (wF t dk.see.eyes d dk.at_))) (hd : RuleAt H d dk.rule) (g : Good dk) (t2r : Tp K H2 t2 r) (ok : Gs.Ok r)
    (eb : Km536.step (some dk) c = (some (Km535.setRing dk r), ⟨v, []⟩)) (e4 : H4 = upd (upd H2 a (.ins C dx (wF t2 dk.see.eyes d dk.at_))) b (.lst [V.int v])) (nb : upd H2 a (.ins C dx (wF t2 dk.see.eyes d dk.at_)) b = none) : Aft K C H a (some dk) c H4 b := by
  subst e4
  have sb := same_upd nb (o := .lst [V.int v])
  have ta : t2 ≠ a := fun z => by
    have q : H2 t2 = some _ := t2r
    rw [z, s2 a _ h1] at q
    cases q
  have da : d ≠ a := fun z => by
    have q : H d = some _ := hd
    rw [z, h1] at q
    cases q
  refine ⟨?_, ((Fr.of s2).trans (Fr.upd (s2 a _ h1) _)).trans (Fr.of sb), ?_, ?_⟩
  · rw [eb]
    exact ⟨dx, t2, d, sb _ _ upd_same, sb _ _ ((upd_ne ta).trans t2r), sb _ _ ((upd_ne da).trans (s2 _ _ hd)), ⟨ok, g.ey, g.at2, g.few, g.once⟩⟩
  · have ab : b ≠ a := fun z => by rw [z, upd_same] at nb; cases nb
    rw [upd_ne ab] at nb
    exact s2.free nb
  · rw [upd_same, ansOf, eb]
    rfl
theorem ok_put {f : Addr} {fd : FuncData} (B : Bt mg) (T : Wc K mg C) (M : Nm mg) (F : Fun K "put_robots" "put_robots" sPut f fd) : FnOk P w K mg base CX0 1 f fd ["world", "place", "robots"] (sp2 K C .put) := by
  refine F.ok scPut (fun vs H Q E h => ?_) (fun cdv A outer s H vs Q E hr h => ?_)
  · obtain ⟨a, dk, x, y, rfl, _⟩ := h
    rfl
  obtain ⟨a, dk, p, x, rfl, hw, k⟩ := h
  refine ⟨_, pss_cons (ps_if (pt_cmpR op_ge (pv 1) (pe_callB call_len_seq (by rfl) B.len PySem.boot_len (pa_cons (pe_fld (pv 0) rfl) pa_nil)) (nomark _)) (pss_one (ps_ret (pe_lst (pa_cons (pe_num M.noPlace rfl) pa_nil)))) pss_nil)
    (pss_cons (ps_if (pt_cmpR op_gt (pv 2) (pe_num M.robots rfl) (nomark _)) (pss_one (ps_ret (pe_lst (pa_cons (pe_num M.notAllowed rfl) pa_nil)))) pss_nil)
    (pss_cons (ps_set (i := 3) scPut.nd rfl (Or.inl rfl) (pe_ix (r := rIxT K) ix_tup (pe_fld (pv 0) rfl) (pv 1) (fun _ _ => rfl)))
    (pss_cons (ps_if (pt_cmpR op_gt (pe_op op_add (pe_op op_sub (pe_callB (GsR.cr_sumT rfl) (by rfl) B.sum (by decide +kernel) (pa_cons (pe_fld (pv 0) rfl) pa_nil)) (pv 3)) (pv 2)) (pe_num M.robots rfl) (nomark _)) (pss_one (ps_ret (pe_lst (pa_cons (pe_num M.tooMany rfl) pa_nil)))) pss_nil)
    (pss_cons (ps_fld (pv 0) (pe_op op_catA (pe_op op_catA (pe_slice sl_tupA (pe_fld (pv 0) rfl) po_none (po_some (pv 1))) (pe_tup (pa_cons (pv 2) pa_nil))) (pe_slice sl_tupA (pe_fld (pv 0) rfl) (po_some (pe_op op_add (pv 1) pe_int)) po_none)) rfl)
    (pss_one (ps_ret (pe_lst (pa_cons (pv 3) pa_nil)))))))), ?_⟩
  obtain ⟨dx, t, d, h1, h2, h3, g⟩ := id hw
  have lo := g.ok.lo
  have hi := g.ok.hi
  refine ⟨_, rfl, _, rfl, a, C, dx, _, _, rfl, h1, T.cl, T.nR, wF_ring _ _ _ _, t, _, rfl, .inr (SqT.of h2), _, _, rfl, rfl, _, rfl, ?_⟩
  rw [tv_len]
  by_cases c1 : (Km535.ring dk).length ≤ p
  · exact iteDT (by omega) ⟨(by show 1 ≤ sizeLine; decide), fun l nl => k _ l (aft_stay (put_1 dk c1) hw (Same.refl H) nl)⟩
  refine iteDF (by omega) ⟨_, rfl, _, _, rfl, rfl, _, rfl, ?_⟩
  by_cases c2 : 4 < x
  · exact iteDT (by omega) ⟨(by show 1 ≤ sizeLine; decide), fun l nl => k _ l (aft_stay (put_2 dk c1 c2) hw (Same.refl H) nl)⟩
  refine iteDF (by omega) ?_
  have hp : p < (Km535.ring dk).length := by omega
  refine ⟨_, rfl, a, C, dx, _, _, rfl, h1, T.cl, T.nR, wF_ring _ _ _ _, _, rfl, t, _, _, _, rfl, rfl, SqT.of h2, atI_nat (tv_at hp), ?_⟩
  refine ⟨_, rfl, a, C, dx, _, _, rfl, h1, T.cl, T.nR, wF_ring _ _ _ _, t, ni (Km535.ring dk), rfl, SqT.of h2, _, rfl, _, _, rfl, rfl, _, rfl, _, _, rfl, rfl, _, _, rfl, rfl, _, rfl, ?_⟩
  rw [ni_sum]
  have hs := Gs.sum_set (Km535.ring dk) p x hp
  by_cases c3 : 4 < ((Km535.ring dk).set p x).sum
  · exact iteDT (by omega) ⟨(by show 1 ≤ sizeLine; decide), fun l nl => k _ l (aft_stay (put_3 dk c1 c2 c3) hw (Same.refl H) nl)⟩
  refine iteDF (by omega) ?_
  refine ⟨_, rfl, a, C, dx, _, _, rfl, h1, T.cl, T.nR, wF_ring _ _ _ _, _, rfl, _, rfl, ?_⟩
  dsimp only [tNoPart]
  refine slice_any (K := K) h2 fun H1 b1 s1 t1 => ?_
  rw [cut_to (Nat.le_of_lt hp)] at t1
  refine ⟨_, rfl, (by show 1 ≤ sizeLine; decide), fun b2 n2 => ?_⟩
  have s2 := s1.trans (same_upd n2 (o := .tup [V.int (x : Int)]))
  refine cat_any (K := K) (same_upd n2 _ _ t1) upd_same ?_ fun H3 b3 s3 t3 => ?_
  · rw [tv_len, List.length_take]
    exact line_of (by show _ + 1 ≤ 1000; omega)
  have s4 := s2.trans s3
  rw [show (tv ((Km535.ring dk).take p) ++ [V.int (x : Int)]) = tv ((Km535.ring dk).take p ++ [x]) from (tv_app _ [x]).symm] at t3
  refine ⟨_, rfl, a, C, dx, _, _, rfl, s4 _ _ h1, T.cl, T.nR, wF_ring _ _ _ _, _, rfl, _, _, rfl, rfl, _, rfl, ?_⟩
  dsimp only [tNoPart]
  refine slice_any (K := K) (s4 _ _ h2) fun H5 b5 s5 t5 => ?_
  rw [show ((p : Int) + 1) = ((p + 1 : Nat) : Int) from rfl, cut_from hp] at t5
  have s6 := s4.trans s5
  refine cat_any (K := K) (s5 _ _ t3) t5 ?_ fun H7 b7 s7 t7 => ?_
  · rw [tv_len, tv_len, List.length_append, List.length_take, List.length_drop]
    exact line_of (by show _ + 1 + _ ≤ 1000; omega)
  have s8 := s6.trans s7
  rw [← tv_app, set_cut _ x hp] at t7
  refine ⟨_, rfl, a, C, dx, _, rfl, s8 _ _ h1, T.cl, T.nR, (by show 4 < 1000; decide), ?_⟩
  rw [wF_putR]
  refine ⟨_, rfl, (by show 1 ≤ sizeLine; decide), fun b nb => k _ b (aft_ring s8 h1 h3 g t7 ⟨?_, ?_, ?_⟩ (put_4 dk c1 c2 c3) rfl nb)⟩
  · rw [List.length_set]; exact lo
  · rw [List.length_set]; exact hi
  · omega
end
end Gp
namespace Gp
open PySem PySem.Spec PyProof.Rows L2
/-! ### the rule as a dict: put, drop -/
abbrev Rl := List (List Nat × Nat)
def setR (l : Rl) (v : List Nat) (m : Nat) : Rl := if l.any fun r => r.1 == v then l.map fun r => if r.1 == v then (v, m) else r else l ++ [(v, m)]
theorem setRule_is (d : Km535.Desk) (v : List Nat) (m : Nat) : Km535.setRule d v m = { d with rule := setR d.rule v m } := rfl
theorem kk_eq (a b : List Nat) : decide (kk a = kk b) = (a == b) := by
  by_cases c : a = b
  · rw [c]; simp
  · rw [decide_eq_false fun z => c (kk_inj z)]
    exact (beq_eq_false_iff_ne.mpr c).symm
theorem any_kvs (v : List Nat) : ∀ l : Rl, ((kvs l).any fun kv => decide (kv.1 = kk v)) = l.any fun r => r.1 == v
  | [] => rfl
  | q :: l => by
    show (decide (kk q.1 = kk v) || (kvs l).any fun kv => decide (kv.1 = kk v)) = _
    rw [kk_eq, any_kvs v l]
    rfl
theorem map_kvs (v : List Nat) (m : Nat) : ∀ l : Rl, (kvs l).map (fun kv => if kv.1 = kk v then (kv.1, V.int (m : Int)) else kv) = kvs (l.map fun r => if r.1 == v then (v, m) else r)
  | [] => rfl
  | q :: l => by
    show (if kk q.1 = kk v then (kk q.1, V.int (m : Int)) else (kk q.1, V.int (q.2 : Int))) :: (kvs l).map _ = _
    rw [map_kvs v m l]
    by_cases c : q.1 = v
    · rw [if_pos (by rw [c]), List.map_cons, if_pos (beq_iff_eq.mpr c), c]
      rfl
    · rw [if_neg fun z => c (kk_inj z), List.map_cons, if_neg fun z => c (beq_iff_eq.mp z)]
      rfl
theorem put_rule (l : Rl) (v : List Nat) (m : Nat) : putK (kvs l) (kk v) (V.int (m : Int)) = kvs (setR l v m) := by
  unfold putK setR
  rw [any_kvs, map_kvs]
  split
  · rfl
  · show kvs l ++ kvs [(v, m)] = _
    unfold kvs
    rw [List.map_append]
theorem drop_rule (v : List Nat) : ∀ l : Rl, dropK (kvs l) (kk v) = kvs (l.filter fun r => r.1 != v)
  | [] => rfl
  | q :: l => by
    have ih := drop_rule v l
    unfold dropK at ih ⊢
    by_cases c : q.1 = v
    · have e1 : (kvs (q :: l)).filter (fun kv => decide (kv.1 ≠ kk v)) = (kvs l).filter (fun kv => decide (kv.1 ≠ kk v)) := List.filter_cons_of_neg (by show ¬ decide (kk q.1 ≠ kk v) = true; rw [c]; simp)
      have e2 : (q :: l).filter (fun r => r.1 != v) = l.filter fun r => r.1 != v := List.filter_cons_of_neg (by simp [c])
      rw [e1, e2, ih]
    · have e1 : (kvs (q :: l)).filter (fun kv => decide (kv.1 ≠ kk v)) = (kk q.1, V.int (q.2 : Int)) :: (kvs l).filter (fun kv => decide (kv.1 ≠ kk v)) := List.filter_cons_of_pos (by show decide (kk q.1 ≠ kk v) = true; exact decide_eq_true fun z => c (kk_inj z))
      have e2 : (q :: l).filter (fun r => r.1 != v) = q :: l.filter fun r => r.1 != v := List.filter_cons_of_pos (by simp [c])
      rw [e1, e2, ih]
      rfl
theorem any_look (v : List Nat) : ∀ l : Rl, (l.any fun r => r.1 == v) = (look l v).isSome
  | [] => rfl
  | q :: l => by
    have ih := any_look v l
    unfold look at ih ⊢
    cases c : q.1 == v
    · rw [List.any_cons, c, ih, List.find?_cons_of_neg (by rw [c]; simp)]
      rfl
    · rw [List.any_cons, c, List.find?_cons_of_pos (p := fun q : List Nat × Nat => q.1 == v) c]
      rfl
theorem fst_map (v : List Nat) (m : Nat) : ∀ l : Rl, (l.map fun r => if r.1 == v then (v, m) else r).map (·.1) = l.map (·.1)
  | [] => rfl
  | q :: l => by
    rw [List.map_cons, List.map_cons, List.map_cons, fst_map v m l]
    by_cases c : q.1 = v
    · rw [if_pos (beq_iff_eq.mpr c), c]
    · rw [if_neg fun z => c (beq_iff_eq.mp z)]
theorem once_set {l : Rl} (h : (l.map (·.1)).Nodup) (v : List Nat) (m : Nat) : ((setR l v m).map (·.1)).Nodup := by
  unfold setR
  cases c : l.any fun r => r.1 == v
  · rw [if_neg (by simp), List.map_append, List.nodup_append]
    refine ⟨h, (by simp), fun a ha b hb e => ?_⟩
    obtain ⟨q, hq, rfl⟩ := List.mem_map.mp ha
    have : l.any (fun r => r.1 == v) = true := List.any_eq_true.mpr ⟨q, hq, by rw [e, List.mem_singleton.mp hb]; simp⟩
    rw [c] at this
    cases this
  · rw [if_pos rfl, fst_map]
    exact h
theorem few_set {l : Rl} {v : List Nat} {m : Nat} (h : l.length ≤ 24) (n : ¬ (24 ≤ l.length ∧ (l.any fun r => r.1 == v) = false)) : (setR l v m).length ≤ 24 := by
  unfold setR
  cases c : l.any fun r => r.1 == v
  · rw [if_neg (by simp), List.length_append]
    have : ¬ 24 ≤ l.length := fun z => n ⟨z, c⟩
    show _ + 1 ≤ _
    omega
  · rw [if_pos rfl, List.length_map]
    exact h
theorem once_drop {l : Rl} (h : (l.map (·.1)).Nodup) (v : List Nat) : ((l.filter fun r => r.1 != v).map (·.1)).Nodup :=
  h.sublist (List.filter_sublist.map _)
theorem len_drop : ∀ {l : Rl}, (l.map (·.1)).Nodup → ∀ {v : List Nat}, (l.any fun r => r.1 == v) = true → (l.filter fun r => r.1 != v).length = l.length - 1
  | [], _, v, h => by cases h
  | q :: l, hn, v, h => by
    rw [List.map_cons, List.nodup_cons] at hn
    by_cases c : q.1 = v
    · have e2 : (q :: l).filter (fun r => r.1 != v) = l.filter fun r => r.1 != v := List.filter_cons_of_neg (by simp [c])
      have e3 : l.filter (fun r => r.1 != v) = l := List.filter_eq_self.mpr fun y hy => by
        have : y.1 ≠ v := fun z => hn.1 (by rw [c, ← z]; exact List.mem_map.mpr ⟨y, hy, rfl⟩)
        simp [this]
      rw [e2, e3]
      rfl
    · have e2 : (q :: l).filter (fun r => r.1 != v) = q :: l.filter fun r => r.1 != v := List.filter_cons_of_pos (by simp [c])
      have h' : (l.any fun r => r.1 == v) = true := by
        rw [List.any_cons, beq_eq_false_iff_ne.mpr c] at h
        simpa using h
      rw [e2, List.length_cons, len_drop hn.2 h']
      have : 0 < l.length := by
        cases l with
        | nil => cases h'
        | cons _ _ => exact Nat.succ_pos _
      show _ = l.length + 1 - 1
      omega
/-! ### refusal_of_place -/
def refV (dk : Km535.Desk) (p : Nat) : V := if (Km535.ring dk).length ≤ p then .int (-2) else if (Km535.ring dk).getD p 0 = 0 then .int (-33) else .non
def spRefusal (K : PySem.W.Frag) (C : Addr) : Sp := fun vs H Q _ => ∃ (a : Addr) (dk : Km535.Desk) (p : Nat), vs = [.ref a, .int p] ∧ WAt K C H a (some dk) ∧ Q (refV dk p) H
theorem scRefusal : FnScope ["world", "place"] ["world", "place"] (defScope sRefusal) := ⟨rfl, rfl, rfl, by decide +kernel, rfl, by decide +kernel, by decide +kernel⟩
def mayDo (dk : Km535.Desk) (p m : Nat) : Bool := !decide (2 < m ∨ (m = 2 ∧ Km534.even_ dk.see p = true))
def spCanBe (K : PySem.W.Frag) (C : Addr) : Sp := fun vs H Q _ => ∃ (a : Addr) (dk : Km535.Desk) (p m : Nat), vs = [.ref a, .int p, .int m] ∧ WAt K C H a (some dk) ∧ p < (Km535.ring dk).length ∧ ∀ H', Same H H' → Q (.bl (mayDo dk p m)) H'
theorem scCanBe : FnScope ["world", "place", "done"] ["world", "place", "done"] (defScope sCanBe) := ⟨rfl, rfl, rfl, by decide +kernel, rfl, by decide +kernel, by decide +kernel⟩
section
variable {P : Program} {w : World} {K : PySem.W.Frag} {mg : Str → Option Value} {base : Heap} {C : Addr}
theorem ok_refusal {f : Addr} {fd : FuncData} (B : Bt mg) (T : Wc K mg C) (M : Nm mg) (F : Fun K "refusal_of_place" "refusal_of_place" sRefusal f fd) : FnOk P w K mg base CX0 1 f fd ["world", "place"] (spRefusal K C) := by
  refine F.ok scRefusal (fun vs H Q E h => ?_) (fun cdv A outer s H vs Q E hr h => ?_)
  · obtain ⟨a, dk, p, rfl, _⟩ := h
    rfl
  obtain ⟨a, dk, p, rfl, hw, k⟩ := h
  refine ⟨_, pss_cons (ps_if (pt_cmpR op_ge (pv 1) (pe_callB call_len_seq (by rfl) B.len PySem.boot_len (pa_cons (pe_fld (pv 0) rfl) pa_nil)) (nomark _)) (pss_one (ps_ret (pe_num M.noPlace rfl))) pss_nil)
    (pss_cons (ps_if (pt_cmpR op_eq (pe_ix (r := rIxT K) ix_tup (pe_fld (pv 0) rfl) (pv 1) (fun _ _ => rfl)) pe_int (nomark _)) (pss_one (ps_ret (pe_num M.notThere rfl))) pss_nil)
    (pss_one (ps_ret pe_non))), ?_⟩
  obtain ⟨dx, t, d, h1, h2, h3, g⟩ := id hw
  unfold refV at k
  refine ⟨_, rfl, _, rfl, a, C, dx, _, _, rfl, h1, T.cl, T.nR, wF_ring _ _ _ _, t, _, rfl, .inr (SqT.of h2), _, _, rfl, rfl, _, rfl, ?_⟩
  rw [tv_len]
  by_cases c1 : (Km535.ring dk).length ≤ p
  · rw [if_pos c1] at k
    exact iteDT (by omega) k
  rw [if_neg c1] at k
  have hp : p < (Km535.ring dk).length := by omega
  refine iteDF (by omega) ⟨_, rfl, a, C, dx, _, _, rfl, h1, T.cl, T.nR, wF_ring _ _ _ _, _, rfl, t, _, _, _, rfl, rfl, SqT.of h2, atI_nat (tv_at hp), rfl, _, rfl, ?_⟩
  rw [dec_int]
  by_cases c2 : (Km535.ring dk).getD p 0 = 0
  · rw [if_pos c2] at k
    exact iteDT (by omega) k
  · rw [if_neg c2] at k
    exact iteDF (by omega) k
theorem ok_can_be {f : Addr} {fd : FuncData} (T : Wc K mg C) (M : Nm mg) (F : Fun K "can_be_done" "can_be_done" sCanBe f fd) (dE : Def P w K mg base 3 "is_even_handed" (spEven K)) : FnOk P w K mg base CX0 4 f fd ["world", "place", "done"] (spCanBe K C) := by
  refine F.ok scCanBe (fun vs H Q E h => ?_) (fun cdv A outer s H vs Q E hr h => ?_)
  · obtain ⟨a, dk, p, m, rfl, _⟩ := h
    rfl
  obtain ⟨a, dk, p, m, rfl, hw, hp, k⟩ := h
  refine ⟨_, pss_cons (ps_if (pt_cmpR op_eq (pv 2) (pe_num M.lastDone rfl) (nomark _)) (pss_one (ps_ret (pe_not (pe_def dE hr (by decide) (by rfl) (pa_cons (pe_fld (pv 0) rfl) (pa_cons (pe_fld (pv 0) rfl) (pa_cons (pv 1) pa_nil))))))) pss_nil)
    (pss_one (ps_ret (pe_cmpR op_lt (pv 2) (pe_num M.lastDone rfl) (nomark _)))), ?_⟩
  obtain ⟨dx, t, d, h1, h2, h3, g⟩ := id hw
  refine ⟨_, rfl, rfl, _, rfl, ?_⟩
  rw [dec_int]
  have lo := g.ok.hi
  unfold mayDo at k
  by_cases c : m = 2
  · refine iteDT (by omega) ⟨_, rfl, a, C, dx, _, _, rfl, h1, T.cl, T.nR, wF_ring _ _ _ _, _, rfl, a, C, dx, _, _, rfl, h1, T.cl, T.nE, wF_eyes _ _ _ _, _, rfl, t, _, _, p, rfl, h2, g.ey, hp, by omega, fun H1 s1 => ?_⟩
    refine ⟨_, rfl, ?_⟩
    have q := k H1 s1
    have e : (!decide (2 < m ∨ (m = 2 ∧ Km534.even_ dk.see p = true))) = !Km534.even_ ⟨Km535.ring dk, dk.see.eyes⟩ p := by
      rw [show dk.see = ⟨Km535.ring dk, dk.see.eyes⟩ from rfl]
      cases Km534.even_ ⟨Km535.ring dk, dk.see.eyes⟩ p
      · rw [decide_eq_false (by rintro (z | z); omega; cases z.2)]
      · rw [decide_eq_true (.inr ⟨c, rfl⟩)]
    rw [e] at q
    exact q
  · refine iteDF (by omega) ⟨_, rfl, _, _, rfl, rfl, ?_⟩
    have q := k H (Same.refl H)
    have e : (!decide (2 < m ∨ (m = 2 ∧ Km534.even_ dk.see p = true))) = decide ((m : Int) < 2) := by
      by_cases c2 : 2 < m
      · rw [decide_eq_true (.inl c2), decide_eq_false (by omega)]
        rfl
      · rw [decide_eq_false (by rintro (z | z); exact c2 z; exact c z.1), decide_eq_true (by omega)]
        rfl
    rw [e] at q
    exact q
/-! ### refusal_of_done -/
def refD (dk : Km535.Desk) (p m : Nat) : V := if (Km535.ring dk).length ≤ p then .int (-2) else if (Km535.ring dk).getD p 0 = 0 then .int (-33) else if 2 < m ∨ (m = 2 ∧ Km534.even_ dk.see p = true) then .int (-22) else .non
def spRefDone (K : PySem.W.Frag) (C : Addr) : Sp := fun vs H Q _ => ∃ (a : Addr) (dk : Km535.Desk) (p m : Nat), vs = [.ref a, .int p, .int m] ∧ WAt K C H a (some dk) ∧ ∀ H', Same H H' → Q (refD dk p m) H'
theorem scRefDone : FnScope ["world", "place", "done", "refusal"] ["world", "place", "done"] (defScope sRefDone) := ⟨rfl, rfl, rfl, by decide +kernel, rfl, by decide +kernel, by decide +kernel⟩
theorem refV_cases (dk : Km535.Desk) (p : Nat) : ((Km535.ring dk).length ≤ p ∧ refV dk p = .int (-2)) ∨ (¬ (Km535.ring dk).length ≤ p ∧ (Km535.ring dk).getD p 0 = 0 ∧ refV dk p = .int (-33)) ∨ (¬ (Km535.ring dk).length ≤ p ∧ ¬ (Km535.ring dk).getD p 0 = 0 ∧ refV dk p = .non) := by
  unfold refV
  by_cases c1 : (Km535.ring dk).length ≤ p
  · exact .inl ⟨c1, if_pos c1⟩
  by_cases c2 : (Km535.ring dk).getD p 0 = 0
  · exact .inr (.inl ⟨c1, c2, (if_neg c1).trans (if_pos c2)⟩)
  · exact .inr (.inr ⟨c1, c2, (if_neg c1).trans (if_neg c2)⟩)
theorem refD_cases (dk : Km535.Desk) (p m : Nat) : ((Km535.ring dk).length ≤ p ∧ refD dk p m = .int (-2)) ∨ (¬ (Km535.ring dk).length ≤ p ∧ (Km535.ring dk).getD p 0 = 0 ∧ refD dk p m = .int (-33)) ∨ (¬ (Km535.ring dk).length ≤ p ∧ ¬ (Km535.ring dk).getD p 0 = 0 ∧ (2 < m ∨ (m = 2 ∧ Km534.even_ dk.see p = true)) ∧ refD dk p m = .int (-22)) ∨
    (¬ (Km535.ring dk).length ≤ p ∧ ¬ (Km535.ring dk).getD p 0 = 0 ∧ ¬ (2 < m ∨ (m = 2 ∧ Km534.even_ dk.see p = true)) ∧ refD dk p m = .non) := by
  unfold refD
  by_cases c1 : (Km535.ring dk).length ≤ p
  · exact .inl ⟨c1, if_pos c1⟩
  by_cases c2 : (Km535.ring dk).getD p 0 = 0
  · exact .inr (.inl ⟨c1, c2, (if_neg c1).trans (if_pos c2)⟩)
  by_cases c3 : 2 < m ∨ (m = 2 ∧ Km534.even_ dk.see p = true)
  · exact .inr (.inr (.inl ⟨c1, c2, c3, (if_neg c1).trans ((if_neg c2).trans (if_pos c3))⟩))
  · exact .inr (.inr (.inr ⟨c1, c2, c3, (if_neg c1).trans ((if_neg c2).trans (if_neg c3))⟩))
theorem ok_ref_done {f : Addr} {fd : FuncData} (M : Nm mg) (F : Fun K "refusal_of_done" "refusal_of_done" sRefDone f fd) (dR : Def P w K mg base 1 "refusal_of_place" (spRefusal K C)) (dC : Def P w K mg base 4 "can_be_done" (spCanBe K C)) : FnOk P w K mg base CX0 5 f fd ["world", "place", "done"] (spRefDone K C) := by
  refine F.ok scRefDone (fun vs H Q E h => ?_) (fun cdv A outer s H vs Q E hr h => ?_)
  · obtain ⟨a, dk, p, m, rfl, _⟩ := h
    rfl
  obtain ⟨a, dk, p, m, rfl, hw, k⟩ := h
  refine ⟨_, pss_cons (ps_set (i := 3) scRefDone.nd rfl (Or.inl rfl) (pe_def dR hr (by decide) (by rfl) (pa_cons (pv 0) (pa_cons (pv 1) pa_nil))))
    (pss_cons (ps_if (pt_cmpR op_notN (pv 3) pe_non (nomark _)) (pss_one (ps_ret (pv 3))) pss_nil)
    (pss_one (ps_ret (pe_ifExp (pt_val (pe_def dC hr (by decide) (by rfl) (pa_cons (pv 0) (pa_cons (pv 1) (pa_cons (pv 2) pa_nil))))) pe_non (pe_num M.notAllowed rfl))))), ?_⟩
  refine ⟨_, rfl, _, rfl, a, dk, p, rfl, hw, ?_⟩
  unfold refD at k
  rcases refV_cases dk p with ⟨c1, e⟩ | ⟨c1, c2, e⟩ | ⟨c1, c2, e⟩
  · rw [e]
    rw [if_pos c1] at k
    exact ⟨_, rfl, rfl, _, rfl, _, rfl, k H (Same.refl H)⟩
  · rw [e]
    rw [if_neg c1, if_pos c2] at k
    exact ⟨_, rfl, rfl, _, rfl, _, rfl, k H (Same.refl H)⟩
  rw [e]
  rw [if_neg c1, if_neg c2] at k
  have hp : p < (Km535.ring dk).length := by omega
  refine ⟨_, rfl, rfl, _, rfl, _, rfl, _, rfl, _, rfl, a, dk, p, m, rfl, hw, hp, fun H1 s1 => ⟨_, rfl, ?_⟩⟩
  have em : mayDo dk p m = !decide (2 < m ∨ (m = 2 ∧ Km534.even_ dk.see p = true)) := rfl
  rw [em]
  have q := k H1 s1
  by_cases c3 : 2 < m ∨ (m = 2 ∧ Km534.even_ dk.see p = true)
  · rw [if_pos c3] at q
    rw [decide_eq_true c3]
    exact q
  · rw [if_neg c3] at q
    rw [decide_eq_false c3]
    exact q
end
end Gp
namespace Gp
open PySem PySem.Spec PyProof.Rows L2
theorem viewAt_is (dk : Km535.Desk) (p : Nat) : Km535.viewAt dk p = Gs.vw dk.see.eyes (Km535.ring dk) p := Gs.view_eq _ _ _
/-! ### tell -/
theorem tell_1 (dk : Km535.Desk) {p m : Nat} (h : (Km535.ring dk).length ≤ p) : Km536.step (some dk) (.tell p m) = (some dk, ⟨-2, []⟩) :=
  onRule_of dk (st := some dk) (a := Km535.say (-2)) (if_pos h)
theorem tell_2 (dk : Km535.Desk) {p m : Nat} (h : ¬ (Km535.ring dk).length ≤ p) (h2 : (Km535.ring dk).getD p 0 = 0) : Km536.step (some dk) (.tell p m) = (some dk, ⟨-33, []⟩) :=
  onRule_of dk (st := some dk) (a := Km535.say (-33)) ((if_neg h).trans (if_pos h2))
theorem tell_3 (dk : Km535.Desk) {p m : Nat} (h : ¬ (Km535.ring dk).length ≤ p) (h2 : ¬ (Km535.ring dk).getD p 0 = 0) (h3 : 2 < m ∨ (m = 2 ∧ Km534.even_ dk.see p = true)) : Km536.step (some dk) (.tell p m) = (some dk, ⟨-22, []⟩) :=
  onRule_of dk (st := some dk) (a := Km535.say (-22)) ((if_neg h).trans ((if_neg h2).trans (if_pos h3)))
theorem tell_4 (dk : Km535.Desk) {p m : Nat} (h : ¬ (Km535.ring dk).length ≤ p) (h2 : ¬ (Km535.ring dk).getD p 0 = 0) (h3 : ¬ (2 < m ∨ (m = 2 ∧ Km534.even_ dk.see p = true))) (h4 : 24 ≤ dk.rule.length ∧ (dk.rule.any fun r => r.1 == Km535.viewAt dk p) = false) : Km536.step (some dk) (.tell p m) = (some dk, ⟨-28, []⟩) :=
  onRule_of dk (st := some dk) (a := Km535.say (-28)) ((if_neg h).trans ((if_neg h2).trans ((if_neg h3).trans (if_pos h4))))
theorem tell_5 (dk : Km535.Desk) {p m : Nat} (h : ¬ (Km535.ring dk).length ≤ p) (h2 : ¬ (Km535.ring dk).getD p 0 = 0) (h3 : ¬ (2 < m ∨ (m = 2 ∧ Km534.even_ dk.see p = true))) (h4 : ¬ (24 ≤ dk.rule.length ∧ (dk.rule.any fun r => r.1 == Km535.viewAt dk p) = false)) :
    Km536.step (some dk) (.tell p m) = (some (Km535.setRule dk (Km535.viewAt dk p) m), ⟨(Km535.told dk (Km535.viewAt dk p) : Nat), []⟩) :=
  onRule_of dk (st := some (Km535.setRule dk (Km535.viewAt dk p) m)) (a := Km535.say (Km535.told dk (Km535.viewAt dk p) : Nat)) ((if_neg h).trans ((if_neg h2).trans ((if_neg h3).trans (if_neg h4))))
theorem unt_1 (dk : Km535.Desk) {p : Nat} (h : (Km535.ring dk).length ≤ p) : Km536.step (some dk) (.untell p) = (some dk, ⟨-2, []⟩) :=
  onRule_of dk (st := some dk) (a := Km535.say (-2)) (if_pos h)
theorem unt_2 (dk : Km535.Desk) {p : Nat} (h : ¬ (Km535.ring dk).length ≤ p) (h2 : (Km535.ring dk).getD p 0 = 0) : Km536.step (some dk) (.untell p) = (some dk, ⟨-33, []⟩) :=
  onRule_of dk (st := some dk) (a := Km535.say (-33)) ((if_neg h).trans (if_pos h2))
theorem unt_3 (dk : Km535.Desk) {p : Nat} (h : ¬ (Km535.ring dk).length ≤ p) (h2 : ¬ (Km535.ring dk).getD p 0 = 0) (h3 : (dk.rule.any fun r => r.1 == Km535.viewAt dk p) = false) : Km536.step (some dk) (.untell p) = (some dk, ⟨-6, []⟩) :=
  onRule_of dk (st := some dk) (a := Km535.say (-6)) ((if_neg h).trans ((if_neg h2).trans (if_pos h3)))
theorem unt_4 (dk : Km535.Desk) {p : Nat} (h : ¬ (Km535.ring dk).length ≤ p) (h2 : ¬ (Km535.ring dk).getD p 0 = 0) (h3 : ¬ (dk.rule.any fun r => r.1 == Km535.viewAt dk p) = false) :
    Km536.step (some dk) (.untell p) = (some { dk with rule := dk.rule.filter fun r => r.1 != Km535.viewAt dk p }, ⟨(dk.rule.length - 1 : Nat), []⟩) :=
  onRule_of dk (st := some { dk with rule := dk.rule.filter fun r => r.1 != Km535.viewAt dk p }) (a := Km535.say (dk.rule.length - 1 : Nat)) ((if_neg h).trans ((if_neg h2).trans (if_neg h3)))
abbrev nTell : List Str := ["world", "place", "done", "refusal", "view", "was"]
theorem scTell : FnScope nTell ["world", "place", "done"] (defScope sTell) := ⟨rfl, rfl, rfl, by decide +kernel, rfl, by decide +kernel, by decide +kernel⟩
abbrev nUntell : List Str := ["world", "place", "refusal", "view"]
theorem scUntell : FnScope nUntell ["world", "place"] (defScope sUntell) := ⟨rfl, rfl, rfl, by decide +kernel, rfl, by decide +kernel, by decide +kernel⟩
section
variable {P : Program} {w : World} {K : PySem.W.Frag} {mg : Str → Option Value} {base : Heap} {C : Addr}
/-- the rule is another one now, in the same dict -/
theorem aft_rule {H H2 : Hp} {a dx t d b : Addr} {dk dk' : Km535.Desk} {c : Km536.Call} {l : Rl} {v : Int} (s2 : Same H H2) (hw : H a = some (.ins C dx (wF t dk.see.eyes d dk.at_))) (ht : Tp K H t (Km535.ring dk)) (hd : RuleAt H d dk.rule) (g : Good dk')
    (e' : dk' = { dk with rule := l }) (eb : Km536.step (some dk) c = (some dk', ⟨v, []⟩)) (nb : upd H2 d (.dT (kvs l)) b = none) : Aft K C H a (some dk) c (upd (upd H2 d (.dT (kvs l))) b (.lst [V.int v])) b := by
  have sb := same_upd nb (o := .lst [V.int v])
  have ad : a ≠ d := fun z => by
    have q : H d = some _ := hd
    rw [← z, hw] at q
    cases q
  have td : t ≠ d := fun z => by
    have q : H d = some _ := hd
    have q2 : H t = some _ := ht
    rw [← z, q2] at q
    cases q
  refine ⟨?_, ((Fr.of s2).trans (Fr.put (s2 d _ hd) _)).trans (Fr.of sb), ?_, ?_⟩
  · rw [eb, e']
    refine ⟨dx, t, d, sb _ _ ((upd_ne ad).trans (s2 _ _ hw)), sb _ _ ((upd_ne td).trans (s2 _ _ ht)), sb _ _ upd_same, ?_⟩
    rw [← e']
    exact g
  · have db : b ≠ d := fun z => by rw [z, upd_same] at nb; cases nb
    rw [upd_ne db] at nb
    exact s2.free nb
  · rw [upd_same, ansOf, eb]
    rfl
theorem ok_tell {f : Addr} {fd : FuncData} (B : Bt mg) (T : Wc K mg C) (M : Nm mg) (F : Fun K "tell_view" "tell_view" sTell f fd) (dR : Def P w K mg base 5 "refusal_of_done" (spRefDone K C)) (dV : Def P w K mg base 2 "view_of" (spView K)) : FnOk P w K mg base CX0 6 f fd ["world", "place", "done"] (sp2 K C .tell) := by
  refine F.ok scTell (fun vs H Q E h => ?_) (fun cdv A outer s H vs Q E hr h => ?_)
  · obtain ⟨a, dk, p, m, rfl, _⟩ := h
    rfl
  obtain ⟨a, dk, p, m, rfl, hw, k⟩ := h
  refine ⟨_, pss_cons (ps_set (i := 3) scTell.nd rfl (Or.inl rfl) (pe_def dR hr (by decide) (by rfl) (pa_cons (pv 0) (pa_cons (pv 1) (pa_cons (pv 2) pa_nil)))))
    (pss_cons (ps_if (pt_cmpR op_notN (pv 3) pe_non (nomark _)) (pss_one (ps_ret (pe_lst (pa_cons (pv 3) pa_nil)))) pss_nil)
    (pss_cons (ps_set (i := 4) scTell.nd rfl (Or.inl rfl) (pe_def dV hr (by decide) (by rfl) (pa_cons (pe_fld (pv 0) rfl) (pa_cons (pe_fld (pv 0) rfl) (pa_cons (pv 1) pa_nil)))))
    (pss_cons (ps_if (PW.pt (pw_and (pt_cmp (pc_dnotin (hu_of hr) (pv 4) (pe_fld (pv 0) rfl))) (pw_and1 (pt_cmpR op_ge (pe_callB call_len_dT (by rfl) B.len PySem.boot_len (pa_cons (pe_fld (pv 0) rfl) pa_nil)) (pe_num M.views rfl) (nomark _))))) (pss_one (ps_ret (pe_lst (pa_cons (pe_num M.tooMany rfl) pa_nil)))) pss_nil)
    (pss_cons (ps_set (i := 5) scTell.nd rfl (Or.inl rfl) (pe_dget2 (hu_of hr) (pe_fld (pv 0) rfl) (pv 4) pe_int ⟨rfl, rfl, rfl, rfl⟩))
    (pss_cons (ps_dput (hu_of hr) (pe_fld (pv 0) rfl) (pv 4) (pv 2) rfl)
    (pss_one (ps_ret (pe_lst (pa_cons (pv 5) pa_nil))))))))), ?_⟩
  obtain ⟨dx, t, d, h1, h2, h3, g⟩ := id hw
  have hi := g.ok.hi
  refine ⟨_, rfl, _, rfl, _, rfl, a, dk, p, m, rfl, hw, fun H1 s1 => ?_⟩
  rcases refD_cases dk p m with ⟨c1, e⟩ | ⟨c1, c2, e⟩ | ⟨c1, c2, c3, e⟩ | ⟨c1, c2, c3, e⟩
  · rw [e]
    exact ⟨_, rfl, rfl, _, rfl, _, rfl, (by show 1 ≤ sizeLine; decide), fun l nl => k _ l (aft_stay (tell_1 dk c1) hw s1 nl)⟩
  · rw [e]
    exact ⟨_, rfl, rfl, _, rfl, _, rfl, (by show 1 ≤ sizeLine; decide), fun l nl => k _ l (aft_stay (tell_2 dk c1 c2) hw s1 nl)⟩
  · rw [e]
    exact ⟨_, rfl, rfl, _, rfl, _, rfl, (by show 1 ≤ sizeLine; decide), fun l nl => k _ l (aft_stay (tell_3 dk c1 c2 c3) hw s1 nl)⟩
  rw [e]
  refine ⟨_, rfl, rfl, _, rfl, ?_⟩
  have hp : p < (Km535.ring dk).length := by omega
  refine ⟨_, rfl, a, C, dx, _, _, rfl, s1 _ _ h1, T.cl, T.nR, wF_ring _ _ _ _, _, rfl, a, C, dx, _, _, rfl, s1 _ _ h1, T.cl, T.nE, wF_eyes _ _ _ _, _, rfl, t, _, _, p, rfl, s1 _ _ h2, g.ey, hp, by omega, fun H2 b2 s2 t2 => ?_⟩
  have s3 := s1.trans s2
  have ev := viewAt_is dk p
  rw [← ev] at t2
  generalize hv : Km535.viewAt dk p = v at t2
  refine ⟨_, rfl, _, rfl, a, C, dx, _, _, rfl, s3 _ _ h1, T.cl, T.nU, wF_rule _ _ _ _, ?_⟩
  refine ⟨d, _, rfl, get_rule (K := K) (s3 _ _ h3) t2, _, rfl, ?_⟩
  dsimp only
  have anyl := any_look v dk.rule
  by_cases c4 : 24 ≤ dk.rule.length ∧ (dk.rule.any fun r => r.1 == Km535.viewAt dk p) = false
  · have c5 := c4.2
    rw [hv, anyl] at c5
    rw [Option.isSome_map, c5]
    refine ⟨_, rfl, a, C, dx, _, _, rfl, s3 _ _ h1, T.cl, T.nU, wF_rule _ _ _ _, d, _, rfl, s3 _ _ h3, _, _, rfl, rfl, _, rfl, ?_⟩
    rw [kvs_len]
    exact iteDT (by have := c4.1; omega) ⟨(by show 1 ≤ sizeLine; decide), fun l nl => k _ l (aft_stay (tell_4 dk c1 c2 c3 c4) hw s3 nl)⟩
  have tl : ∃ x : Bool, (look dk.rule v).isSome = x := ⟨_, rfl⟩
  obtain ⟨x, ex⟩ := tl
  rw [Option.isSome_map, ex]
  cases x
  refine ⟨_, rfl, a, C, dx, _, _, rfl, s3 _ _ h1, T.cl, T.nU, wF_rule _ _ _ _, d, _, rfl, s3 _ _ h3, _, _, rfl, rfl, _, rfl, ?_⟩
  rw [kvs_len]
  refine iteDF (by rw [hv, anyl, ex] at c4; intro z; exact c4 ⟨by omega, rfl⟩) ?_
  all_goals
    refine ⟨_, rfl, a, C, dx, _, _, rfl, s3 _ _ h1, T.cl, T.nU, wF_rule _ _ _ _, d, rfl, .inr ⟨_, .inl (s3 _ _ h3)⟩, _, rfl, _, get_rule (K := K) (s3 _ _ h3) t2, ?_⟩
    have eg : ((look dk.rule v).map fun (m : Nat) => V.int (m : Int)).getD (V.int 0) = V.int (((look dk.rule v).getD 0 : Nat) : Int) := by
      cases look dk.rule v <;> rfl
    rw [eg]
    refine ⟨_, rfl, _, rfl, a, C, dx, _, _, rfl, s3 _ _ h1, T.cl, T.nU, wF_rule _ _ _ _, _, rfl, d, _, rfl, .inr ⟨kvs dk.rule, kk v, b2, s3 _ _ h3, rfl, by rw [kk_tv]; exact t2, by rw [kvs_len, sizeLine_eq]; have := g.few; omega, rfl⟩, ?_⟩
    rw [put_rule]
    refine ⟨_, rfl, (by show 1 ≤ sizeLine; decide), fun b nb => k _ b ?_⟩
    have t5 := tell_5 dk c1 c2 c3 c4
    rw [told_look, hv] at t5
    exact aft_rule (dk' := { dk with rule := setR dk.rule v m }) s3 h1 h2 h3 ⟨g.ok, g.ey, g.at2, few_set g.few (by rw [hv] at c4; exact c4), once_set g.once v m⟩ rfl t5 nb
end
end Gp
namespace Gp
open PySem PySem.Spec PyProof.Rows L2
section
variable {P : Program} {w : World} {K : PySem.W.Frag} {mg : Str → Option Value} {base : Heap} {C : Addr}
theorem ok_untell {f : Addr} {fd : FuncData} (B : Bt mg) (T : Wc K mg C) (M : Nm mg) (F : Fun K "untell_view" "untell_view" sUntell f fd) (dR : Def P w K mg base 1 "refusal_of_place" (spRefusal K C)) (dV : Def P w K mg base 2 "view_of" (spView K)) : FnOk P w K mg base CX0 3 f fd ["world", "place"] (sp1 K C .untell) := by
  refine F.ok scUntell (fun vs H Q E h => ?_) (fun cdv A outer s H vs Q E hr h => ?_)
  · obtain ⟨a, dk, p, rfl, _⟩ := h
    rfl
  obtain ⟨a, dk, p, rfl, hw, k⟩ := h
  refine ⟨_, pss_cons (ps_set (i := 2) scUntell.nd rfl (Or.inl rfl) (pe_def dR hr (by decide) (by rfl) (pa_cons (pv 0) (pa_cons (pv 1) pa_nil))))
    (pss_cons (ps_if (pt_cmpR op_notN (pv 2) pe_non (nomark _)) (pss_one (ps_ret (pe_lst (pa_cons (pv 2) pa_nil)))) pss_nil)
    (pss_cons (ps_set (i := 3) scUntell.nd rfl (Or.inl rfl) (pe_def dV hr (by decide) (by rfl) (pa_cons (pe_fld (pv 0) rfl) (pa_cons (pe_fld (pv 0) rfl) (pa_cons (pv 1) pa_nil)))))
    (pss_cons (ps_if (pt_cmp (pc_dnotin (hu_of hr) (pv 3) (pe_fld (pv 0) rfl))) (pss_one (ps_ret (pe_lst (pa_cons (pe_num M.nothing rfl) pa_nil)))) pss_nil)
    (pss_cons (ps_expr (pe_bm PySem.F.plainAttrs_dict PySem.F.slot_dict_pop PySem.F.type_dict_pop (GsR.mt_pop (hu_of hr)) (pe_fld (pv 0) rfl) (pa_cons (pv 3) pa_nil)))
    (pss_one (ps_ret (pe_lst (pa_cons (pe_callB call_len_dT (by rfl) B.len PySem.boot_len (pa_cons (pe_fld (pv 0) rfl) pa_nil)) pa_nil)))))))), ?_⟩
  obtain ⟨dx, t, d, h1, h2, h3, g⟩ := id hw
  have hi := g.ok.hi
  refine ⟨_, rfl, _, rfl, a, dk, p, rfl, hw, ?_⟩
  rcases refV_cases dk p with ⟨c1, e⟩ | ⟨c1, c2, e⟩ | ⟨c1, c2, e⟩
  · rw [e]
    exact ⟨_, rfl, rfl, _, rfl, _, rfl, (by show 1 ≤ sizeLine; decide), fun l nl => k _ l (aft_stay (unt_1 dk c1) hw (Same.refl H) nl)⟩
  · rw [e]
    exact ⟨_, rfl, rfl, _, rfl, _, rfl, (by show 1 ≤ sizeLine; decide), fun l nl => k _ l (aft_stay (unt_2 dk c1 c2) hw (Same.refl H) nl)⟩
  rw [e]
  refine ⟨_, rfl, rfl, _, rfl, ?_⟩
  have hp : p < (Km535.ring dk).length := by omega
  refine ⟨_, rfl, a, C, dx, _, _, rfl, h1, T.cl, T.nR, wF_ring _ _ _ _, _, rfl, a, C, dx, _, _, rfl, h1, T.cl, T.nE, wF_eyes _ _ _ _, _, rfl, t, _, _, p, rfl, h2, g.ey, hp, by omega, fun H2 b2 s2 t2 => ?_⟩
  rw [← viewAt_is dk p] at t2
  generalize hv : Km535.viewAt dk p = v at t2
  refine ⟨_, rfl, _, rfl, a, C, dx, _, _, rfl, s2 _ _ h1, T.cl, T.nU, wF_rule _ _ _ _, d, _, rfl, get_rule (K := K) (s2 _ _ h3) t2, _, rfl, ?_⟩
  have anyl := any_look v dk.rule
  dsimp only
  rw [Option.isSome_map]
  cases el : look dk.rule v with
  | none =>
    have c3 : (dk.rule.any fun r => r.1 == Km535.viewAt dk p) = false := by rw [hv, anyl, el]; rfl
    exact ⟨(by show 1 ≤ sizeLine; decide), fun l nl => k _ l (aft_stay (unt_3 dk c1 c2 c3) hw s2 nl)⟩
  | some m =>
    have c3 : (dk.rule.any fun r => r.1 == v) = true := by rw [anyl, el]; rfl
    have u4 := unt_4 dk c1 c2 (by rw [hv, c3]; simp)
    rw [hv] at u4
    refine ⟨_, rfl, a, C, dx, _, _, rfl, s2 _ _ h1, T.cl, T.nU, wF_rule _ _ _ _, .inr (.inr (.inl ⟨rfl, .inr ⟨_, s2 _ _ h3⟩⟩)), _, rfl, d, kvs dk.rule, kk v, b2, V.int (m : Int), rfl, rfl, s2 _ _ h3, by rw [kk_tv]; exact t2, by rw [val_kvs, el]; rfl, ?_⟩
    rw [drop_rule]
    have ad : a ≠ d := fun z => by
      have q : H d = some _ := h3
      rw [← z, h1] at q
      cases q
    refine ⟨_, rfl, a, C, dx, _, _, rfl, (upd_ne ad).trans (s2 _ _ h1), T.cl, T.nU, wF_rule _ _ _ _, d, _, rfl, upd_same, (by show 1 ≤ sizeLine; decide), fun b nb => k _ b ?_⟩
    have ln := len_drop g.once c3
    rw [kvs_len, ln]
    exact aft_rule (dk' := { dk with rule := dk.rule.filter fun r => r.1 != v }) s2 h1 h2 h3 ⟨g.ok, g.ey, g.at2, Nat.le_trans (List.length_filter_le _ _) g.few, once_drop g.once v⟩ rfl u4 nb
/-! ### jump -/
theorem jump_no (dk : Km535.Desk) {i : Nat} (h : (Km534.names (Km535.ring dk).length (Km535.ring dk).sum)[i]? = none) : Km536.step (some dk) (.jump i) = (some dk, ⟨-33, []⟩) := by
  refine onRule_of dk (st := some dk) (a := Km535.say (-33)) ?_
  have e : Km535.nameOf dk i = none := by unfold Km535.nameOf; rw [Gs.ksum]; exact h
  show (match Km535.nameOf dk i with | none => (some dk, Km535.say (-33)) | some r => (some (Km535.setRing dk r), Km535.say (Km535.rank (Km535.ring dk) : Nat))) = _
  rw [e]
theorem jump_yes (dk : Km535.Desk) {i : Nat} {r : List Nat} (h : (Km534.names (Km535.ring dk).length (Km535.ring dk).sum)[i]? = some r) : Km536.step (some dk) (.jump i) = (some (Km535.setRing dk r), ⟨(Km535.rank (Km535.ring dk) : Nat), []⟩) := by
  refine onRule_of dk (st := some (Km535.setRing dk r)) (a := Km535.say (Km535.rank (Km535.ring dk) : Nat)) ?_
  have e : Km535.nameOf dk i = some r := by unfold Km535.nameOf; rw [Gs.ksum]; exact h
  show (match Km535.nameOf dk i with | none => (some dk, Km535.say (-33)) | some r => (some (Km535.setRing dk r), Km535.say (Km535.rank (Km535.ring dk) : Nat))) = _
  rw [e]
abbrev nJump : List Str := ["world", "number", "names", "was"]
theorem scJump : FnScope nJump ["world", "number"] (defScope sJump) := ⟨rfl, rfl, rfl, by decide +kernel, rfl, by decide +kernel, by decide +kernel⟩
theorem ok_jump {f : Addr} {fd : FuncData} (B : Bt mg) (T : Wc K mg C) (M : Nm mg) (F : Fun K "jump_to_name" "jump_to_name" sJump f fd) (dN : Def P w K mg base 3 "names_like" (spNamesLike K)) (dK : Def P w K mg base 2 "name_of" (spNameOf K)) : FnOk P w K mg base CX0 4 f fd ["world", "number"] (sp1 K C .jump) := by
  refine F.ok scJump (fun vs H Q E h => ?_) (fun cdv A outer s H vs Q E hr h => ?_)
  · obtain ⟨a, dk, p, rfl, _⟩ := h
    rfl
  obtain ⟨a, dk, i, rfl, hw, k⟩ := h
  refine ⟨_, pss_cons (ps_set (i := 2) scJump.nd rfl (Or.inl rfl) (pe_def dN hr (by decide) (by rfl) (pa_cons (pe_fld (pv 0) rfl) pa_nil)))
    (pss_cons (ps_if (pt_cmpR op_ge (pv 1) (pe_callB call_len_seq (by rfl) B.len PySem.boot_len (pa_cons (pv 2) pa_nil)) (nomark _)) (pss_one (ps_ret (pe_lst (pa_cons (pe_num M.notThere rfl) pa_nil)))) pss_nil)
    (pss_cons (ps_set (i := 3) scJump.nd rfl (Or.inl rfl) (pe_bm PySem.F.plainAttrs_list PySem.F.slot_list_index PySem.F.type_list_index (mt_indexD (hu65 hr)) (pv 2) (pa_cons (pe_def dK hr (by decide) (by rfl) (pa_cons (pe_fld (pv 0) rfl) pa_nil)) pa_nil)))
    (pss_cons (ps_fld (pv 0) (pe_ix (r := rIxL K) ix_list (pv 2) (pv 1) (fun _ _ => rfl)) rfl)
    (pss_one (ps_ret (pe_lst (pa_cons (pv 3) pa_nil))))))), ?_⟩
  obtain ⟨dx, t, d, h1, h2, h3, g⟩ := id hw
  refine ⟨_, rfl, a, C, dx, _, _, rfl, h1, T.cl, T.nR, wF_ring _ _ _ _, t, _, rfl, h2, g.ok, fun H1 p1 N s1 l1 r1 e1 => ?_⟩
  refine ⟨_, rfl, _, rfl, p1, _, rfl, .inl (SqL.of l1), _, _, rfl, rfl, _, rfl, ?_⟩
  rw [show (refs N).length = N.length from List.length_map _]
  have eN : ∀ j : Nat, (Km534.names (Km535.ring dk).length (Km535.ring dk).sum)[j]? = (N[j]?).map (·.2) := fun j => by rw [← e1, List.getElem?_map]
  by_cases c : N.length ≤ i
  · exact iteDT (by omega) ⟨(by show 1 ≤ sizeLine; decide), fun l nl => k _ l (aft_stay (jump_no dk (by rw [eN, List.getElem?_eq_none c]; rfl)) hw s1 nl)⟩
  refine iteDF (by omega) ?_
  have ci : i < N.length := by omega
  obtain ⟨q, hq⟩ : ∃ q, N[i]? = some q := ⟨_, List.getElem?_eq_getElem ci⟩
  have lo := g.ok.lo
  have hi := g.ok.hi
  refine ⟨_, rfl, .inl ⟨rfl, _, SqL.of l1⟩, _, rfl, a, C, dx, _, _, rfl, s1 _ _ h1, T.cl, T.nR, wF_ring _ _ _ _, t, _, rfl, s1 _ _ h2, by omega, by omega, fun H2 b2 s2 t2 => ?_⟩
  dsimp only [tNil]
  refine index_rows (K := K) (s2 p1 _ l1) (r1.same s2) t2 (by rw [e1]; exact Gs.Ok.name_in g.ok) ?_
  rw [e1, ← Gs.rank_place]
  have s3 := s1.trans s2
  have eq : (Km534.names (Km535.ring dk).length (Km535.ring dk).sum)[i]? = some q.2 := by rw [eN, hq]; rfl
  refine ⟨_, rfl, _, rfl, p1, _, _, V.ref q.1, rfl, rfl, SqL.of (s2 _ _ l1), atI_nat (by rw [List.getElem?_map, hq]; rfl), ?_⟩
  refine ⟨_, rfl, a, C, dx, _, rfl, s3 _ _ h1, T.cl, T.nR, (by show 4 < 1000; decide), ?_⟩
  rw [wF_putR]
  refine ⟨_, rfl, (by show 1 ≤ sizeLine; decide), fun b nb => k _ b (aft_ring s3 h1 h3 g (s2 _ _ (r1 q (List.mem_of_getElem? hq))) (Gs.ok_of_names g.ok (List.mem_of_getElem? eq)).1 (jump_yes dk eq) rfl nb)⟩
end
end Gp
namespace Gp
open PySem PySem.Spec PyProof.Rows L2
/-- a call without numbers -/
def sp0 (K : PySem.W.Frag) (C : Addr) (c : Km536.Call) : Sp := fun vs H Q _ => ∃ (a : Addr) (dk : Km535.Desk), vs = [.ref a] ∧ WAt K C H a (some dk) ∧ ∀ H' b, Aft K C H a (some dk) c H' b → Q (.ref b) H'
def spLongestOf (K : PySem.W.Frag) (C : Addr) : Sp := fun vs H Q _ => ∃ (a : Addr) (dk : Km535.Desk), vs = [.ref a] ∧ WAt K C H a (some dk) ∧ ∀ H', Same H H' → Q (opt (Km536.longest dk dk.at_ (Km535.ring dk))) H'
def spFolOf (K : PySem.W.Frag) (C : Addr) : Sp := fun vs H Q _ => ∃ (a : Addr) (dk : Km535.Desk), vs = [.ref a] ∧ WAt K C H a (some dk) ∧ ∀ H' c, Same H H' → FolS K H' c dk dk.at_ → Q (.ref c) H'
theorem scFolOf : FnScope ["world"] ["world"] (defScope sFolOf) := ⟨rfl, rfl, rfl, by decide +kernel, rfl, by decide +kernel, by decide +kernel⟩
theorem scLongestOf : FnScope ["world"] ["world"] (defScope sLongestOf) := ⟨rfl, rfl, rfl, by decide +kernel, rfl, by decide +kernel, by decide +kernel⟩
theorem scAskRing : FnScope ["world"] ["world"] (defScope sAskRing) := ⟨rfl, rfl, rfl, by decide +kernel, rfl, by decide +kernel, by decide +kernel⟩
theorem scAskRank : FnScope ["world"] ["world"] (defScope sAskRank) := ⟨rfl, rfl, rfl, by decide +kernel, rfl, by decide +kernel, by decide +kernel⟩
theorem scAskDone : FnScope ["world"] ["world"] (defScope sAskDone) := ⟨rfl, rfl, rfl, by decide +kernel, rfl, by decide +kernel, by decide +kernel⟩
theorem scAskSure : FnScope ["world"] ["world"] (defScope sAskSure) := ⟨rfl, rfl, rfl, by decide +kernel, rfl, by decide +kernel, by decide +kernel⟩
theorem scAskLongest : FnScope ["world", "most"] ["world"] (defScope sAskLongest) := ⟨rfl, rfl, rfl, by decide +kernel, rfl, by decide +kernel, by decide +kernel⟩
theorem name_all {dk : Km535.Desk} (h : Gs.DOk dk) : Km534.name (Km535.ring dk) ∈ Km536.allNames dk := by
  unfold Km536.allNames Km535.n_
  rw [Gs.ksum]
  exact Gs.Ok.name_in h
theorem longest_name {dk : Km535.Desk} (h : Gs.DOk dk) (a : Nat) : Km536.longest dk a (Km534.name (Km535.ring dk)) = Km536.longest dk a (Km535.ring dk) := by
  unfold Km536.longest
  rw [Gs.Ok.name_name h]
section
variable {P : Program} {w : World} {K : PySem.W.Frag} {mg : Str → Option Value} {base : Heap} {C : Addr}
theorem ok_fol_of {f : Addr} {fd : FuncData} (T : Wc K mg C) (F : Fun K "following_of" "following_of" sFolOf f fd) (dL : Def P w K mg base 6 "following_by_name" (spFolBy K)) : FnOk P w K mg base CX0 7 f fd ["world"] (spFolOf K C) := by
  refine F.ok scFolOf (fun vs H Q E h => ?_) (fun cdv A outer s H vs Q E hr h => ?_)
  · obtain ⟨a, dk, rfl, _⟩ := h
    rfl
  obtain ⟨a, dk, rfl, hw, k⟩ := h
  refine ⟨_, pss_one (ps_ret (pe_def dL hr (by decide) (by rfl) (pa_cons (pe_fld (pv 0) rfl) (pa_cons (pe_fld (pv 0) rfl) (pa_cons (pe_fld (pv 0) rfl) (pa_cons (pe_fld (pv 0) rfl) pa_nil)))))), ?_⟩
  obtain ⟨dx, t, d, h1, h2, h3, g⟩ := id hw
  exact ⟨_, rfl, a, C, dx, _, _, rfl, h1, T.cl, T.nR, wF_ring _ _ _ _, _, rfl, a, C, dx, _, _, rfl, h1, T.cl, T.nE, wF_eyes _ _ _ _, _, rfl, a, C, dx, _, _, rfl, h1, T.cl, T.nU, wF_rule _ _ _ _, _, rfl, a, C, dx, _, _, rfl, h1, T.cl, T.nM, wF_mode _ _ _ _, t, d, dk, dk.at_, rfl, h2, h3, g.ey, g.at2, g.ok, k⟩
theorem ok_longest_of {f : Addr} {fd : FuncData} (T : Wc K mg C) (F : Fun K "longest_of_ring" "longest_of_ring" sLongestOf f fd) (dF : Def P w K mg base 7 "following_of" (spFolOf K C)) (dL : Def P w K mg base 4 "longest_by_name" (spLongestBy K)) (dN : Def P w K mg base 2 "name_of" (spNameOf K)) : FnOk P w K mg base CX0 8 f fd ["world"] (spLongestOf K C) := by
  refine F.ok scLongestOf (fun vs H Q E h => ?_) (fun cdv A outer s H vs Q E hr h => ?_)
  · obtain ⟨a, dk, rfl, _⟩ := h
    rfl
  obtain ⟨a, dk, rfl, hw, k⟩ := h
  refine ⟨_, pss_one (ps_ret (pe_dget1 (hu_of hr) (pe_def dL hr (by decide) (by rfl) (pa_cons (pe_def dF hr (by decide) (by rfl) (pa_cons (pv 0) pa_nil)) pa_nil)) (pe_def dN hr (by decide) (by rfl) (pa_cons (pe_fld (pv 0) rfl) pa_nil)) ⟨rfl, rfl, rfl, rfl⟩)), ?_⟩
  obtain ⟨dx, t, d, h1, h2, h3, g⟩ := id hw
  refine ⟨_, rfl, a, dk, rfl, hw, fun H0 c0 s0 f0 => ⟨c0, dk, dk.at_, rfl, g.ok, f0, fun H0' c L s0' hc hl _ => ?_⟩⟩
  have s1 := s0.trans s0'
  have lo := g.ok.lo
  have hi := g.ok.hi
  refine ⟨c, rfl, .inr ⟨_, .inl hc⟩, _, rfl, a, C, dx, _, _, rfl, s1 _ _ h1, T.cl, T.nR, wF_ring _ _ _ _, t, _, rfl, s1 _ _ h2, by omega, by omega, fun H2 b2 s2 t2 => ?_⟩
  refine ⟨_, get_rule (K := K) (s2 _ _ hc) t2, ?_⟩
  have q := k H2 (s1.trans s2)
  rw [← longest_name g.ok, ← hl _ (name_all g.ok)] at q
  cases e : look L (Km534.name (Km535.ring dk)) <;> rw [e] at q <;> exact q
theorem rank_step (dk : Km535.Desk) : Km536.step (some dk) .rank = (some dk, ⟨(Km535.rank (Km535.ring dk) : Nat), []⟩) := onRule_of dk (c := .rank) (st := some dk) (a := Km535.say (Km535.rank (Km535.ring dk) : Nat)) rfl
theorem ring_step (dk : Km535.Desk) : Km536.step (some dk) .ring = (some dk, ⟨((Km535.ring dk).length : Nat), ni (Km535.ring dk)⟩) := onRule_of dk (c := .ring) (st := some dk) (a := Km535.tellAll (Km535.ring dk)) rfl
theorem ok_ask_rank {f : Addr} {fd : FuncData} (T : Wc K mg C) (F : Fun K "ask_rank" "ask_rank" sAskRank f fd) (dK : Def P w K mg base 4 "rank_of" (spRankOf K)) : FnOk P w K mg base CX0 5 f fd ["world"] (sp0 K C .rank) := by
  refine F.ok scAskRank (fun vs H Q E h => ?_) (fun cdv A outer s H vs Q E hr h => ?_)
  · obtain ⟨a, dk, rfl, _⟩ := h
    rfl
  obtain ⟨a, dk, rfl, hw, k⟩ := h
  refine ⟨_, pss_one (ps_ret (pe_lst (pa_cons (pe_def dK hr (by decide) (by rfl) (pa_cons (pe_fld (pv 0) rfl) pa_nil)) pa_nil))), ?_⟩
  obtain ⟨dx, t, d, h1, h2, h3, g⟩ := id hw
  exact ⟨_, rfl, a, C, dx, _, _, rfl, h1, T.cl, T.nR, wF_ring _ _ _ _, t, _, rfl, h2, g.ok, fun H1 s1 => ⟨(by show 1 ≤ sizeLine; decide), fun l nl => k _ l (aft_stay (rank_step dk) hw s1 nl)⟩⟩
theorem ok_ask_ring {f : Addr} {fd : FuncData} (B : Bt mg) (T : Wc K mg C) (F : Fun K "ask_ring" "ask_ring" sAskRing f fd) : FnOk P w K mg base CX0 1 f fd ["world"] (sp0 K C .ring) := by
  refine F.ok scAskRing (fun vs H Q E h => ?_) (fun cdv A outer s H vs Q E hr h => ?_)
  · obtain ⟨a, dk, rfl, _⟩ := h
    rfl
  obtain ⟨a, dk, rfl, hw, k⟩ := h
  refine ⟨_, pss_one (ps_ret (pe_op op_cat (pe_lst (pa_cons (pe_callB call_len_seq (by rfl) B.len PySem.boot_len (pa_cons (pe_fld (pv 0) rfl) pa_nil)) pa_nil)) (pe_callTy call_list_of (by rfl) B.list (by decide +kernel) (pa_cons (pe_fld (pv 0) rfl) pa_nil)))), ?_⟩
  obtain ⟨dx, t, d, h1, h2, h3, g⟩ := id hw
  have hi := g.ok.hi
  refine ⟨_, rfl, a, C, dx, _, _, rfl, h1, T.cl, T.nR, wF_ring _ _ _ _, t, _, rfl, .inr (SqT.of h2), (by show 1 ≤ sizeLine; decide), fun l nl => ?_⟩
  have s1 := same_upd nl (o := .lst [V.int ((tv (Km535.ring dk)).length : Nat)])
  refine ⟨_, rfl, a, C, dx, _, _, rfl, s1 _ _ h1, T.cl, T.nR, wF_ring _ _ _ _, t, _, rfl, .inr (SqT.of (s1 _ _ h2)), fun l2 n2 => ?_⟩
  have s2 := same_upd n2 (o := .lst (tv (Km535.ring dk)))
  refine ⟨l, l2, _, _, rfl, rfl, s2 _ _ upd_same, upd_same, by rw [tv_len]; exact line_of (by show 1 + _ ≤ _; omega), fun l3 n3 => k _ l3 ?_⟩
  have rs := ring_step dk
  rw [← tv_len (Km535.ring dk)] at rs
  exact aft_stay rs hw (s1.trans s2) n3
theorem done_step (dk : Km535.Desk) : Km536.step (some dk) .done = (some dk, ⟨if Km536.done dk (Km535.ring dk) then 1 else 0, []⟩) := rfl
theorem sure_step (dk : Km535.Desk) : Km536.step (some dk) .sure = (some dk, ⟨if (Km536.longest dk dk.at_ (Km535.ring dk)).isSome then 1 else 0, []⟩) := rfl
theorem longest_step (dk : Km535.Desk) : Km536.step (some dk) .longest = (some dk, Km536.sayO (Km536.longest dk dk.at_ (Km535.ring dk))) := rfl
theorem ok_ask_done {f : Addr} {fd : FuncData} (T : Wc K mg C) (F : Fun K "ask_done" "ask_done" sAskDone f fd) (dR : Def P w K mg base 5 "at_rest_together" (spAtRest K)) : FnOk P w K mg base CX0 6 f fd ["world"] (sp0 K C .done) := by
  refine F.ok scAskDone (fun vs H Q E h => ?_) (fun cdv A outer s H vs Q E hr h => ?_)
  · obtain ⟨a, dk, rfl, _⟩ := h
    rfl
  obtain ⟨a, dk, rfl, hw, k⟩ := h
  refine ⟨_, pss_one (ps_ret (pe_lst (pa_cons (pe_ifExp (pt_val (pe_def dR hr (by decide) (by rfl) (pa_cons (pe_fld (pv 0) rfl) (pa_cons (pe_fld (pv 0) rfl) (pa_cons (pe_fld (pv 0) rfl) pa_nil))))) pe_int pe_int) pa_nil))), ?_⟩
  obtain ⟨dx, t, d, h1, h2, h3, g⟩ := id hw
  refine ⟨_, rfl, a, C, dx, _, _, rfl, h1, T.cl, T.nR, wF_ring _ _ _ _, _, rfl, a, C, dx, _, _, rfl, h1, T.cl, T.nE, wF_eyes _ _ _ _, _, rfl, a, C, dx, _, _, rfl, h1, T.cl, T.nU, wF_rule _ _ _ _, t, d, _, dk, rfl, h2, h3, g.ey, g.ok, fun H1 s1 => ⟨_, rfl, ?_⟩⟩
  have st := done_step dk
  cases e : Km536.done dk (Km535.ring dk) <;> rw [e] at st <;> exact ⟨(by show 1 ≤ sizeLine; decide), fun l nl => k _ l (aft_stay st hw s1 nl)⟩
theorem ok_ask_sure {f : Addr} {fd : FuncData} (F : Fun K "ask_sure" "ask_sure" sAskSure f fd) (dL : Def P w K mg base 8 "longest_of_ring" (spLongestOf K C)) : FnOk P w K mg base CX0 9 f fd ["world"] (sp0 K C .sure) := by
  refine F.ok scAskSure (fun vs H Q E h => ?_) (fun cdv A outer s H vs Q E hr h => ?_)
  · obtain ⟨a, dk, rfl, _⟩ := h
    rfl
  obtain ⟨a, dk, rfl, hw, k⟩ := h
  refine ⟨_, pss_one (ps_ret (pe_lst (pa_cons (pe_ifExp (pt_cmpR op_isN (pe_def dL hr (by decide) (by rfl) (pa_cons (pv 0) pa_nil)) pe_non (nomark _)) pe_int pe_int) pa_nil))), ?_⟩
  refine ⟨_, rfl, a, dk, rfl, hw, fun H1 s1 => ⟨rfl, _, rfl, ?_⟩⟩
  have st := sure_step dk
  cases e : Km536.longest dk dk.at_ (Km535.ring dk) <;> rw [e] at st <;> exact ⟨(by show 1 ≤ sizeLine; decide), fun l nl => k _ l (aft_stay st hw s1 nl)⟩
theorem ok_ask_longest {f : Addr} {fd : FuncData} (M : Nm mg) (F : Fun K "ask_longest" "ask_longest" sAskLongest f fd) (dL : Def P w K mg base 8 "longest_of_ring" (spLongestOf K C)) : FnOk P w K mg base CX0 9 f fd ["world"] (sp0 K C .longest) := by
  refine F.ok scAskLongest (fun vs H Q E h => ?_) (fun cdv A outer s H vs Q E hr h => ?_)
  · obtain ⟨a, dk, rfl, _⟩ := h
    rfl
  obtain ⟨a, dk, rfl, hw, k⟩ := h
  refine ⟨_, pss_cons (ps_set (i := 1) scAskLongest.nd rfl (Or.inl rfl) (pe_def dL hr (by decide) (by rfl) (pa_cons (pv 0) pa_nil))) (pss_one (ps_ret (pe_lst (pa_cons (pe_ifExp (pt_cmpR op_isN (pv 1) pe_non (nomark _)) (pe_num M.notThere rfl) (pv 1)) pa_nil)))), ?_⟩
  refine ⟨_, rfl, a, dk, rfl, hw, fun H1 s1 => ⟨_, rfl, rfl, _, rfl, ?_⟩⟩
  have st := longest_step dk
  cases e : Km536.longest dk dk.at_ (Km535.ring dk) with
  | none =>
    rw [e] at st
    exact ⟨(by show 1 ≤ sizeLine; decide), fun l nl => k _ l (aft_stay st hw s1 nl)⟩
  | some n =>
    rw [e] at st
    exact ⟨_, rfl, (by show 1 ≤ sizeLine; decide), fun l nl => k _ l (aft_stay st hw s1 nl)⟩
end
end Gp
namespace Gp
open PySem PySem.Spec PyProof.Rows L2
/-- one call: its number and its numbers in a list -/
def spCall (K : PySem.W.Frag) (C : Addr) : Sp := fun vs H Q _ => ∃ (a l : Addr) (st : Km536.State) (c : Nat) (xs : List Nat) (cl : Km536.Call), vs = [.ref a, .int c, .ref l] ∧ WAt K C H a st ∧ H l = some (.lst (tv xs)) ∧ Gs.callN c xs = some cl ∧ ∀ H' b, Aft K C H a st cl H' b → Q (.ref b) H'
/-- what may be handed in -/
structure Asked (L : List Int) : Prop where
  short : L.length ≤ 120
  cs : ∃ cs, PyFlat.calls PyKm536.shape L.length L = some cs ∧ (∀ c ∈ cs, Km536Neutral.asked1 c = true) ∧ PyKm536.answers L = Gs.rest none cs
  few : (PyKm536.answers L).length ≤ 10000000
def spAnswers (K : PySem.W.Frag) : Sp := fun vs H Q _ => ∃ (a : Addr) (L : List Int), vs = [.ref a] ∧ SqL K H a (L.map V.int) ∧ Asked L ∧ ∀ H' p, H' p = some (.lst ((PyKm536.answers L).map V.int)) → Q (.ref p) H'
structure Tab (K : PySem.W.Frag) (mg : Str → Option Value) (M : Addr) : Prop where
  name : mg "ARGUMENTS" = some (.ref M)
  tup : ∀ H, SqT K H M (tv Gs.args)
theorem Fr.sq {K : PySem.W.Frag} {C : Addr} {H H' : Hp} (f : Fr C H H') {a : Addr} {xs : List V} (h : SqL K H a xs) : SqL K H' a xs := by
  rcases h with (h | ⟨o, h⟩) | h
  · exact .inl (.inl (f.lst h))
  · exact .inl (.inr ⟨o, f _ _ h (fun _ _ z => by cases z) fun _ z => by cases z⟩)
  · exact .inr h
/-- a list changes: the world stays -/
theorem WAt.lst {K : PySem.W.Frag} {C : Addr} {H : Hp} {a g : Addr} {st : Km536.State} {ys : List V} (h : WAt K C H a st) (hg : H g = some (.lst ys)) (o : HO) : WAt K C (upd H g o) a st := by
  have ne : ∀ {b : Addr} {u : HO}, H b = some u → (∀ zs, u ≠ .lst zs) → upd H g o b = some u := fun {b u} e n => (upd_ne fun z => by
    rw [z, hg] at e
    exact n ys (Option.some.inj e).symm).trans e
  cases st with
  | none =>
    obtain ⟨dx, t, d, e, m, h1, h2⟩ := h
    exact ⟨dx, t, d, e, m, ne h1 (fun _ z => by cases z), ne h2 (fun _ z => by cases z)⟩
  | some dk =>
    obtain ⟨dx, t, d, h1, h2, h3, gd⟩ := h
    exact ⟨dx, t, d, ne h1 (fun _ z => by cases z), ne h2 (fun _ z => by cases z), ne h3 (fun _ z => by cases z), gd⟩
/-- a list that is read, and is another one than g (or stands in the written part) -/
def Off (K : PySem.W.Frag) (g : Addr) (H : Hp) (a : Addr) (xs : List V) : Prop := SqL K H a xs ∧ (a = g → ∀ H', SqL K H' a xs)
theorem Off.fr {K : PySem.W.Frag} {C : Addr} {g : Addr} {H H' : Hp} {a : Addr} {xs : List V} (h : Off K g H a xs) (f : Fr C H H') : Off K g H' a xs := ⟨f.sq h.1, h.2⟩
theorem Off.upd {K : PySem.W.Frag} {g : Addr} {H : Hp} {a : Addr} {xs : List V} (h : Off K g H a xs) (o : HO) : Off K g (L2.upd H g o) a xs := by
  refine ⟨?_, h.2⟩
  by_cases c : a = g
  · exact h.2 c _
  rcases h.1 with (e | ⟨u, e⟩) | e
  · exact .inl (.inl ((upd_ne c).trans e))
  · exact .inl (.inr ⟨u, (upd_ne c).trans e⟩)
  · exact .inr e
theorem Off.of {K : PySem.W.Frag} {g : Addr} {H : Hp} {a : Addr} {xs : List V} (h : SqL K H a xs) (n : H g = none) : Off K g H a xs := by
  refine ⟨h, fun c H' => ?_⟩
  rcases h with (e | ⟨u, e⟩) | e
  · rw [c, n] at e; cases e
  · rw [c, n] at e; cases e
  · exact .inr e
/-- how far the loop is -/
structure Far (L : List Int) (i : Nat) (st : Km536.State) (G : List Int) : Prop where
  le : i ≤ L.length
  cs : ∃ f cs, PyFlat.calls PyKm536.shape f (L.drop i) = some cs ∧ (∀ c ∈ cs, Km536Neutral.asked1 c = true) ∧ G ++ Gs.rest st cs = PyKm536.answers L
theorem Far.start {L : List Int} (h : Asked L) : Far L 0 none [] := by
  obtain ⟨cs, h1, h2, h3⟩ := h.cs
  exact ⟨Nat.zero_le _, _, cs, h1, h2, h3.symm⟩
theorem Far.done {L : List Int} {i : Nat} {st : Km536.State} {G : List Int} (h : Far L i st G) (hi : ¬ i < L.length) : G = PyKm536.answers L := by
  obtain ⟨f, cs, h1, _, h3⟩ := h.cs
  rw [List.drop_eq_nil_of_le (by omega)] at h1
  have e : cs = [] := by
    cases f <;> (injection h1 with h1; exact h1.symm)
  rw [e, Gs.rest_nil, List.append_nil] at h3
  exact h3
theorem Far.next {L : List Int} {i : Nat} {st : Km536.State} {G : List Int} (h : Far L i st G) (hi : i < L.length) :
    ∃ (c : Nat) (xs : List Nat) (cl : Km536.Call), c < 23 ∧ L[i]? = some (c : Int) ∧ i + 1 + Gs.nArg c ≤ L.length ∧ (L.drop (i + 1)).take (Gs.nArg c) = ni xs ∧ Gs.callN c xs = some cl ∧
      Far L (i + 1 + Gs.nArg c) (Km536.step st cl).1 (G ++ [((ansOf st cl).length : Int)] ++ ansOf st cl) := by
  obtain ⟨f, cs, h1, h2, h3⟩ := h.cs
  rw [List.drop_eq_getElem_cons hi] at h1
  obtain ⟨c, hc, ep, hn, cs', f', rfl, h4⟩ := Gs.calls_cons h1
  obtain ⟨xs, cl, ex, ec⟩ := Gs.asked_call (h2 _ (List.mem_cons_self ..))
  have ei : L[i]? = some (c : Int) := by rw [List.getElem?_eq_getElem hi, ep]
  rw [List.length_drop] at hn
  refine ⟨c, xs, cl, hc, ei, by omega, ex, ?_, by omega, f', cs', ?_, fun x hx => h2 x (List.mem_cons_of_mem _ hx), ?_⟩
  · unfold Gs.callN
    rw [← ex, ← ep]
    exact ec
  · rw [List.drop_drop] at h4
    exact h4
  · rw [Gs.rest_cons ec] at h3
    rw [← h3]
    show G ++ [_] ++ _ ++ _ = G ++ (_ :: _)
    rw [List.append_assoc, List.append_assoc]
    rfl
abbrev nAnswers : List Str := ["calls", "world", "given", "start", "call", "end", "answer"]
theorem scAnswers : FnScope nAnswers ["calls"] (defScope sAnswers) := ⟨rfl, rfl, rfl, by decide +kernel, rfl, by decide +kernel, by decide +kernel⟩
section
variable {P : Program} {w : World} {K : PySem.W.Frag} {mg : Str → Option Value} {base : Heap} {C : Addr}
theorem ok_answers {k : Nat} {f fI M : Addr} {fd fdI : FuncData} (hk : 1 ≤ k) (B : Bt mg) (T : Wc K mg C) (Tb : Tab K mg M) (MK : Mk K C fI) (GI : FnOk P w K mg base CX0 1 fI fdI ["self"] (spInit C)) (bI : Binds K fdI ["self"] []) (F : Fun K "answers" "answers" sAnswers f fd) (dC : Def P w K mg base k "answer_call" (spCall K C)) : FnOk P w K mg base CX0 (k + 2) f fd ["calls"] (spAnswers K) := by
  refine F.ok scAnswers (fun vs H Q E h => ?_) (fun cdv A outer s H vs Q E hr h => ?_)
  · obtain ⟨a, L, rfl, _⟩ := h
    rfl
  obtain ⟨a, L, rfl, hL, ask, q⟩ := h
  refine ⟨_, pss_cons (ps_set (i := 1) scAnswers.nd rfl (Or.inl rfl) (pe_make0 MK GI (hr.mono (by omega)) rfl T.gC bI .nil pass0))
    (pss_cons (ps_set (i := 2) scAnswers.nd rfl (Or.inl rfl) (pe_lst pa_nil))
    (pss_cons (ps_set (i := 3) scAnswers.nd rfl (Or.inl rfl) pe_int)
    (pss_cons (ps_while PassesOwn.never (pt_cmpR op_lt (pv 3) (pe_callB call_len_seq (by rfl) B.len PySem.boot_len (pa_cons (pv 0) pa_nil)) (nomark _))
      (pss_cons (ps_set (i := 4) scAnswers.nd rfl (Or.inl rfl) (pe_ix (r := rIxL K) ix_list (pv 0) (pv 3) (fun _ _ => rfl)))
      (pss_cons (ps_set (i := 5) scAnswers.nd rfl (Or.inl rfl) (pe_op op_add (pe_op op_add (pv 3) pe_int) (pe_ix (r := rIxT K) ix_tup (pe_glob (v := .ref M) rfl Tb.name rfl) (pv 4) (fun _ _ => rfl))))
      (pss_cons (ps_set (i := 6) scAnswers.nd rfl (Or.inl rfl) (pe_def dC hr (by omega) (by rfl) (pa_cons (pv 1) (pa_cons (pv 4) (pa_cons (pe_slice sl_list (pv 0) (po_some (pe_op op_add (pv 3) pe_int)) (po_some (pv 5))) pa_nil)))))
      (pss_cons (ps_expr (pe_bm PySem.F.plainAttrs_list PySem.F.slot_list_append PySem.F.type_list_append mt_append (pv 2) (pa_cons (pe_callB call_len_seq (by rfl) B.len PySem.boot_len (pa_cons (pv 6) pa_nil)) pa_nil)))
      (pss_cons (ps_expr (pe_bm PySem.F.plainAttrs_list PySem.F.slot_list_extend PySem.F.type_list_extend mt_extend (pv 2) (pa_cons (pv 6) pa_nil)))
      (pss_one (ps_set (i := 3) scAnswers.nd rfl (Or.inl rfl) (pv 5)))))))))
    (pss_one (ps_ret (pv 2)))))), ?_⟩
  intro x dx nx ndx nex
  refine ⟨x, dx, rfl, upd_same, fun H1 hx kp => ⟨rfl, ?_⟩⟩
  obtain ⟨t, d, hx1, ht⟩ := hx
  have sH : Same H H1 := fun b o e => by
    have b1 : b ≠ x := fun z => by rw [z, nx] at e; cases e
    have b2 : b ≠ dx := fun z => by rw [z, ndx] at e; cases e
    exact kp b o ((upd_ne b1).trans ((upd_ne b2).trans e)) b1
  refine ⟨(by show 0 ≤ sizeLine; decide), fun g ng => ?_⟩
  have sg := same_upd ng (o := .lst [])
  have w0 : WAt K C (upd H1 g (.lst [])) x none := ⟨dx, t, d, 0, 0, sg _ _ hx1, sg _ _ ht⟩
  have hsq : Off K g (upd H1 g (.lst [])) a (L.map V.int) := (Off.of ((Fr.of (C := C) sH).sq hL) ng).upd _
  have hg : upd H1 g (.lst []) g = some (.lst []) := upd_same
  generalize upd H1 g (.lst []) = H2 at w0 hsq hg
  refine ⟨fun m σ H' => ∃ (i : Nat) (st : Km536.State) (G : List Int) (v4 v5 v6 : Option V), m = L.length - i ∧ σ = [some (.ref a), some (.ref x), some (.ref g), some (.int i), v4, v5, v6] ∧ WAt K C H' x st ∧ Off K g H' a (L.map V.int) ∧ H' g = some (.lst (G.map V.int)) ∧ Far L i st G, ⟨_, 0, none, [], none, none, none, rfl, rfl, w0, hsq, hg, Far.start ask⟩, ?_⟩
  rintro m σ H3 ⟨i, st, G, v4, v5, v6, rfl, rfl, w3, hs3, hg3, far⟩
  refine ⟨_, rfl, _, rfl, a, _, rfl, .inl hs3.1, _, _, rfl, rfl, _, rfl, ?_⟩
  rw [List.length_map]
  by_cases c : i < L.length
  · obtain ⟨cn, xs, cl, hcn, hci, hle, htk, hcall, far'⟩ := far.next c
    refine iteDT (by omega) ⟨fun σ' H' => ∃ (j : Nat) (st : Km536.State) (G : List Int) (v4 v5 v6 : Option V), i < j ∧ j ≤ L.length ∧ σ' = [some (.ref a), some (.ref x), some (.ref g), some (.int j), v4, v5, v6] ∧ WAt K C H' x st ∧ Off K g H' a (L.map V.int) ∧ H' g = some (.lst (G.map V.int)) ∧ Far L j st G, ?_, ?_⟩
    · rintro σ' H' ⟨j, st, G, v4, v5, v6, h1, h2, h3⟩
      exact ⟨L.length - j, by omega, j, st, G, v4, v5, v6, rfl, h3⟩
    refine ⟨_, rfl, _, rfl, a, _, _, V.int (cn : Int), rfl, rfl, hs3.1, atI_nat (by rw [List.getElem?_map, hci]; rfl), ?_⟩
    refine ⟨_, rfl, _, _, rfl, rfl, _, rfl, M, _, _, V.int (Gs.nArg cn : Int), rfl, rfl, Tb.tup H3, atI_nat (by
      rw [tv_get]
      unfold Gs.nArg
      rw [List.getElem?_eq_getElem (l := Gs.args) (i := cn) hcn, List.getD_eq_getElem?_getD, List.getElem?_eq_getElem (l := Gs.args) (i := cn) hcn]
      rfl), _, _, rfl, rfl, ?_⟩
    refine ⟨_, rfl, _, rfl, _, rfl, _, rfl, _, _, rfl, rfl, _, rfl, _, rfl, _, rfl, a, _, rfl, hs3.1, fun l nl => ?_⟩
    have ecut : cutV (L.map V.int) (some ((i : Int) + 1)) (some ((i : Int) + 1 + (Gs.nArg cn : Int))) = tv xs := by
      rw [show ((i : Int) + 1) = ((i + 1 : Nat) : Int) from rfl, show ((i + 1 : Nat) : Int) + (Gs.nArg cn : Int) = ((i + 1 + Gs.nArg cn : Nat) : Int) from rfl]
      unfold cutV
      rw [HT.sIx_nat, HT.sIx_nat, List.length_map, Nat.min_eq_left hle, Nat.min_eq_left (show i + 1 ≤ L.length by omega), ← List.map_drop, ← List.map_take, show i + 1 + Gs.nArg cn - (i + 1) = Gs.nArg cn by omega, htk]
    rw [ecut]
    have sl := same_upd nl (o := .lst (tv xs))
    refine ⟨x, l, st, cn, xs, cl, rfl, w3.same sl, upd_same, hcall, fun H4 b A4 => ?_⟩
    have fr := (Fr.of (C := C) sl).trans A4.frame
    have hg4 := fr.lst hg3
    have gb : g ≠ b := fun z => by
      have n4 := A4.new
      rw [← z] at n4
      rw [sl _ _ hg3] at n4
      cases n4
    have far2 : (G ++ [((ansOf st cl).length : Int)] ++ ansOf st cl).length ≤ 10000000 := by
      obtain ⟨f2, cs2, _, _, e2⟩ := far'.cs
      have := ask.few
      rw [← e2, List.length_append] at this
      omega
    rw [List.length_append, List.length_append] at far2
    have big : sizeLine = 16777216 := sizeLine_eq
    refine ⟨_, rfl, .inl ⟨rfl, _, SqL.of hg4⟩, _, rfl, b, _, rfl, .inl (SqL.of A4.ans), g, _, _, rfl, rfl, hg4, ?_, ?_⟩
    · rw [List.length_map, big]
      simp only [List.length_cons, List.length_nil] at far2
      omega
    rw [List.length_map]
    refine ⟨_, rfl, .inl ⟨rfl, _, SqL.of upd_same⟩, _, rfl, g, b, _, _, rfl, rfl, upd_same, (upd_ne (Ne.symm gb)).trans A4.ans, ?_, ?_⟩
    · rw [List.length_append, List.length_map, List.length_map, big]
      simp only [List.length_cons, List.length_nil] at far2 ⊢
      omega
    refine ⟨_, rfl, i + 1 + Gs.nArg cn, (Km536.step st cl).1, _, _, _, _, by omega, hle, rfl, ?_, ?_, ?_, far'⟩
    · exact (A4.world.lst hg4 _).lst upd_same _
    · exact ((hs3.fr fr).upd _).upd _
    · rw [upd_same, List.map_append, List.map_append]
      rfl
  · refine iteDF (by omega) ⟨_, rfl, q H3 g ?_⟩
    rw [hg3, far.done c]
end
end Gp
namespace Gp
open PySem PySem.Spec PyProof.Rows L2
theorem asked_of {L : List Int} (hl : L.length ≤ 120) (h : PyKm536.answers_asked L = true) : Asked L := by
  unfold PyKm536.answers_asked at h
  cases e : PyFlat.calls PyKm536.shape L.length L with
  | none => rw [e] at h; cases h
  | some raw =>
    rw [e] at h
    dsimp only at h
    rw [Bool.and_eq_true, Bool.and_eq_true] at h
    obtain ⟨⟨_, h2⟩, h3⟩ := h
    rw [Gs.map_whole] at h2
    unfold Km536Neutral.asked at h2
    rw [Bool.and_eq_true, Bool.and_eq_true] at h2
    refine ⟨hl, ⟨raw, e, List.all_eq_true.mp h2.2.2, ?_⟩, of_decide_eq_true h3⟩
    unfold PyKm536.answers PyKm536.calls
    rw [e]
    dsimp only
    rw [Gs.map_whole]
    rfl
theorem not_begun {c : Nat} {xs : List Nat} {cl : Km536.Call} (h : Gs.CallIs c xs cl) (hc : c ≠ 0) : Km536.step none cl = (none, ⟨-11, []⟩) := by
  cases h <;> first | rfl | exact (hc rfl).elim
end Gp
namespace Gp
open PySem PySem.Spec PyProof.Rows L2
/-- a def at an address, with its promise -/
structure DefAt (P : Program) (w : World) (K : PySem.W.Frag) (mg : Str → Option Value) (base : Heap) (k : Nat) (f : Addr) (sp : Sp) : Prop where
  run : FnR P w K mg base CX0 k f sp
  kp : PySem.W.keepIn K (.ref f) = true
theorem DefAt.mono {P : Program} {w : World} {K : PySem.W.Frag} {mg : Str → Option Value} {base : Heap} {j k : Nat} {f : Addr} {sp : Sp} (d : DefAt P w K mg base j f sp) (h : j ≤ k) : DefAt P w K mg base k f sp := ⟨d.run.mono h, d.kp⟩
theorem defAt {P : Program} {w : World} {K : PySem.W.Frag} {mg : Str → Option Value} {base : Heap} {k : Nat} {f : Addr} {fd : FuncData} {ps : List Str} {sp : Sp} (F : FnOk P w K mg base CX0 k f fd ps sp) (kp : PySem.W.keepIn K (.ref f) = true) (b : Binds K fd ps []) : DefAt P w K mg base k f sp :=
  ⟨(F.raw b .nil).imp fun vs H Q E h => by rw [List.append_nil]; exact h, kp⟩
theorem lookup_no : ∀ {L : List (Int × Addr)} {z : Int}, (∀ p ∈ L, p.1 ≠ z) → L.lookup z = none
  | [], _, _ => rfl
  | p :: L, z, h => by
    rw [List.lookup_cons, beq_eq_false_iff_ne.mpr fun y => h p (List.mem_cons_self ..) y.symm]
    exact lookup_no fun q hq => h q (List.mem_cons_of_mem _ hq)
def spIsT (P : Nat → Bool) : Sp := fun vs H Q _ => ∃ c : Nat, vs = [.int c] ∧ Q (.bl (P c)) H
def spChange (K : PySem.W.Frag) (C : Addr) : Sp := fun vs H Q _ => ∃ (a l : Addr) (st : Km536.State) (c : Nat) (xs : List Nat) (cl : Km536.Call), vs = [.ref a, .int c, .ref l] ∧ WAt K C H a st ∧ H l = some (.lst (tv xs)) ∧ Gs.CallIs c xs cl ∧ c ≤ 6 ∧ (c = 0 ∨ st.isSome = true) ∧ ∀ H' b, Aft K C H a st cl H' b → Q (.ref b) H'
theorem scIsChange : FnScope ["call"] ["call"] (defScope sIsChange) := ⟨rfl, rfl, rfl, by decide +kernel, rfl, by decide +kernel, by decide +kernel⟩
theorem scAnsChange : FnScope ["world", "call", "arguments"] ["world", "call", "arguments"] (defScope sAnsChange) := ⟨rfl, rfl, rfl, by decide +kernel, rfl, by decide +kernel, by decide +kernel⟩
section
variable {P : Program} {w : World} {K : PySem.W.Frag} {mg : Str → Option Value} {base : Heap} {C : Addr}
theorem ok_is_change {f fE fU fM fJ fB fP fT : Addr} {fd : FuncData} (T1 : GsR.TabL K mg "CHANGES_OF_ONE" [(2, fE), (4, fU), (5, fM), (6, fJ)]) (T2 : GsR.TabL K mg "CHANGES_OF_TWO" [(0, fB), (1, fP), (3, fT)]) (F : Fun K "is_change" "is_change" sIsChange f fd) :
    FnOk P w K mg base CX0 1 f fd ["call"] (spIsT fun c => decide (c ≤ 6)) := by
  refine F.ok scIsChange (fun vs H Q E h => ?_) (fun cdv A outer s H vs Q E hr h => ?_)
  · obtain ⟨c, rfl, _⟩ := h
    rfl
  obtain ⟨c, rfl, q⟩ := h
  refine ⟨_, pss_one (ps_ret (pe_or (GsR.pe_inT T1 (pv 0) (by rfl) (GsR.mono_var 0)) (pe_one (GsR.pe_inT T2 (pv 0) (by rfl) (GsR.mono_var 0))))), ?_⟩
  refine ⟨_, rfl, _, rfl, _, rfl, ?_⟩
  by_cases hc : c ≤ 6
  · dsimp only at q
    rw [decide_eq_true hc] at q
    match c, hc with
    | 0, _ => exact ⟨_, rfl, _, rfl, q⟩
    | 1, _ => exact ⟨_, rfl, _, rfl, q⟩
    | 2, _ => exact q
    | 3, _ => exact ⟨_, rfl, _, rfl, q⟩
    | 4, _ => exact q
    | 5, _ => exact q
    | 6, _ => exact q
  · dsimp only at q
    rw [decide_eq_false hc] at q
    rw [lookup_no (by simp; omega)]
    refine ⟨_, rfl, _, rfl, ?_⟩
    rw [lookup_no (by simp; omega)]
    exact q
theorem ok_ans_change {k : Nat} {f fE fU fM fJ fB fP fT : Addr} {fd : FuncData} (T1 : GsR.TabL K mg "CHANGES_OF_ONE" [(2, fE), (4, fU), (5, fM), (6, fJ)]) (T2 : GsR.TabL K mg "CHANGES_OF_TWO" [(0, fB), (1, fP), (3, fT)]) (F : Fun K "answer_change" "answer_change" sAnsChange f fd)
    (dE : DefAt P w K mg base k fE (sp1 K C .eyes)) (dU : DefAt P w K mg base k fU (sp1 K C .untell)) (dM : DefAt P w K mg base k fM (sp1 K C .at_)) (dJ : DefAt P w K mg base k fJ (sp1 K C .jump)) (dB : DefAt P w K mg base k fB (spBegin K C)) (dP : DefAt P w K mg base k fP (sp2 K C .put)) (dT : DefAt P w K mg base k fT (sp2 K C .tell)) :
    FnOk P w K mg base CX0 (k + 1) f fd ["world", "call", "arguments"] (spChange K C) := by
  refine F.ok scAnsChange (fun vs H Q E h => ?_) (fun cdv A outer s H vs Q E hr h => ?_)
  · obtain ⟨a, l, st, c, xs, cl, rfl, _⟩ := h
    rfl
  obtain ⟨a, l, st, c, xs, cl, rfl, hw, hl, hc, c6, hb, k⟩ := h
  refine ⟨_, pss_cons (ps_if (GsR.pt_inT T1 (pv 1) (by rfl) (GsR.mono_var 1)) (pss_one (ps_ret (GsR.pe_callT T1 (by rfl) (pv 1) (fun _ _ => rfl) hr (pa_cons (pv 0) (pa_cons (pe_ix (r := rIxL K) ix_list (pv 2) pe_int (fun _ _ => rfl)) pa_nil)) (GsR.mono_var 1)))) pss_nil)
    (pss_one (ps_ret (GsR.pe_callT T2 (by rfl) (pv 1) (fun _ _ => rfl) hr (pa_cons (pv 0) (pa_cons (pe_ix (r := rIxL K) ix_list (pv 2) pe_int (fun _ _ => rfl)) (pa_cons (pe_ix (r := rIxL K) ix_list (pv 2) pe_int (fun _ _ => rfl)) pa_nil))) (GsR.mono_var 1)))), ?_⟩
  refine ⟨_, rfl, _, rfl, _, rfl, ?_⟩
  have some_st : c ≠ 0 → ∃ dk, st = some dk := fun c0 => by
    rcases hb with z | z
    · exact (c0 z).elim
    · exact Option.isSome_iff_exists.mp z
  cases hc with
  | c0 x y => exact ⟨_, rfl, 0, fB, _, rfl, rfl, dB.run, dB.kp, _, rfl, _, rfl, l, _, _, V.int x, rfl, rfl, SqL.of hl, atI_nat (j := 0) rfl, _, rfl, l, _, _, V.int y, rfl, rfl, SqL.of hl, atI_nat (j := 1) rfl, a, st, x, y, rfl, hw, k⟩
  | c1 x y =>
    obtain ⟨dk, rfl⟩ := some_st (by decide)
    exact ⟨_, rfl, 1, fP, _, rfl, rfl, dP.run, dP.kp, _, rfl, _, rfl, l, _, _, V.int x, rfl, rfl, SqL.of hl, atI_nat (j := 0) rfl, _, rfl, l, _, _, V.int y, rfl, rfl, SqL.of hl, atI_nat (j := 1) rfl, a, dk, x, y, rfl, hw, k⟩
  | c3 x y =>
    obtain ⟨dk, rfl⟩ := some_st (by decide)
    exact ⟨_, rfl, 3, fT, _, rfl, rfl, dT.run, dT.kp, _, rfl, _, rfl, l, _, _, V.int x, rfl, rfl, SqL.of hl, atI_nat (j := 0) rfl, _, rfl, l, _, _, V.int y, rfl, rfl, SqL.of hl, atI_nat (j := 1) rfl, a, dk, x, y, rfl, hw, k⟩
  | c2 x =>
    obtain ⟨dk, rfl⟩ := some_st (by decide)
    exact ⟨_, rfl, 2, fE, _, rfl, rfl, dE.run, dE.kp, _, rfl, _, rfl, l, _, _, V.int x, rfl, rfl, SqL.of hl, atI_nat (j := 0) rfl, a, dk, x, rfl, hw, k⟩
  | c4 x =>
    obtain ⟨dk, rfl⟩ := some_st (by decide)
    exact ⟨_, rfl, 4, fU, _, rfl, rfl, dU.run, dU.kp, _, rfl, _, rfl, l, _, _, V.int x, rfl, rfl, SqL.of hl, atI_nat (j := 0) rfl, a, dk, x, rfl, hw, k⟩
  | c5 x =>
    obtain ⟨dk, rfl⟩ := some_st (by decide)
    exact ⟨_, rfl, 5, fM, _, rfl, rfl, dM.run, dM.kp, _, rfl, _, rfl, l, _, _, V.int x, rfl, rfl, SqL.of hl, atI_nat (j := 0) rfl, a, dk, x, rfl, hw, k⟩
  | c6 x =>
    obtain ⟨dk, rfl⟩ := some_st (by decide)
    exact ⟨_, rfl, 6, fJ, _, rfl, rfl, dJ.run, dJ.kp, _, rfl, _, rfl, l, _, _, V.int x, rfl, rfl, SqL.of hl, atI_nat (j := 0) rfl, a, dk, x, rfl, hw, k⟩
  | _ => omega
end
end Gp
/-! What the head tells: defs, tables, tuples and numbers of the top. -/
namespace Gp
open PySem PySem.W PyProof.Rows L2
/-- a def of the top: where it stands, and that it is this text -/
structure FnAt (K : PySem.W.Frag) (x : Str) (st : Stmt) (f : Addr) : Prop where
  at_ : PySem.W.nsIn K mainGlobals x = some (some (.ref f))
  kp : PySem.W.keepIn K (.ref f) = true
  is : ∃ fd, Fun K x x st f fd
theorem fnAt_mk {K : PySem.W.Frag} {x : Str} {st : Stmt} {f : Addr} {od an : Option Addr} {sl : Array (Option Value)} {oc kV dc pm cd ct : Value} (a : PySem.W.nsIn K mainGlobals x = some (some (.ref f))) (l : K.lookup f = some ⟨oc, od, .func (PySem.W.fnOf x x (defArgs st) (defBody st) (defScope st) .none kV dc pm an cd ct), sl⟩)
    (c : PySem.W.codeIn K cd x = true) (k : PySem.W.keepIn K (.ref f) = true) : FnAt K x st f := ⟨a, k, _, fun_mk (st := st) l c k⟩
/-- a table of defs of the top -/
structure TabAt (K : PySem.W.Frag) (x : Str) (L : List (Int × Addr)) : Prop where
  ex : ∃ (d : Addr) (es : List DictEntry) (n : Nat), PySem.W.nsIn K mainGlobals x = some (some (.ref d)) ∧ K.lookup d = some ⟨.type "dict", none, .dict es.toArray n, #[]⟩ ∧ GsR.Ents es L ∧ (d == sysModules) = false
theorem tabAt_mk {K : PySem.W.Frag} {x : Str} {L : List (Int × Addr)} {d : Addr} {es : List DictEntry} {n : Nat} (a : PySem.W.nsIn K mainGlobals x = some (some (.ref d))) (l : K.lookup d = some ⟨.type "dict", none, .dict es.toArray n, #[]⟩) (e : GsR.Ents es L) (lo : (d == sysModules) = false) : TabAt K x L := ⟨d, es, n, a, l, e, lo⟩
/-- a number of the top -/
theorem numAt {K : PySem.W.Frag} {x : Str} {v : Int} {t : Tok} (a : PySem.W.nsIn K mainGlobals x = some (some (.int v t))) : ∃ t, PySem.W.nsIn K mainGlobals x = some (some (.int v t)) := ⟨t, a⟩
structure TupAt (K : PySem.W.Frag) (M : Addr) (xs : List V) : Prop where
  tup : ∀ H, SqT K H M xs
theorem tupAt_mk {K : PySem.W.Frag} {M : Addr} {xs : List V} {od : Option Addr} {its : List Value} {n : Nat} {sl : Array (Option Value)} (l : K.lookup M = some ⟨.type "tuple", od, .seq its.toArray n, sl⟩) (z : its.length ≤ sizeLine) (v : Vals xs its) : TupAt K M xs :=
  ⟨fun _ => .inr ⟨_, its.toArray, n, l, rfl, rfl, by simpa using z, by simpa using v⟩⟩
end Gp
namespace Gp
open PySem PySem.Spec PyProof.Rows L2
/-! ### all_apart, is_own_turning, leaves_a_place, is_own_mirror_between -/
def spApart (K : PySem.W.Frag) : Sp := fun vs H Q _ => ∃ (a : Addr) (r : List Nat), vs = [.ref a] ∧ Tp K H a r ∧ Gs.Ok r ∧ Q (.bl (Km536.apart r)) H
theorem scApart : FnScope ["ring"] ["ring"] (defScope sAllApart) := ⟨rfl, rfl, rfl, by decide +kernel, rfl, by decide +kernel, by decide +kernel⟩
def spOwnTurn (K : PySem.W.Frag) : Sp := fun vs H Q _ => ∃ (a : Addr) (r : List Nat), vs = [.ref a] ∧ Tp K H a r ∧ Gs.Ok r ∧ ∀ H', Same H H' → Q (.bl (Gs.ownTurn r)) H'
theorem scOwnTurn : FnScope ["ring", "place"] ["ring"] (defScope sOwnTurn) := ⟨rfl, rfl, rfl, by decide +kernel, rfl, by decide +kernel, by decide +kernel⟩
def spLeaves : Sp := fun vs H Q _ => ∃ (n p : Nat), vs = [.int n, .int p] ∧ 0 < n ∧ n ≤ 100 ∧ ∀ H', Same H H' → Q (.bl (Gs.leaves n p)) H'
theorem scLeaves : FnScope ["places", "place", "here"] ["places", "place"] (defScope sLeaves) := ⟨rfl, rfl, rfl, by decide +kernel, rfl, by decide +kernel, by decide +kernel⟩
def spOwnMirror (K : PySem.W.Frag) : Sp := fun vs H Q _ => ∃ (a : Addr) (r : List Nat), vs = [.ref a] ∧ Tp K H a r ∧ Gs.Ok r ∧ ∀ H', Same H H' → Q (.bl (Gs.ownMirror r)) H'
abbrev nOwnMirror : List Str := ["ring", "places", "between", "place"]
theorem scOwnMirror : FnScope nOwnMirror ["ring"] (defScope sOwnMirror) := ⟨rfl, rfl, rfl, by decide +kernel, rfl, by decide +kernel, by decide +kernel⟩
theorem beq_dec (a b : List Nat) : decide (a = b) = (a == b) := by
  by_cases c : a = b
  · rw [c, decide_eq_true rfl, beq_self_eq_true]
  · rw [decide_eq_false c]
    exact (beq_eq_false_iff_ne.mpr c).symm
theorem bools_snoc (f : Nat → Bool) (i : Nat) : ((List.range (i + 1)).map f).map V.bl = ((List.range i).map f).map V.bl ++ [V.bl (f i)] := by
  rw [List.range_succ, List.map_append, List.map_append]
  rfl
section
variable {P : Program} {w : World} {K : PySem.W.Frag} {mg : Str → Option Value} {base : Heap}
theorem ok_apart {f : Addr} {fd : FuncData} (B : Bt mg) (F : Fun K "all_apart" "all_apart" sAllApart f fd) : FnOk P w K mg base CX0 1 f fd ["ring"] (spApart K) := by
  refine F.ok scApart (fun vs H Q E h => ?_) (fun cdv A outer s H vs Q E hr h => ?_)
  · obtain ⟨a, r, rfl, _⟩ := h
    rfl
  obtain ⟨a, r, rfl, ht, ok, q⟩ := h
  refine ⟨_, pss_one (ps_ret (pe_cmpR op_le (pe_callB (GsR.cr_maxT rfl) (by rfl) B.max (by decide +kernel) (pa_cons (pv 0) pa_nil)) pe_int (nomark _))), ?_⟩
  refine ⟨_, rfl, a, ni r, rfl, SqT.of ht, by rw [ni_len]; have := ok.lo; omega, fun m hm hle => ⟨_, _, rfl, rfl, ?_⟩⟩
  obtain ⟨x, hx, rfl⟩ := List.mem_map.mp hm
  have e : x = Gs.most r := Gs.most_uniq hx fun y hy => by
    have := hle (y : Int) (List.mem_map.mpr ⟨y, hy, rfl⟩)
    omega
  rw [ok.apart] at q
  have e2 : decide ((x : Int) ≤ 1) = decide (Gs.most r ≤ 1) := decide_eq_decide.mpr (by omega)
  dsimp only
  rw [e2]
  exact q
theorem ok_own_turn {f : Addr} {fd : FuncData} (B : Bt mg) (F : Fun K "is_own_turning" "is_own_turning" sOwnTurn f fd) (dT : Def P w K mg base 1 "turned" (spTurned K)) : FnOk P w K mg base CX0 2 f fd ["ring"] (spOwnTurn K) := by
  refine F.ok scOwnTurn (fun vs H Q E h => ?_) (fun cdv A outer s H vs Q E hr h => ?_)
  · obtain ⟨a, r, rfl, _⟩ := h
    rfl
  obtain ⟨a, r, rfl, ht, ok, q⟩ := h
  have h3 := ok.lo
  have h7 := ok.hi
  refine ⟨_, pss_one (ps_ret (pe_callB (cr_any rfl) (by rfl) B.any (by decide +kernel) (pa_cons (pe_lc (own := [("place", 1)]) (g := gName 1) (tt := tYes) (te := tOp (rEqD K) (tCall (spTurned K) [] E0 (tCons (tVar 0) (tCons (tVar 1) tNil))) (tVar 0)) rfl scOwnTurn.nd (pi_range2 rfl B.range (pa_cons pe_int (pa_cons (pe_callB call_len_seq (by rfl) B.len PySem.boot_len (pa_cons (pv 0) pa_nil)) pa_nil)))
    (blkOk_by (own := [("place", 1)]) (N := ["ring", "place"]) (sc := defScope sOwnTurn) (by decide +kernel)) (fun _ _ _ _ _ => pg_name (i := 1) scOwnTurn.nd rfl (Or.inl rfl)) (fun _ _ _ _ _ => pts_nil) (fun _ _ _ _ _ => pe_cmpR (op_eqD hr.units) (pe_def dT hr (by decide) (by rfl) (pa_cons (pv 0) (pa_cons (pv 1) pa_nil))) (pv 0) (nomark _))) pa_nil))), ?_⟩
  refine ⟨_, rfl, a, _, rfl, .inr (SqT.of ht), ?_⟩
  rw [tv_len]
  refine ⟨1, (r.length : Int), rfl, ⟨by decide, by decide, by omega, by omega⟩, fun D nD => ?_⟩
  have en : ((r.length : Int) - 1).toNat = r.length - 1 := by omega
  rw [en]
  refine comp_it (walk_range (lo := 1) (n := r.length - 1)) nD (by rw [sizeLine_eq]; omega) (fun i ys _ => ys = (((List.range i).map fun i => Km534.from_ r (1 + i) == r)).map V.bl) (fun _ _ => trivial) rfl (fun _ _ _ _ _ _ _ z => z) (fun i x ys H1 H2 hi s1 hD g y R R' done _ => ?_) fun ys H1 s1 hD hy g => ?_
  · obtain ⟨rfl, rfl⟩ := y
    refine ⟨rfl, _, rfl, _, rfl, a, r, 1 + i, ?_, same_tup s1 ht, by omega, by omega, fun H3 b s3 t3 => ?_⟩
    · show [V.ref a, V.int (1 + (i : Int))] = [V.ref a, V.int ((1 + i : Nat) : Int)]
      rw [show ((1 + i : Nat) : Int) = 1 + (i : Int) by omega]
    · refine ⟨_, rfl, dt (Km534.from_ r (1 + i)), dt r, dp_tup t3, dp_tup (same_tup (s1.trans s3) ht), dt_shaped _, dt_shaped _, ?_⟩
      rw [eqv_dt, beq_dec]
      refine done _ _ s3 ?_
      rw [g, bools_snoc]
  · refine ⟨D, (List.range (r.length - 1)).map fun i => Km534.from_ r (1 + i) == r, rfl, SqL.of (by rw [hD, g]), q H1 s1⟩
theorem ok_leaves {f : Addr} {fd : FuncData} (B : Bt mg) (F : Fun K "leaves_a_place" "leaves_a_place" sLeaves f fd) : FnOk P w K mg base CX0 1 f fd ["places", "place"] spLeaves := by
  refine F.ok scLeaves (fun vs H Q E h => ?_) (fun cdv A outer s H vs Q E hr h => ?_)
  · obtain ⟨n, p, rfl, _⟩ := h
    rfl
  obtain ⟨n, p, rfl, h0, hn, q⟩ := h
  refine ⟨_, pss_one (ps_ret (pe_callB (cr_any rfl) (by rfl) B.any (by decide +kernel) (pa_cons (pe_lc (own := [("here", 2)]) (g := gName 2) (tt := tYes) (te := tOp rEq (tOp (rI (fun _ j => j ≠ 0) fun i j => .int (i.fmod j)) (tOp (rI0 fun i j => .int (i - j)) (tVar 1) (tVar 2)) (tVar 0)) (tVar 2)) rfl scLeaves.nd (pi_range1 rfl B.range (pa_cons (pv 0) pa_nil))
    (blkOk_by (own := [("here", 2)]) (N := ["places", "place", "here"]) (sc := defScope sLeaves) (by decide +kernel)) (fun _ _ _ _ _ => pg_name (i := 2) scLeaves.nd rfl (Or.inl rfl)) (fun _ _ _ _ _ => pts_nil) (fun _ _ _ _ _ => pe_cmpR op_eq (pe_op op_modN (pe_op op_sub (pv 1) (pv 2)) (pv 0)) (pv 2) (nomark _))) pa_nil))), ?_⟩
  refine ⟨_, rfl, (n : Int), rfl, by omega, by omega, fun D nD => ?_⟩
  rw [Int.toNat_natCast]
  refine comp_it (walk_range (lo := 0) (n := n)) nD (by rw [sizeLine_eq]; omega) (fun i ys _ => ys = (((List.range i).map fun i => (p + (n - i)) % n == i)).map V.bl) (fun _ _ => trivial) rfl (fun _ _ _ _ _ _ _ z => z) (fun i x ys H1 H2 hi s1 hD g y R R' done _ => ?_) fun ys H1 s1 hD hy g => ?_
  · obtain ⟨rfl, rfl⟩ := y
    refine ⟨rfl, _, rfl, _, rfl, _, _, rfl, rfl, _, rfl, _, _, rfl, rfl, (by omega), _, rfl, rfl, ?_⟩
    have e : decide (V.int (Int.fmod ((p : Int) - (0 + (i : Int))) (n : Int)) = V.int (0 + (i : Int))) = ((p + (n - i)) % n == i) := by
      rw [dec_int, mod_at hi, Int.zero_add]
      by_cases c : (p + (n - i)) % n = i
      · rw [c, beq_self_eq_true]
        simp
      · rw [beq_eq_false_iff_ne.mpr c]
        exact decide_eq_false (by omega)
    show R (V.bl (decide (V.int (Int.fmod ((p : Int) - (0 + (i : Int))) (n : Int)) = V.int (0 + (i : Int))))) H2
    rw [e]
    refine done _ _ (Same.refl _) ?_
    rw [g, bools_snoc]
  · refine ⟨D, (List.range n).map fun i => (p + (n - i)) % n == i, rfl, SqL.of (by rw [hD, g]), q H1 s1⟩
theorem ok_own_mirror {f : Addr} {fd : FuncData} (B : Bt mg) (F : Fun K "is_own_mirror_between" "is_own_mirror_between" sOwnMirror f fd) (dM : Def P w K mg base 1 "mirrored" (spMirrored K)) (dL : Def P w K mg base 1 "leaves_a_place" spLeaves) : FnOk P w K mg base CX0 2 f fd ["ring"] (spOwnMirror K) := by
  refine F.ok scOwnMirror (fun vs H Q E h => ?_) (fun cdv A outer s H vs Q E hr h => ?_)
  · obtain ⟨a, r, rfl, _⟩ := h
    rfl
  obtain ⟨a, r, rfl, ht, ok, q⟩ := h
  have h3 := ok.lo
  have h7 := ok.hi
  refine ⟨_, pss_cons (ps_set (i := 1) scOwnMirror.nd rfl (Or.inr rfl) (pe_callB call_len_seq (by rfl) B.len PySem.boot_len (pa_cons (pv 0) pa_nil)))
    (pss_cons (ps_setLc (i := 2) (own := [("place", 3)]) (g := gName 3) (tt := tNot (tB (tCall spLeaves [] E0 (tCons (tVar 1) (tCons (tVar 3) tNil))))) (te := tVar 3) rfl scOwnMirror.nd rfl rfl (sw_true rfl rfl rfl (by decide +kernel)) (pi_range1 rfl B.range (pa_cons (pv 1) pa_nil))
      (blkOk_by (own := [("place", 3)]) (N := nOwnMirror) (sc := defScope sOwnMirror) (by decide +kernel)) (fun _ _ _ _ _ => pg_name (i := 3) scOwnMirror.nd rfl (Or.inl rfl)) (fun _ _ _ _ _ => pts_one (pt_not (pt_val (pe_def dL hr (by decide) (by rfl) (pa_cons (pv 1) (pa_cons (pv 3) pa_nil)))))) (fun _ _ _ _ _ => pv 3))
    (pss_one (ps_ret (pe_callB (cr_any rfl) (by rfl) B.any (by decide +kernel) (pa_cons (pe_lc (own := [("place", 3)]) (g := gName 3) (tt := tYes) (te := tOp (rEqD K) (tCall (spMirrored K) [] E0 (tCons (tVar 0) (tCons (tVar 3) tNil))) (tVar 0)) rfl scOwnMirror.nd (pi_list (pv 2))
      (blkOk_by (own := [("place", 3)]) (N := nOwnMirror) (sc := defScope sOwnMirror) (by decide +kernel)) (fun _ _ _ _ _ => pg_name (i := 3) scOwnMirror.nd rfl (Or.inl rfl)) (fun _ _ _ _ _ => pts_nil) (fun _ _ _ _ _ => pe_cmpR (op_eqD hr.units) (pe_def dM hr (by decide) (by rfl) (pa_cons (pv 0) (pa_cons (pv 3) pa_nil))) (pv 0) (nomark _))) pa_nil))))), ?_⟩
  refine ⟨_, rfl, a, _, rfl, .inr (SqT.of ht), ?_⟩
  rw [tv_len]
  refine ⟨_, rfl, (r.length : Int), rfl, by omega, by omega, fun D nD => ?_⟩
  rw [Int.toNat_natCast]
  refine comp_it (walk_range (lo := 0) (n := r.length)) nD (by rw [sizeLine_eq]; omega) (fun i ys _ => ys = tv ((List.range i).filter fun p => !Gs.leaves r.length p)) (fun _ _ => trivial) rfl (fun _ _ _ _ _ _ _ z => z) (fun i x ys H1 H2 hi s1 hD g y R R' done skip => ?_) fun ys H1 s1 hD hy g => ?_
  · obtain ⟨rfl, rfl⟩ := y
    refine ⟨rfl, _, rfl, _, rfl, r.length, i, ?_, by omega, by omega, fun H3 s3 => ⟨_, rfl, ?_⟩⟩
    · show [V.int (r.length : Int), V.int (0 + (i : Int))] = _
      rw [Int.zero_add]
    cases c : Gs.leaves r.length i with
    | true =>
      refine skip _ s3 ?_
      rw [g, List.range_succ, List.filter_append, List.filter_cons_of_neg (by rw [c]; decide)]
      simp
    | false =>
      refine ⟨_, rfl, done _ _ s3 ?_⟩
      rw [g, List.range_succ, List.filter_append, List.filter_cons_of_pos (by rw [c]; rfl), tv_app]
      dsimp only
      rw [Int.zero_add]
      rfl
  · generalize hN : ((List.range r.length).filter fun p => !Gs.leaves r.length p) = N at g
    have lN : ∀ p ∈ N, p < r.length := fun p hp => by
      rw [← hN] at hp
      exact List.mem_range.mp (List.mem_filter.mp hp).1
    have lenN : N.length ≤ r.length := by
      rw [← hN]
      exact Nat.le_trans (List.length_filter_le _ _) (by simp)
    refine ⟨_, rfl, D, rfl, ⟨_, SqL.of hD⟩, fun D2 nD2 => ?_⟩
    rw [g] at hD
    refine comp_it (walk_list (K := K) (a := D) (xs := tv N)) nD2 (by rw [tv_len, sizeLine_eq]; omega) (fun i ys _ => ys = (((N.take i).map fun p => Km534.back r p == r)).map V.bl) (fun H2 s2 => SqL.of (s2 D _ hD)) rfl (fun _ _ _ _ _ _ _ z => z) (fun i x ys H3 H2 hi s3 hD3 g3 y R R' done _ => ?_) fun ys H3 s3 hD3 hy3 g3 => ?_
    · obtain ⟨rfl, hx⟩ := y
      rw [tv_get] at hx
      obtain ⟨p, ep, rfl⟩ := Option.map_eq_some_iff.mp hx
      refine ⟨rfl, _, rfl, _, rfl, a, r, p, rfl, same_tup (s1.trans s3) ht, lN p (List.mem_of_getElem? ep), by omega, fun H4 b s4 t4 => ?_⟩
      refine ⟨_, rfl, dt (Km534.back r p), dt r, dp_tup t4, dp_tup (same_tup ((s1.trans s3).trans s4) ht), dt_shaped _, dt_shaped _, ?_⟩
      rw [eqv_dt, beq_dec]
      refine done _ _ s4 ?_
      rw [g3, GsR.took ep, List.map_append, List.map_append]
      rfl
    · rw [tv_len, List.take_length] at g3
      refine ⟨D2, N.map fun p => Km534.back r p == r, rfl, SqL.of (by rw [hD3, g3]), ?_⟩
      have := q H3 (s1.trans s3)
      unfold Gs.ownMirror at this
      rw [hN] at this
      exact this
end
end Gp
namespace Gp
open PySem PySem.Spec PyProof.Rows L2
/-! ### first_unsure -/
def firstR (F : List (List Nat × Nat)) (N : List Row) : Option Row := N.find? fun q => !(look F q.2).isSome
def rowV : Option Row → V
  | none => .non
  | some q => .ref q.1
def spFirst (K : PySem.W.Frag) : Sp := fun vs H Q _ => ∃ (p d : Addr) (N : List Row) (F : List (List Nat × Nat)), vs = [.ref p, .ref d] ∧ H p = some (.lst (refs N)) ∧ Rws K H N ∧ RuleAt H d F ∧ Q (rowV (firstR F N)) H
theorem scFirst : FnScope ["names", "longest", "name"] ["names", "longest"] (defScope sFirst) := ⟨rfl, rfl, rfl, by decide +kernel, rfl, by decide +kernel, by decide +kernel⟩
/-- the i-th of a list of rows -/
theorem row_at {N : List Row} {i : Nat} {x : V} (h : (refs N)[i]? = some x) : ∃ z, N[i]? = some z ∧ x = V.ref z.1 := by
  rw [List.getElem?_map] at h
  obtain ⟨z, e1, e2⟩ := Option.map_eq_some_iff.mp h
  exact ⟨z, e1, e2.symm⟩
section
variable {P : Program} {w : World} {K : PySem.W.Frag} {mg : Str → Option Value} {base : Heap}
theorem ok_first {f : Addr} {fd : FuncData} (F : Fun K "first_unsure" "first_unsure" sFirst f fd) : FnOk P w K mg base CX0 1 f fd ["names", "longest"] (spFirst K) := by
  refine F.ok scFirst (fun vs H Q E h => ?_) (fun cdv A outer s H vs Q E hr h => ?_)
  · obtain ⟨p, d, N, Fl, rfl, _⟩ := h
    rfl
  obtain ⟨p, d, N, Fl, rfl, hp, hN, hd, k⟩ := h
  refine ⟨_, pss_cons (ps_for PassesOwn.never rfl (pi_list (pv 0)) (pg_name (i := 2) scFirst.nd rfl (Or.inl rfl)) (pss_one (ps_if (pt_cmp (pc_dnotin (hu_of hr) (pv 2) (pv 1))) (pss_one (ps_ret (pv 2))) pss_nil))) (pss_one (ps_ret pe_non)), ?_⟩
  refine ⟨_, rfl, p, rfl, ⟨_, SqL.of hp⟩, ?_⟩
  refine for_it (walk_list (K := K) (a := p) (xs := refs N)) (fun j σ H1 => H1 = H ∧ (∃ v, σ = [some (.ref p), some (.ref d), v]) ∧ (N.take j).find? (fun q => !(look Fl q.2).isSome) = none) ⟨rfl, ⟨none, rfl⟩, rfl⟩ (fun j σ H1 _ i => by rw [i.1]; exact SqL.of hp) ?_ ?_
  · rintro j x σ H1 H2 hj ⟨rfl, ⟨v, rfl⟩, no⟩ ⟨rfl, hx⟩
    obtain ⟨z, ez, rfl⟩ := row_at hx
    refine ⟨_, rfl, _, rfl, d, _, rfl, get_rule (K := K) hd (hN z (List.mem_of_getElem? ez)), _, rfl, ?_⟩
    rw [Option.isSome_map]
    cases c : look Fl z.2 with
    | some n =>
      refine ⟨rfl, ⟨_, rfl⟩, ?_⟩
      rw [GsR.took ez, List.find?_append, no]
      simp [c]
    | none =>
      refine ⟨_, rfl, ?_⟩
      have e : firstR Fl N = some z := by
        unfold firstR
        have e2 : N = N.take j ++ N.drop j := (List.take_append_drop ..).symm
        have hj2 : j < N.length := (List.getElem?_eq_some_iff.mp ez).1
        have e3 : N.drop j = z :: N.drop (j + 1) := by
          rw [List.drop_eq_getElem_cons hj2]
          congr 1
          have := List.getElem?_eq_getElem hj2
          rw [ez] at this
          exact (Option.some.inj this).symm
        rw [e2, List.find?_append, no, e3, List.find?_cons_of_pos (by rw [c]; rfl)]
        rfl
      rw [e] at k
      exact k
  · rintro σ H1 ⟨rfl, ⟨v, rfl⟩, no⟩
    rw [List.length_map, List.take_length] at no
    have e : firstR Fl N = none := no
    rw [e] at k
    exact k
end
/-! ### not_met -/
def mkv (M : List (List Nat)) : List (List L2.Key × V) := M.map fun x => (kk x, V.bl true)
theorem mkv_len (M : List (List Nat)) : (mkv M).length = M.length := List.length_map _
theorem val_mkv (x : List Nat) : ∀ M : List (List Nat), (valV (mkv M) (kk x)).isSome = M.contains x
  | [] => rfl
  | y :: M => by
    have e : mkv (y :: M) = (kk y, V.bl true) :: mkv M := rfl
    rw [e, List.contains_cons]
    by_cases c : y = x
    · rw [valV_pos (by rw [c]), c, beq_self_eq_true]
      rfl
    · rw [valV_neg fun z => c (kk_inj z), val_mkv x M, beq_eq_false_iff_ne.mpr fun z => c z.symm]
      rfl
theorem put_mkv {M : List (List Nat)} {x : List Nat} (h : x ∉ M) : putK (mkv M) (kk x) (V.bl true) = mkv (M ++ [x]) := by
  unfold putK
  rw [if_neg]
  · rw [mkv, mkv, List.map_append]; rfl
  · intro z
    obtain ⟨y, hy, e⟩ := List.any_eq_true.mp z
    obtain ⟨q, hq, rfl⟩ := List.mem_map.mp hy
    have e2 := kk_inj (of_decide_eq_true e)
    rw [e2] at hq
    exact h hq
theorem get_met {K : PySem.W.Frag} {H : Hp} {e b : Addr} {M : List (List Nat)} {x : List Nat} (he : H e = some (.dT (mkv M))) (tb : Tp K H b x) : DGet H e (.ref b) (valV (mkv M) (kk x)) := .inr ⟨mkv M, kk x, b, .inl he, rfl, by rw [kk_tv]; exact tb, rfl⟩
theorem dget_but {H H' : Hp} {f a e : Addr} {o : Option V} {u : List (List L2.Key × V)} (g : DGet H f (.ref a) o) (he : H e = some (.dT u)) (b : But e H H') (ne : f ≠ e) : DGet H' f (.ref a) o := by
  have rd : ∀ {v : HO}, Rd H f v → Rd H' f v := fun h => by
    rcases h with h | ⟨q, h⟩
    · exact .inl (b _ _ ne h)
    · exact .inr ⟨q, b _ _ ne h⟩
  rcases g with ⟨kv, k0, h1, h2, h3⟩ | ⟨kv, k0, b0, h1, h2, h3, h4⟩
  · exact .inl ⟨kv, k0, rd h1, h2, h3⟩
  · exact .inr ⟨kv, k0, b0, rd h1, h2, b.lst he h3 (fun _ z => by cases z), h4⟩
def spNotMet (K : PySem.W.Frag) : Sp := fun vs H Q _ => ∃ (p f e : Addr) (N : List Row) (M : List (List Nat)) (dk : Km535.Desk) (m : Nat), vs = [.ref p, .ref f, .ref e] ∧ H p = some (.lst (refs N)) ∧ Rws K H N ∧ (∀ z ∈ N, z.2 ∈ Km536.allNames dk) ∧ Gs.DOk dk ∧ Fol K H f dk m ∧ f ≠ e ∧ H e = some (.dT (mkv M)) ∧ M.Nodup ∧ (∀ x ∈ M, x ∈ Km536.allNames dk) ∧
  ∀ H' c (F : List Row), But e H H' → H c = none → H' e = some (.dT (mkv (M ++ F.map (·.2)))) → H' c = some (.lst (refs F)) → Rws K H' F → (F.map (·.2)).Nodup → (∀ x, x ∈ F.map (·.2) ↔ (∃ y ∈ N.map (·.2), x ∈ Gs.nx dk m y) ∧ x ∉ M) → Q (.ref c) H'
abbrev nNotMet : List Str := ["names", "following", "met", "found", "name", "after"]
theorem scNotMet : FnScope nNotMet ["names", "following", "met"] (defScope sNotMet) := ⟨rfl, rfl, rfl, by decide +kernel, rfl, by decide +kernel, by decide +kernel⟩
/-- how far not_met is: S tells what was looked at -/
structure Met (K : PySem.W.Frag) (H H' : Hp) (e c : Addr) (dk : Km535.Desk) (M : List (List Nat)) (S : List Nat → Prop) (F : List Row) : Prop where
  but : But e H H'
  met : H' e = some (.dT (mkv (M ++ F.map (·.2))))
  lst : H' c = some (.lst (refs F))
  rws : Rws K H' F
  once : (M ++ F.map (·.2)).Nodup
  all : ∀ x ∈ M ++ F.map (·.2), x ∈ Km536.allNames dk
  mem : ∀ x, x ∈ F.map (·.2) ↔ S x ∧ x ∉ M
theorem Met.few {K : PySem.W.Frag} {H H' : Hp} {e c : Addr} {dk : Km535.Desk} {M : List (List Nat)} {S : List Nat → Prop} {F : List Row} (h : Met K H H' e c dk M S F) (ok : Gs.DOk dk) : (M ++ F.map (·.2)).length ≤ 20 := Nat.le_trans (Gs.nodup_le _ _ h.once h.all) (Gs.few_all ok)
theorem Met.to {K : PySem.W.Frag} {H H' : Hp} {e c : Addr} {dk : Km535.Desk} {M : List (List Nat)} {S S' : List Nat → Prop} {F : List Row} (h : Met K H H' e c dk M S F) (q : ∀ x, x ∉ M → (S x ↔ S' x)) : Met K H H' e c dk M S' F :=
  { h with mem := fun x => (h.mem x).trans ⟨fun z => ⟨(q x z.2).mp z.1, z.2⟩, fun z => ⟨(q x z.2).mpr z.1, z.2⟩⟩ }
section
variable {P : Program} {w : World} {K : PySem.W.Frag} {mg : Str → Option Value} {base : Heap}
theorem ok_not_met {f : Addr} {fd : FuncData} (F : Fun K "not_met" "not_met" sNotMet f fd) : FnOk P w K mg base CX0 1 f fd ["names", "following", "met"] (spNotMet K) := by
  refine F.ok scNotMet (fun vs H Q E h => ?_) (fun cdv A outer s H vs Q E hr h => ?_)
  · obtain ⟨p, g, e, N, M, dk, m, rfl, _⟩ := h
    rfl
  obtain ⟨p, g, e, N, M, dk, m, rfl, hp, hN, aN, ok, hf, ge, he, ndM, aM, k⟩ := h
  refine ⟨_, pss_cons (ps_set (i := 3) scNotMet.nd rfl (Or.inl rfl) (pe_lst pa_nil))
    (pss_cons (ps_for PassesOwn.never rfl (pi_list (pv 0)) (pg_name (i := 4) scNotMet.nd rfl (Or.inl rfl))
      (pss_one (ps_for PassesOwn.never rfl (pi_list (pe_dget (hu_of hr) (pv 1) (pv 4) (fun _ _ => rfl))) (pg_name (i := 5) scNotMet.nd rfl (Or.inl rfl))
        (pss_one (ps_if (pt_cmp (pc_dnotin (hu_of hr) (pv 5) (pv 2))) (pss_cons (ps_dput (hu_of hr) (pv 2) (pv 5) pe_bl rfl) (pss_one (ps_expr (pe_bm PySem.F.plainAttrs_list PySem.F.slot_list_append PySem.F.type_list_append mt_append (pv 3) (pa_cons (pv 5) pa_nil))))) pss_nil)))))
    (pss_one (ps_ret (pv 3)))), ?_⟩
  refine ⟨(by show 0 ≤ sizeLine; decide), fun c nc => ?_⟩
  have ce : c ≠ e := fun z => by rw [z, he] at nc; cases nc
  have ne : ∀ {b : Addr} {o : HO}, H b = some o → b ≠ c := fun h z => by rw [z, nc] at h; cases h
  have m0 : Met K H (upd H c (.lst [])) e c dk M (fun _ => False) [] := ⟨fun b o _ h => (upd_ne (ne h)).trans h, by rw [upd_ne (Ne.symm ce), he, List.map_nil, List.append_nil], upd_same, fun _ z => (by cases z), by rw [List.map_nil, List.append_nil]; exact ndM, by rw [List.map_nil, List.append_nil]; exact aM, fun x => ⟨fun z => (by cases z), fun z => z.1.elim⟩⟩
  refine ⟨_, rfl, p, rfl, ⟨_, SqL.of (m0.but.lst he hp (fun _ z => by cases z))⟩, ?_⟩
  refine for_it (walk_list (K := K) (a := p) (xs := refs N)) (fun j σ H1 => ∃ (L : List Row) (v4 v5 : Option V), σ = [some (.ref p), some (.ref g), some (.ref e), some (.ref c), v4, v5] ∧ Met K H H1 e c dk M (fun x => ∃ y ∈ (N.map (·.2)).take j, x ∈ Gs.nx dk m y) L)
    ⟨[], none, none, rfl, m0.to fun x _ => ⟨fun z => z.elim, fun ⟨y, hy, _⟩ => (by simp at hy)⟩⟩ (fun j σ H1 _ => fun ⟨L, _, _, _, i⟩ => SqL.of (i.but.lst he hp fun _ z => by cases z)) ?_ ?_
  · rintro j x σ H1' H1 hj ⟨L, v4, v5, rfl, i1⟩ ⟨rfl, hx⟩
    obtain ⟨z, ez, rfl⟩ := row_at hx
    have zN := List.mem_of_getElem? ez
    have zT : (N.map (·.2))[j]? = some z.2 := by rw [List.getElem?_map, ez]; rfl
    obtain ⟨q, N1, dg, hq, hN1, eN1, lN1, aN1⟩ := hf.get ok (aN z zN) (hN z zN)
    refine ⟨_, rfl, _, rfl, g, V.ref q, rfl, dget_but dg he i1.but ge, q, rfl, ⟨_, SqL.of (i1.but.lst he hq (fun _ z => by cases z))⟩, ?_⟩
    refine for_it (walk_list (K := K) (a := q) (xs := refs N1)) (fun i σ H2 => ∃ (L : List Row) (v5 : Option V), σ = [some (.ref p), some (.ref g), some (.ref e), some (.ref c), some (.ref z.1), v5] ∧ Met K H H2 e c dk M (fun x => (∃ y ∈ (N.map (·.2)).take j, x ∈ Gs.nx dk m y) ∨ x ∈ (N1.map (·.2)).take i) L)
      ⟨L, v5, rfl, i1.to fun x _ => ⟨.inl, fun y => y.elim id fun y => (by simp at y)⟩⟩ (fun i σ H2 _ => fun ⟨_, _, _, i⟩ => SqL.of (i.but.lst he hq fun _ z => by cases z)) ?_ ?_
    · rintro i x σ H2' H2 hi ⟨L2, v5, rfl, i2⟩ ⟨rfl, hx2⟩
      obtain ⟨u, eu, rfl⟩ := row_at hx2
      have uN := List.mem_of_getElem? eu
      have uT : (N1.map (·.2))[i]? = some u.2 := by rw [List.getElem?_map, eu]; rfl
      have tu : Tp K H2 u.1 u.2 := i2.but.lst he (hN1 u uN) (fun _ z => by cases z)
      refine ⟨_, rfl, _, rfl, e, _, rfl, get_met (K := K) i2.met tu, _, rfl, ?_⟩
      rw [val_mkv]
      have few := i2.few ok
      cases c0 : (M ++ L2.map (·.2)).contains u.2 with
      | true =>
        refine ⟨L2, some (.ref u.1), rfl, i2.but, i2.met, i2.lst, i2.rws, i2.once, i2.all, fun y => ?_⟩
        rw [i2.mem, GsR.took uT, List.mem_append, List.mem_singleton]
        have inn := List.mem_append.mp (List.contains_iff_mem.mp c0)
        constructor
        · rintro ⟨h1 | h1, h2⟩
          · exact ⟨.inl h1, h2⟩
          · exact ⟨.inr (.inl h1), h2⟩
        · rintro ⟨h1 | h1 | h1, h2⟩
          · exact ⟨.inl h1, h2⟩
          · exact ⟨.inr h1, h2⟩
          · subst h1
            rcases inn with y | y
            · exact (h2 y).elim
            · exact ((i2.mem _).mp y)
      | false =>
        have out : u.2 ∉ M ++ L2.map (·.2) := fun y => by rw [List.contains_iff_mem.mpr y] at c0; cases c0
        refine ⟨_, rfl, _, rfl, e, _, rfl, .inr ⟨mkv (M ++ L2.map (·.2)), kk u.2, u.1, i2.met, rfl, by rw [kk_tv]; exact tu, by rw [mkv_len, sizeLine_eq]; omega, rfl⟩, ?_⟩
        rw [put_mkv out]
        have b1 := But.put e H2 (.dT (mkv (M ++ L2.map (·.2) ++ [u.2])))
        have hc1 : (upd H2 e (.dT (mkv (M ++ L2.map (·.2) ++ [u.2])))) c = some (.lst (refs L2)) := (upd_ne ce).trans i2.lst
        refine ⟨_, rfl, .inl ⟨rfl, _, SqL.of hc1⟩, _, rfl, c, _, _, rfl, rfl, hc1, ?_, ?_⟩
        · rw [List.length_map, sizeLine_eq]
          rw [List.length_append, List.length_map] at few
          omega
        refine ⟨L2 ++ [u], some (.ref u.1), rfl, ?_, ?_, ?_, ?_, ?_, ?_, fun y => ?_⟩
        · intro b o hb h
          rw [upd_ne (ne h), upd_ne hb]
          exact i2.but b o hb h
        · rw [upd_ne (Ne.symm ce), upd_same, List.map_append, List.append_assoc]
          rfl
        · rw [upd_same, show refs (L2 ++ [u]) = refs L2 ++ [V.ref u.1] from (refs_snoc L2 u.1 u.2).symm]
        · intro r hr2
          have tr : Tp K H2 r.1 r.2 := by
            rcases List.mem_append.mp hr2 with y | y
            · exact i2.rws r y
            · rw [List.mem_singleton.mp y]; exact tu
          have r1 : r.1 ≠ c := fun y => by
            have t2 : H2 r.1 = _ := tr
            rw [y, i2.lst] at t2
            cases t2
          have r2 : r.1 ≠ e := fun y => by
            have t2 : H2 r.1 = _ := tr
            rw [y, i2.met] at t2
            cases t2
          show (upd _ _ _) _ = _
          rw [upd_ne r1, upd_ne r2]
          exact tr
        · rw [List.map_append, ← List.append_assoc]
          refine List.nodup_append.mpr ⟨i2.once, by simp, fun a ha b hb y => out ?_⟩
          have : b = u.2 := by simpa using hb
          rw [← this, ← y]
          exact ha
        · intro x hx3
          rw [List.map_append, ← List.append_assoc] at hx3
          rcases List.mem_append.mp hx3 with y | y
          · exact i2.all x y
          · have : x = u.2 := by simpa using y
            rw [this]
            exact aN1 u uN
        · rw [List.map_append, List.mem_append, i2.mem, GsR.took uT, List.mem_append]
          show _ ∨ y ∈ [u.2] ↔ _
          rw [List.mem_singleton]
          have oM : u.2 ∉ M := fun z => out (List.mem_append.mpr (.inl z))
          constructor
          · rintro (⟨h1 | h1, h2⟩ | h1)
            · exact ⟨.inl h1, h2⟩
            · exact ⟨.inr (.inl h1), h2⟩
            · exact ⟨.inr (.inr h1), by rw [h1]; exact oM⟩
          · rintro ⟨h1 | h1 | h1, h2⟩
            · exact .inl ⟨.inl h1, h2⟩
            · exact .inl ⟨.inr h1, h2⟩
            · exact .inr h1
    · rintro σ H2 ⟨L2, v5, rfl, i2⟩
      refine ⟨L2, _, v5, rfl, i2.to fun x _ => ?_⟩
      rw [List.length_map, ← List.length_map (f := fun q : Row => q.2), List.take_length, eN1, GsR.took zT]
      constructor
      · rintro (⟨y, hy, h2⟩ | h2)
        · exact ⟨y, List.mem_append.mpr (.inl hy), h2⟩
        · exact ⟨z.2, by simp, h2⟩
      · rintro ⟨y, hy, h2⟩
        rcases List.mem_append.mp hy with y1 | y1
        · exact .inl ⟨y, y1, h2⟩
        · rw [List.mem_singleton.mp y1] at h2
          exact .inr h2
  · rintro σ H1 ⟨L, v4, v5, rfl, i1⟩
    refine ⟨_, rfl, k H1 c L i1.but nc i1.met i1.lst i1.rws (List.nodup_append.mp i1.once).2.1 fun x => ?_⟩
    rw [i1.mem, List.length_map, ← List.length_map (f := fun q : Row => q.2), List.take_length]
end
end Gp
namespace Gp
open PySem PySem.Spec PyProof.Rows L2
/-! ### fewest_moves -/
def spFewest (K : PySem.W.Frag) : Sp := fun vs H Q _ => ∃ (a f : Addr) (x : List Nat) (dk : Km535.Desk) (m : Nat), vs = [.ref a, .ref f] ∧ Tp K H a x ∧ Gs.DOk dk ∧ x ∈ Km536.allNames dk ∧ Fol K H f dk m ∧ ∀ H' o, Same H H' → Gs.Soon dk m x o → Q (opt o) H'
abbrev nFewest : List Str := ["name", "following", "met", "names", "moves", "one"]
theorem scFewest : FnScope nFewest ["name", "following"] (defScope sFewest) := ⟨rfl, rfl, rfl, by decide +kernel, rfl, by decide +kernel, by decide +kernel⟩
section
variable {P : Program} {w : World} {K : PySem.W.Frag} {mg : Str → Option Value} {base : Heap}
theorem ok_fewest {f : Addr} {fd : FuncData} (B : Bt mg) (F : Fun K "fewest_moves" "fewest_moves" sFewest f fd) (dR : Def P w K mg base 2 "rests_together" (spRests K)) (dN : Def P w K mg base 1 "not_met" (spNotMet K)) : FnOk P w K mg base CX0 3 f fd ["name", "following"] (spFewest K) := by
  refine F.ok scFewest (fun vs H Q E h => ?_) (fun cdv A outer s H vs Q E hr h => ?_)
  · obtain ⟨a, g, x, dk, m, rfl, _⟩ := h
    rfl
  obtain ⟨a, g, x, dk, m, rfl, ht, ok, hxA, hf, k⟩ := h
  refine ⟨_, pss_cons (ps_set (i := 2) scFewest.nd rfl (Or.inl rfl) (GsR.pe_disp1T (hu_of hr) (pv 0) pe_bl))
    (pss_cons (ps_set (i := 3) scFewest.nd rfl (Or.inl rfl) (pe_lst (pa_cons (pv 0) pa_nil)))
    (pss_cons (ps_set (i := 4) scFewest.nd rfl (Or.inl rfl) pe_int)
    (pss_cons (ps_while PassesOwn.never (pt_cmpR op_gt (pe_callB call_len_seq (by rfl) B.len PySem.boot_len (pa_cons (pv 3) pa_nil)) pe_int (nomark _))
      (pss_cons (ps_if (pt_val (pe_callB (cr_any rfl) (by rfl) B.any (by decide +kernel) (pa_cons (pe_lc (own := [("one", 5)]) (g := gName 5) (tt := tYes) (te := tCall (spRests K) [] E0 (tCons (tVar 5) (tCons (tVar 1) tNil))) rfl scFewest.nd (pi_list (pv 3)) (blkOk_by (own := [("one", 5)]) (N := nFewest) (sc := defScope sFewest) (by decide +kernel))
        (fun _ _ _ _ _ => pg_name (i := 5) scFewest.nd rfl (Or.inl rfl)) (fun _ _ _ _ _ => pts_nil) (fun _ _ _ _ _ => pe_def dR hr (by decide) (by rfl) (pa_cons (pv 5) (pa_cons (pv 1) pa_nil)))) pa_nil))) (pss_one (ps_ret (pv 4))) pss_nil)
      (pss_cons (ps_set (i := 3) scFewest.nd rfl (Or.inl rfl) (pe_def dN hr (by decide) (by rfl) (pa_cons (pv 3) (pa_cons (pv 1) (pa_cons (pv 2) pa_nil)))))
      (pss_one (ps_aug (i := 4) scFewest.nd rfl (Or.inl rfl) pe_int ip_add)))))
    (pss_one (ps_ret pe_non))))), ?_⟩
  intro e ne
  have s0 := same_upd ne (o := .dT [])
  refine ⟨_, rfl, upd_same, a, kk x, rfl, by rw [kk_tv]; exact s0 _ _ ht, ?_⟩
  have hm1 : mkv [x] = [(kk x, V.bl true)] := rfl
  rw [← hm1]
  have s1 : Same H (upd (upd H e (.dT [])) e (.dT (mkv [x]))) := fun b o h => by
    have : b ≠ e := fun z => by rw [z, ne] at h; cases h
    rw [upd_ne this, upd_ne this]
    exact h
  have h1 : (upd (upd H e (.dT [])) e (.dT (mkv [x]))) e = some (.dT (mkv [x])) := upd_same
  generalize upd (upd H e (.dT [])) e (.dT (mkv [x])) = H1 at s1 h1
  refine ⟨_, rfl, (by show 1 ≤ sizeLine; decide), fun p np => ?_⟩
  have s2 := same_upd np (o := .lst [V.ref a])
  have ge : g ≠ e := fun z => by
    obtain ⟨L, l1, _⟩ := hf
    rcases l1 with l1 | ⟨o, l1⟩ <;> (rw [z, ne] at l1; cases l1)
  let W : Nat → L2.St → Hp → Prop := fun μ σ Hc => ∃ (q : Addr) (j : Nat) (N : List Row) (M : List (List Nat)) (v5 : Option V), σ = [some (.ref a), some (.ref g), some (.ref e), some (.ref q), some (.int (j : Int)), v5] ∧ Same H Hc ∧ Hc e = some (.dT (mkv M)) ∧ Hc q = some (.lst (refs N)) ∧ Rws K Hc N ∧ Gs.Bfs dk m x j (N.map (·.2)) M ∧ (N.map (·.2)).Nodup ∧
    μ = 2 * ((Km536.allNames dk).length - M.length) + (if N.length = 0 then 0 else 1)
  refine ⟨W, ⟨_, p, 0, [(a, x)], [x], none, rfl, s1.trans s2, s2 _ _ h1, upd_same, fun z hz => ?_, Gs.Bfs.start dk m x, by simp, rfl⟩, ?_⟩
  · rw [List.mem_singleton.mp hz]
    exact s2 _ _ (s1 _ _ ht)
  rintro μ σ Hc ⟨q, j, N, M, v5, rfl, sc, hM, hq, rN, bf, ndN, rfl⟩
  have aN : ∀ z ∈ N, z.2 ∈ Km536.allNames dk := fun z hz => bf.now_all ok hxA (List.mem_map.mpr ⟨z, hz, rfl⟩)
  have lenN : N.length ≤ 20 := by
    have := Nat.le_trans (Gs.nodup_le _ _ ndN fun y hy => bf.now_all ok hxA hy) (Gs.few_all ok)
    rw [List.length_map] at this
    exact this
  refine ⟨_, rfl, q, _, rfl, .inl (SqL.of hq), _, _, rfl, rfl, _, rfl, ?_⟩
  rw [List.length_map]
  by_cases c : N.length = 0
  · have eN := List.length_eq_zero_iff.mp c
    refine iteDF (by omega) ?_
    have b0 : Gs.Bfs dk m x j [] M := by
      rw [eN] at bf
      exact bf
    exact k Hc none sc b0.stop
  refine iteDT (by omega) ⟨fun σ' H' => ∃ μ', μ' < 2 * ((Km536.allNames dk).length - M.length) + (if N.length = 0 then 0 else 1) ∧ W μ' σ' H', fun σ' H' y => y, ?_⟩
  refine ⟨_, rfl, q, rfl, ⟨_, SqL.of hq⟩, fun D nD => ?_⟩
  refine comp_it (walk_list (K := K) (a := q) (xs := refs N)) nD (by rw [List.length_map, sizeLine_eq]; omega) (fun i ys _ => ys = (((N.map (·.2)).take i).map fun y => Km536.done dk y).map V.bl) (fun H2 s2 => SqL.of (s2 q _ hq)) rfl (fun _ _ _ _ _ _ _ z => z) (fun i v ys H2 H3 hi s2 hD g2 y R R' done _ => ?_) fun ys H2 s2 hD hy g2 => ?_
  · obtain ⟨rfl, hv⟩ := y
    obtain ⟨z, ez, rfl⟩ := row_at hv
    have zB : (N.map (·.2))[i]? = some z.2 := by rw [List.getElem?_map, ez]; rfl
    have zN := List.mem_of_getElem? ez
    refine ⟨rfl, _, rfl, _, rfl, z.1, g, z.2, dk, m, rfl, s2 _ _ (rN z zN), ok, aN z zN, hf.same (sc.trans s2), done _ _ (Same.refl _) ?_⟩
    rw [g2, GsR.took zB, List.map_append, List.map_append]
    rfl
  rw [List.length_map, ← List.length_map (f := fun q : Row => q.2), List.take_length] at g2
  refine ⟨D, (N.map (·.2)).map fun y => Km536.done dk y, rfl, SqL.of (by rw [hD, g2]), _, rfl, ?_⟩
  have sc2 := sc.trans s2
  cases cd : (((N.map (·.2)).map fun y => Km536.done dk y).any id) with
  | true =>
    rw [List.any_map] at cd
    obtain ⟨y, hy, ey⟩ := List.any_eq_true.mp cd
    exact ⟨_, rfl, k H2 (some j) sc2 (bf.hit hy ey)⟩
  | false =>
    have no : ∀ y ∈ N.map (·.2), Km536.done dk y = false := fun y hy => by
      cases ed : Km536.done dk y with
      | false => rfl
      | true =>
        have : (((N.map (·.2)).map fun y => Km536.done dk y).any id) = true := by
          rw [List.any_map]
          exact List.any_eq_true.mpr ⟨y, hy, ed⟩
        rw [cd] at this
        cases this
    have aM : ∀ y ∈ M, y ∈ Km536.allNames dk := fun y hy => by
      obtain ⟨i, _, wk⟩ := (bf.was y).mp hy
      exact wk.all ok hxA
    refine ⟨_, rfl, _, rfl, _, rfl, q, g, e, N, M, dk, m, rfl, s2 _ _ hq, rN.same s2, aN, ok, hf.same sc2, ge, s2 _ _ hM, bf.once, aM, fun H3 c3 L b3 n3 m3 l3 r3 nd3 me3 => ?_⟩
    have bf2 := bf.next no me3 nd3
    have few2 := bf2.few ok hxA
    have few1 := bf.few ok hxA
    refine ⟨_, rfl, _, _, rfl, rfl, ?_⟩
    refine ⟨_, ?_, c3, j + 1, L, M ++ L.map (·.2), v5, ?_, fun b o h => ?_, m3, l3, r3, bf2, nd3, rfl⟩
    · rw [if_neg c]
      rw [List.length_append, List.length_map] at few2 ⊢
      by_cases c4 : L.length = 0
      · rw [if_pos c4]
        omega
      · rw [if_neg c4]
        omega
    · rfl
    · have : b ≠ e := fun z => by rw [z, ne] at h; cases h
      exact b3 b o this (sc2 b o h)
end
end Gp
namespace Gp
open PySem PySem.Spec PyProof.Rows L2
/-! ### worst_of -/
def spWorstOf (K : PySem.W.Frag) : Sp := fun vs H Q _ => ∃ (p d : Addr) (N : List Row) (F : List (List Nat × Nat)), vs = [.ref p, .ref d] ∧ H p = some (.lst (refs N)) ∧ Rws K H N ∧ N.length ≤ 100 ∧ N ≠ [] ∧ RuleAt H d F ∧ (∀ x ∈ N.map (·.2), ∀ n, look F x = some n → n < 1000) ∧
  ∀ H' q, Same H H' → q ∈ N → Gs.firstTop (fun y => Gs.vOf (look F y)) (N.map (·.2)) = some q.2 → Q (.ref q.1) H'
abbrev nWorstOf : List Str := ["names", "longest", "unsure", "most", "name"]
theorem scWorstOf : FnScope nWorstOf ["names", "longest"] (defScope sWorstOf) := ⟨rfl, rfl, rfl, by decide +kernel, rfl, by decide +kernel, by decide +kernel⟩
section
variable {P : Program} {w : World} {K : PySem.W.Frag} {mg : Str → Option Value} {base : Heap}
theorem ok_worst_of {f : Addr} {fd : FuncData} (B : Bt mg) (F : Fun K "worst_of" "worst_of" sWorstOf f fd) (dF : Def P w K mg base 1 "first_unsure" (spFirst K)) : FnOk P w K mg base CX0 2 f fd ["names", "longest"] (spWorstOf K) := by
  refine F.ok scWorstOf (fun vs H Q E h => ?_) (fun cdv A outer s H vs Q E hr h => ?_)
  · obtain ⟨p, d, N, Fl, rfl, _⟩ := h
    rfl
  obtain ⟨p, d, N, Fl, rfl, hp, hN, lN, nN, hd, few, k⟩ := h
  refine ⟨_, pss_cons (ps_set (i := 2) scWorstOf.nd rfl (Or.inl rfl) (pe_def dF hr (by decide) (by rfl) (pa_cons (pv 0) (pa_cons (pv 1) pa_nil))))
    (pss_cons (ps_if (pt_cmpR op_notN (pv 2) pe_non (nomark _)) (pss_one (ps_ret (pv 2))) pss_nil)
    (pss_cons (ps_set (i := 3) scWorstOf.nd rfl (Or.inr rfl) (pe_callB (cr_max rfl) (by rfl) B.max (by decide +kernel) (pa_cons (pe_lc (own := [("name", 4)]) (g := gName 4) (tt := tYes) (te := tDGet (tVar 1) (tVar 4)) rfl scWorstOf.nd (pi_list (pv 0)) (blkOk_by (own := [("name", 4)]) (N := nWorstOf) (sc := defScope sWorstOf) (by decide +kernel))
        (fun _ _ _ _ _ => pg_name (i := 4) scWorstOf.nd rfl (Or.inl rfl)) (fun _ _ _ _ _ => pts_nil) (fun _ _ _ _ _ => pe_dget (hu_of hr) (pv 1) (pv 4) (fun _ _ => rfl))) pa_nil)))
    (pss_one (ps_ret (pe_ix (r := rIxL K) ix_list (pe_lc (own := [("name", 4)]) (g := gName 4) (tt := tTest (tOp rEq (tDGet (tVar 1) (tVar 4)) (tVar 3))) (te := tVar 4) rfl scWorstOf.nd (pi_list (pv 0)) (blkOk_by (own := [("name", 4)]) (N := nWorstOf) (sc := defScope sWorstOf) (by decide +kernel))
        (fun _ _ _ _ _ => pg_name (i := 4) scWorstOf.nd rfl (Or.inl rfl)) (fun _ _ _ _ _ => pts_one (pt_cmpR op_eq (pe_dget (hu_of hr) (pv 1) (pv 4) (fun _ _ => rfl)) (pv 3) (nomark _))) (fun _ _ _ _ _ => pv 4)) pe_int (fun _ _ => rfl)))))), ?_⟩
  refine ⟨_, rfl, _, rfl, p, d, N, Fl, rfl, hp, hN, hd, ?_⟩
  cases cu : firstR Fl N with
  | some q =>
    refine ⟨_, rfl, rfl, _, rfl, _, rfl, k H q (Same.refl H) (List.mem_of_find?_eq_some cu) ?_⟩
    have e : (N.map (·.2)).find? (fun y => !(look Fl y).isSome) = some q.2 := by
      rw [List.find?_map]
      have : N.find? ((fun y => !(look Fl y).isSome) ∘ fun m : Row => m.2) = some q := cu
      rw [this]
      rfl
    refine Gs.top_unsure (P := fun y => !(look Fl y).isSome) (fun x _ hx => ?_) (fun x hx h2 => ?_) e
    · cases el : look Fl x with
      | none => rfl
      | some n => rw [el] at hx; cases hx
    · cases el : look Fl x with
      | none => rw [el] at h2; cases h2
      | some n => exact few x hx n el
  | none =>
    have some_ : ∀ z ∈ N, ∃ n, look Fl z.2 = some n := fun z hz => by
      have := List.find?_eq_none.mp cu z hz
      cases el : look Fl z.2 with
      | none => rw [el] at this; exact (this rfl).elim
      | some n => exact ⟨n, rfl⟩
    refine ⟨_, rfl, rfl, _, rfl, ?_⟩
    refine ⟨_, rfl, p, rfl, ⟨_, SqL.of hp⟩, fun D nD => ?_⟩
    refine comp_it (walk_list (K := K) (a := p) (xs := refs N)) nD (by rw [List.length_map, sizeLine_eq]; omega) (fun i ys _ => ys = tv (((N.map (·.2)).take i).map fun y => (look Fl y).getD 0)) (fun H1 s1 => SqL.of (s1 p _ hp)) rfl (fun _ _ _ _ _ _ _ z => z) (fun i v ys H2 H3 hi s2 hD2 g2 y R R' done _ => ?_) fun ys H2 s2 hD2 hy2 g2 => ?_
    · obtain ⟨rfl, hx⟩ := y
      obtain ⟨z, ez, rfl⟩ := row_at hx
      have zB : (N.map (·.2))[i]? = some z.2 := by rw [List.getElem?_map, ez]; rfl
      obtain ⟨n, en⟩ := some_ z (List.mem_of_getElem? ez)
      have dg := get_rule (K := K) (s2 d _ hd) (same_tup s2 (hN z (List.mem_of_getElem? ez)))
      rw [en] at dg
      refine ⟨rfl, _, rfl, _, rfl, d, V.int (n : Int), rfl, dg, done _ _ (Same.refl _) ?_⟩
      rw [g2, GsR.took zB, List.map_append, tv_app]
      show _ ++ [V.int (n : Int)] = _ ++ tv [(look Fl z.2).getD 0]
      rw [en]
      rfl
    rw [List.length_map, ← List.length_map (f := fun q : Row => q.2), List.take_length] at g2
    refine ⟨D, ni ((N.map (·.2)).map fun y => (look Fl y).getD 0), rfl, SqL.of (by rw [hD2, g2]), by rw [ni_len, List.length_map, List.length_map]; exact List.length_pos_iff.mpr nN, fun t ht1 ht2 => ?_⟩
    obtain ⟨mx, hmx, rfl⟩ := List.mem_map.mp ht1
    have le : ∀ z ∈ N, (look Fl z.2).getD 0 ≤ mx := fun z hz => by
      have := ht2 (((look Fl z.2).getD 0 : Nat) : Int) (List.mem_map.mpr ⟨_, List.mem_map.mpr ⟨z.2, List.mem_map.mpr ⟨z, hz, rfl⟩, rfl⟩, rfl⟩)
      omega
    refine ⟨_, rfl, p, rfl, ⟨_, SqL.of (s2 p _ hp)⟩, fun D2 nD2 => ?_⟩
    refine comp_it (walk_list (K := K) (a := p) (xs := refs N)) nD2 (by rw [List.length_map, sizeLine_eq]; omega) (fun i ys _ => ys = refs ((N.take i).filter fun z => (look Fl z.2).getD 0 == mx)) (fun H3 s3 => SqL.of ((s2.trans s3) p _ hp)) rfl (fun _ _ _ _ _ _ _ z => z) (fun i v ys H3 H4 hi s3 hD3 g3 y R R' done skip => ?_) fun ys H3 s3 hD3 hy3 g3 => ?_
    · obtain ⟨rfl, hx⟩ := y
      obtain ⟨z, ez, rfl⟩ := row_at hx
      obtain ⟨n, en⟩ := some_ z (List.mem_of_getElem? ez)
      have s23 := s2.trans s3
      have dg := get_rule (K := K) (s23 d _ hd) (same_tup s23 (hN z (List.mem_of_getElem? ez)))
      rw [en] at dg
      refine ⟨rfl, _, rfl, _, rfl, d, V.int (n : Int), rfl, dg, _, rfl, rfl, _, rfl, ?_⟩
      rw [dec_int]
      by_cases c : n = mx
      · rw [decide_eq_true (by omega)]
        refine ⟨_, rfl, done _ _ (Same.refl _) ?_⟩
        rw [g3, GsR.took ez, List.filter_append, List.filter_cons_of_pos (by rw [en]; simpa using c)]
        exact refs_snoc _ z.1 z.2
      · rw [decide_eq_false (by omega)]
        refine skip _ (Same.refl _) ?_
        rw [g3, GsR.took ez, List.filter_append, List.filter_cons_of_neg (by rw [en]; simpa using c)]
        simp
    · rw [List.length_map, List.take_length] at g3
      have ne : (N.filter fun z => (look Fl z.2).getD 0 == mx) ≠ [] := by
        obtain ⟨y, hy, ey⟩ := List.mem_map.mp hmx
        obtain ⟨z, hz, rfl⟩ := List.mem_map.mp hy
        exact List.ne_nil_of_mem (List.mem_filter.mpr ⟨hz, by simpa using ey⟩)
      cases eF : (N.filter fun z => (look Fl z.2).getD 0 == mx) with
      | nil => exact (ne eF).elim
      | cons q L =>
        rw [eF] at g3
        have qN : q ∈ N := (List.mem_filter.mp (by rw [eF]; exact List.mem_cons_self)).1
        refine ⟨D2, refs (q :: L), (0 : Int), V.ref q.1, rfl, rfl, SqL.of (by rw [hD3, g3]), atI_nat (j := 0) rfl, k H3 q (s2.trans s3) qN ?_⟩
        have vo : ∀ y ∈ N.map (·.2), Gs.vOf (look Fl y) = (look Fl y).getD 0 := fun y hy => by
          obtain ⟨z, hz, rfl⟩ := List.mem_map.mp hy
          obtain ⟨n, en⟩ := some_ z hz
          rw [en]
          rfl
        refine Gs.top_most (m := mx) (fun y hy => ?_) ?_
        · rw [vo y hy]
          obtain ⟨z, hz, rfl⟩ := List.mem_map.mp hy
          exact le z hz
        · have e1 : ((N.map (·.2)).filter fun y => Gs.vOf (look Fl y) == mx) = (N.filter fun z => (look Fl z.2).getD 0 == mx).map (·.2) := by
            rw [List.filter_map]
            congr 1
            refine List.filter_congr fun z hz => ?_
            show (Gs.vOf (look Fl z.2) == mx) = _
            rw [vo z.2 (List.mem_map.mpr ⟨z, hz, rfl⟩)]
          rw [e1, eF]
          rfl
end
/-! ### bad_play -/
def spBadPlay (K : PySem.W.Frag) : Sp := fun vs H Q _ => ∃ (a f d : Addr) (l : List Nat) (F : List (List Nat × Nat)) (dk : Km535.Desk) (m : Nat), vs = [.ref a, .ref f, .ref d] ∧ Tp K H a (Km534.name l) ∧ Gs.DOk dk ∧ Km534.name l ∈ Km536.allNames dk ∧ Fol K H f dk m ∧ RuleAt H d F ∧ (∀ x ∈ Km536.allNames dk, look F x = Km536.longest dk m x) ∧
  ∀ H' c (N : List Row), Same H H' → H' c = some (.lst (refs N)) → Rws K H' N → N.map (·.2) = Km536.bad dk m l → N.length ≤ 21 → (∀ z ∈ N, z.2 ∈ Km536.allNames dk) → Q (.ref c) H'
abbrev nBadPlay : List Str := ["name", "following", "longest", "play", "after"]
theorem scBadPlay : FnScope nBadPlay ["name", "following", "longest"] (defScope sBadPlay) := ⟨rfl, rfl, rfl, by decide +kernel, rfl, by decide +kernel, by decide +kernel⟩
/-- the first that isn't sure, as first_unsure finds it -/
theorem first_nb {dk : Km535.Desk} {m : Nat} {x : List Nat} {N : List Row} {F : List (List Nat × Nat)} (eN : N.map (·.2) = Gs.nx dk m x) (aN : ∀ z ∈ N, z.2 ∈ Km536.allNames dk) (hl : ∀ x ∈ Km536.allNames dk, look F x = Km536.longest dk m x) : (firstR F N).map (·.2) = Gs.nb dk m x := by
  unfold Gs.nb firstR
  rw [← eN, List.find?_map]
  congr 1
  have : ∀ L : List Row, (∀ z ∈ L, z.2 ∈ Km536.allNames dk) → (L.find? fun q => !(look F q.2).isSome) = L.find? ((fun x => !Km536.sure dk m x) ∘ fun m : Row => m.2) := by
    intro L
    induction L with
    | nil => intro _; rfl
    | cons z L ih =>
      intro h
      have e : (!(look F z.2).isSome) = ((fun x => !Km536.sure dk m x) ∘ fun m : Row => m.2) z := by
        rw [hl _ (h z List.mem_cons_self)]
        rfl
      cases c : !(look F z.2).isSome with
      | true => rw [List.find?_cons_of_pos (by rw [c]), List.find?_cons_of_pos (by rw [← e, c])]
      | false => rw [List.find?_cons_of_neg (by rw [c]; decide), List.find?_cons_of_neg (by rw [← e, c]; decide), ih fun q hq => h q (List.mem_cons_of_mem _ hq)]
  exact this N aN
theorem any_rows (N : List Row) (x : List Nat) : ((N.map fun m => dt m.2).any fun z => PyData.eqv z (dt x)) = (N.map (·.2)).contains x := by
  induction N with
  | nil => rfl
  | cons q N ih =>
    rw [List.map_cons, List.any_cons, ih, List.map_cons, List.contains_cons, eqv_dt, beq_dec]
    congr 1
    by_cases c : q.2 = x
    · rw [c]
    · rw [beq_eq_false_iff_ne.mpr c, beq_eq_false_iff_ne.mpr fun z => c z.symm]
end Gp
namespace Gp
open PySem PySem.Spec PyProof.Rows L2
section
variable {P : Program} {w : World} {K : PySem.W.Frag} {mg : Str → Option Value} {base : Heap}
theorem ok_bad_play {f : Addr} {fd : FuncData} (F : Fun K "bad_play" "bad_play" sBadPlay f fd) (dF : Def P w K mg base 1 "first_unsure" (spFirst K)) : FnOk P w K mg base CX0 2 f fd ["name", "following", "longest"] (spBadPlay K) := by
  refine F.ok scBadPlay (fun vs H Q E h => ?_) (fun cdv A outer s H vs Q E hr h => ?_)
  · obtain ⟨a, g, d, l, Fl, dk, m, rfl, _⟩ := h
    rfl
  obtain ⟨a, g, d, l, Fl, dk, m, rfl, ht, ok, hlA, hf, hd, hl, k⟩ := h
  refine ⟨_, pss_cons (ps_set (i := 3) scBadPlay.nd rfl (Or.inl rfl) (pe_lst (pa_cons (pv 0) pa_nil)))
    (pss_cons (ps_set (i := 4) scBadPlay.nd rfl (Or.inl rfl) (pe_def dF hr (by decide) (by rfl) (pa_cons (pe_dget (hu_of hr) (pv 1) (pv 0) (fun _ _ => rfl)) (pa_cons (pv 2) pa_nil))))
    (pss_cons (ps_while PassesOwn.never (PW.pt (pw_and (pt_cmpR op_notN (pv 4) pe_non (nomark _)) (pw_and1 (pt_cmpR (op_notInD (hu65 hr)) (pv 4) (pv 3) (by rfl)))))
      (pss_cons (ps_expr (pe_bm PySem.F.plainAttrs_list PySem.F.slot_list_append PySem.F.type_list_append mt_append (pv 3) (pa_cons (pv 4) pa_nil)))
      (pss_one (ps_set (i := 4) scBadPlay.nd rfl (Or.inl rfl) (pe_def dF hr (by decide) (by rfl) (pa_cons (pe_dget (hu_of hr) (pv 1) (pv 4) (fun _ _ => rfl)) (pa_cons (pv 2) pa_nil)))))))
    (pss_one (ps_ret (pe_ifExp (pt_cmpR op_isN (pv 4) pe_non (nomark _)) (pv 3) (pe_op op_cat (pv 3) (pe_lst (pa_cons (pv 4) pa_nil)))))))), ?_⟩
  refine ⟨_, rfl, (by show 1 ≤ sizeLine; decide), fun c nc => ?_⟩
  have s1 := same_upd nc (o := .lst [V.ref a])
  -- what first_unsure gives of the names behind a row
  have step : ∀ {H1 : Hp} {b : Addr} {x : List Nat}, Same H H1 → H b = some (.tup (tv x)) → x ∈ Km536.allNames dk → ∃ (q : Addr) (N : List Row), DGet H1 g (.ref b) (some (.ref q)) ∧ H1 q = some (.lst (refs N)) ∧ Rws K H1 N ∧ (firstR Fl N).map (·.2) = Gs.nb dk m x ∧ (∀ z ∈ N, H z.1 = some (.tup (tv z.2)) ∧ z.2 ∈ Km536.allNames dk) := fun {H1 b x} e hb hx => by
    obtain ⟨q, N, dg, hq, hN, eN, lN, aN⟩ := hf.get ok hx (K := K) (show Tp K H b x from hb)
    refine ⟨q, N, ?_, e _ _ hq, hN.same e, first_nb eN aN hl, fun z hz => ⟨hN z hz, aN z hz⟩⟩
    rcases dg with ⟨kv, k0, h1, h2, h3⟩ | ⟨kv, k0, b0, h1, h2, h3, h4⟩
    · exact .inl ⟨kv, k0, same_rd e h1, h2, h3⟩
    · exact .inr ⟨kv, k0, b0, same_rd e h1, h2, e _ _ h3, h4⟩
  let W : Nat → L2.St → Hp → Prop := fun μ σ Hc => ∃ (N : List Row) (r : Row) (o : Option Row), σ = [some (.ref a), some (.ref g), some (.ref d), some (.ref c), some (rowV o)] ∧ Same H Hc ∧ Hc c = some (.lst (refs (N ++ [r]))) ∧ Rws K H (N ++ [r]) ∧ Gs.Bad dk m l (N.map (·.2) ++ [r.2]) ∧ o.map (·.2) = Gs.nb dk m r.2 ∧ (∀ z, o = some z → H z.1 = some (.tup (tv z.2)) ∧ z.2 ∈ Km536.allNames dk) ∧ μ = 21 - (N.length + 1)
  obtain ⟨q0, N0, dg0, hq0, hN0, fn0, al0⟩ := step s1 ht hlA
  refine ⟨_, rfl, _, rfl, g, V.ref q0, rfl, dg0, _, rfl, q0, d, N0, Fl, rfl, hq0, hN0, s1 _ _ hd, ?_⟩
  refine ⟨W, ⟨_, [], (a, Km534.name l), firstR Fl N0, rfl, s1, upd_same, fun z hz => ?_, Gs.Bad.start hlA, fn0, fun z hz => al0 z (List.mem_of_find?_eq_some hz), rfl⟩, ?_⟩
  · rw [List.mem_singleton.mp hz]
    exact ht
  rintro μ σ Hc ⟨N, r, o, rfl, sc, hc, rN, bd, fo, ao, rfl⟩
  obtain ⟨stop, go⟩ := bd.step ok
  have hlen := bd.len ok
  rw [List.length_append, List.length_map] at hlen
  have hlen : N.length + 1 ≤ 20 := hlen
  have aB : ∀ z ∈ N ++ [r], z.2 ∈ Km536.allNames dk := fun z hz => bd.all z.2 (by
    rcases List.mem_append.mp hz with y | y
    · exact List.mem_append.mpr (.inl (List.mem_map.mpr ⟨z, y, rfl⟩))
    · rw [List.mem_singleton.mp y]; simp)
  have mp : (N ++ [r]).map (·.2) = N.map (·.2) ++ [r.2] := by rw [List.map_append]; rfl
  cases o with
  | none =>
    have nb0 : Gs.nb dk m r.2 = none := fo.symm
    refine ⟨_, rfl, rfl, _, rfl, ?_⟩
    refine ⟨_, rfl, rfl, _, rfl, _, rfl, k Hc c (N ++ [r]) sc hc (rN.same sc) (by rw [mp, stop nb0]) ?_ aB⟩
    rw [List.length_append]
    show N.length + 1 ≤ 21
    omega
  | some z =>
    have nb0 : Gs.nb dk m r.2 = some z.2 := fo.symm
    obtain ⟨tz, az⟩ := ao z rfl
    obtain ⟨g1, g2⟩ := go z.2 nb0
    refine ⟨_, rfl, rfl, _, rfl, ?_⟩
    refine ⟨_, rfl, _, rfl, dt z.2, (N ++ [r]).map fun (q : Row) => dt q.2, dp_tup (K := K) (sc _ _ tz), .lst (SqL.of hc) (dp_rows (rN.same sc)), dt_shaped _, rows_shaped _, _, rfl, ?_⟩
    rw [any_rows, mp]
    cases cc : (N.map (·.2) ++ [r.2]).contains z.2 with
    | true =>
      have eb := g1 (List.contains_iff_mem.mp cc)
      refine ⟨_, rfl, rfl, _, rfl, ?_⟩
      refine ⟨_, rfl, _, rfl, (by show 1 ≤ sizeLine; decide), fun b nb => ?_⟩
      have s2 := same_upd nb (o := .lst [V.ref z.1])
      refine ⟨c, b, _, _, rfl, rfl, s2 _ _ hc, upd_same, ?_, fun b2 nb2 => ?_⟩
      · rw [List.length_map, List.length_append, sizeLine_eq]
        show N.length + 1 + 1 ≤ _
        omega
      have s3 := same_upd nb2 (o := .lst (refs (N ++ [r]) ++ [V.ref z.1]))
      have sA := (sc.trans s2).trans s3
      refine k _ b2 (N ++ [r] ++ [z]) sA ?_ (fun y hy => ?_) ?_ ?_ (fun y hy => ?_)
      · rw [upd_same]
        show some (HO.lst (refs (N ++ [r]) ++ [V.ref z.1])) = _
        rw [refs_snoc _ z.1 z.2]
      · rcases List.mem_append.mp hy with u | u
        · exact sA _ _ (rN y u)
        · rw [List.mem_singleton.mp u]; exact sA _ _ tz
      · rw [eb, List.map_append, mp]
        rfl
      · rw [List.length_append, List.length_append]
        show N.length + 1 + 1 ≤ 21
        omega
      · rcases List.mem_append.mp hy with u | u
        · exact aB y u
        · rw [List.mem_singleton.mp u]; exact az
    | false =>
      have out : z.2 ∉ N.map (·.2) ++ [r.2] := fun y => by rw [List.contains_iff_mem.mpr y] at cc; cases cc
      have bd2 := g2 out
      have hlen2 := bd2.len ok
      rw [List.length_append, List.length_append, List.length_map] at hlen2
      have hlen2 : N.length + 1 + 1 ≤ 20 := hlen2
      refine ⟨fun σ' H' => ∃ μ', μ' < 21 - (N.length + 1) ∧ W μ' σ' H', fun σ' H' y => y, ?_⟩
      refine ⟨_, rfl, .inl ⟨rfl, _, SqL.of hc⟩, _, rfl, c, _, _, rfl, rfl, hc, ?_, ?_⟩
      · rw [List.length_map, List.length_append, sizeLine_eq]
        show N.length + 1 < _
        omega
      have sc2 : Same H (upd Hc c (.lst (refs (N ++ [r]) ++ [V.ref z.1]))) := fun b o h => by
        have : b ≠ c := fun y => by rw [y, nc] at h; cases h
        rw [upd_ne this]
        exact sc b o h
      obtain ⟨q1, N1, dg1, hq1, hN1, fn1, al1⟩ := step sc2 tz az
      refine ⟨_, rfl, _, rfl, g, V.ref q1, rfl, dg1, _, rfl, q1, d, N1, Fl, rfl, hq1, hN1, sc2 _ _ hd, ?_⟩
      refine ⟨_, ?_, N ++ [r], z, firstR Fl N1, rfl, sc2, ?_, fun y hy => ?_, ?_, fn1, fun y hy => al1 y (List.mem_of_find?_eq_some hy), rfl⟩
      · rw [List.length_append]
        show 21 - (N.length + 1 + 1) < 21 - (N.length + 1)
        omega
      · rw [upd_same]
        show some (HO.lst (refs (N ++ [r]) ++ [V.ref z.1])) = _
        rw [refs_snoc _ z.1 z.2]
      · rcases List.mem_append.mp hy with u | u
        · exact rN y u
        · rw [List.mem_singleton.mp u]; exact tz
      · rw [mp]
        exact bd2
end
end Gp
namespace Gp
open PySem PySem.Spec PyProof.Rows L2
theorem top_same {v v' : List Nat → Nat} : ∀ (l : List (List Nat)) (o : Option (List Nat)), (∀ x ∈ l, v x = v' x) → (∀ y, o = some y → v y = v' y) → l.foldl (Gs.topStep v) o = l.foldl (Gs.topStep v') o
  | [], _, _, _ => rfl
  | x :: l, o, hl, ho => by
    have hx := hl x List.mem_cons_self
    have es : Gs.topStep v o x = Gs.topStep v' o x := by
      cases o with
      | none => rfl
      | some y =>
        show (if v y < v x then _ else _) = if v' y < v' x then _ else _
        rw [hx, ho y rfl]
    rw [List.foldl_cons, List.foldl_cons, es]
    refine top_same l _ (fun z hz => hl z (List.mem_cons_of_mem _ hz)) fun z hz => ?_
    cases o with
    | none =>
      injection hz with hz
      rw [← hz]
      exact hx
    | some y =>
      have hz : (if v' y < v' x then some x else some y) = some z := hz
      split at hz
      · injection hz with hz
        rw [← hz]
        exact hx
      · injection hz with hz
        rw [← hz]
        exact ho y rfl
theorem scAskSoonest : FnScope ["world", "fewest"] ["world"] (defScope sAskSoonest) := ⟨rfl, rfl, rfl, by decide +kernel, rfl, by decide +kernel, by decide +kernel⟩
abbrev nAskBad : List Str := ["world", "following", "longest", "name", "names", "play", "one"]
theorem scAskBad : FnScope nAskBad ["world"] (defScope sAskBad) := ⟨rfl, rfl, rfl, by decide +kernel, rfl, by decide +kernel, by decide +kernel⟩
theorem scAskWorst : FnScope ["world", "following", "after"] ["world"] (defScope sAskWorst) := ⟨rfl, rfl, rfl, by decide +kernel, rfl, by decide +kernel, by decide +kernel⟩
theorem scAskHopeless : FnScope ["world", "alike"] ["world"] (defScope sAskHopeless) := ⟨rfl, rfl, rfl, by decide +kernel, rfl, by decide +kernel, by decide +kernel⟩
theorem scAskTold : FnScope ["world", "together"] ["world"] (defScope sAskTold) := ⟨rfl, rfl, rfl, by decide +kernel, rfl, by decide +kernel, by decide +kernel⟩
theorem soonest_step (dk : Km535.Desk) : Km536.step (some dk) .soonest = (some dk, Km536.sayO (Km536.soonest dk dk.at_ (Km535.ring dk))) := rfl
theorem bad_no (dk : Km535.Desk) (h : Km536.sure dk dk.at_ (Km535.ring dk) = true) : Km536.step (some dk) .bad = (some dk, ⟨-6, []⟩) := by
  show (some dk, if Km536.sure dk dk.at_ (Km535.ring dk) then _ else _) = _
  rw [h]
  rfl
theorem bad_yes (dk : Km535.Desk) (h : Km536.sure dk dk.at_ (Km535.ring dk) = false) : Km536.step (some dk) .bad = (some dk, ⟨((Km536.bad dk dk.at_ (Km535.ring dk)).length : Nat), ni ((Km536.bad dk dk.at_ (Km535.ring dk)).map fun r => Km536.rankIn dk r)⟩) := by
  show (some dk, if Km536.sure dk dk.at_ (Km535.ring dk) then _ else _) = _
  rw [h]
  show (some dk, Km536.tellAll _) = _
  unfold Km536.tellAll
  rw [List.length_map]
  rfl
theorem worst_no (dk : Km535.Desk) (h : Km536.worst dk dk.at_ (Km535.ring dk) = none) : Km536.step (some dk) .worst = (some dk, ⟨-33, []⟩) := by
  show (some dk, match Km536.worst dk dk.at_ (Km535.ring dk) with | none => _ | some r => _) = _
  rw [h]
  rfl
theorem worst_yes (dk : Km535.Desk) {r : List Nat} (h : Km536.worst dk dk.at_ (Km535.ring dk) = some r) : Km536.step (some dk) .worst = (some dk, ⟨(Km536.rankIn dk r : Nat), []⟩) := by
  show (some dk, match Km536.worst dk dk.at_ (Km535.ring dk) with | none => _ | some r => _) = _
  rw [h]
  rfl
theorem hopeless_step (dk : Km535.Desk) : Km536.step (some dk) .hopeless = (some dk, ⟨if Km536.hopeless (Km535.ring dk) then 1 else 0, []⟩) := rfl
theorem told_step (dk : Km535.Desk) : Km536.step (some dk) .told = (some dk, ⟨((Km535.ring dk).length : Nat), [(dk.see.eyes : Int), (dk.at_ : Int), (((Km535.ring dk).sum : Nat) : Int), if Km535.gathered (Km535.ring dk) then 1 else 0]⟩) := by
  rw [← Gs.ksum]
  exact onRule_of dk (c := .told) (st := some dk) (a := ⟨((Km535.ring dk).length : Nat), [(dk.see.eyes : Int), (dk.at_ : Int), ((Km534.sum (Km535.ring dk) : Nat) : Int), if Km535.gathered (Km535.ring dk) then 1 else 0]⟩) rfl
section
variable {P : Program} {w : World} {K : PySem.W.Frag} {mg : Str → Option Value} {base : Heap} {C : Addr}
theorem ok_ask_soonest {f : Addr} {fd : FuncData} (T : Wc K mg C) (M : Nm mg) (F : Fun K "ask_soonest" "ask_soonest" sAskSoonest f fd) (dF : Def P w K mg base 7 "following_of" (spFolOf K C)) (dW : Def P w K mg base 3 "fewest_moves" (spFewest K)) (dN : Def P w K mg base 2 "name_of" (spNameOf K)) : FnOk P w K mg base CX0 8 f fd ["world"] (sp0 K C .soonest) := by
  refine F.ok scAskSoonest (fun vs H Q E h => ?_) (fun cdv A outer s H vs Q E hr h => ?_)
  · obtain ⟨a, dk, rfl, _⟩ := h
    rfl
  obtain ⟨a, dk, rfl, hw, k⟩ := h
  refine ⟨_, pss_cons (ps_set (i := 1) scAskSoonest.nd rfl (Or.inl rfl) (pe_def dW hr (by decide) (by rfl) (pa_cons (pe_def dN hr (by decide) (by rfl) (pa_cons (pe_fld (pv 0) rfl) pa_nil)) (pa_cons (pe_def dF hr (by decide) (by rfl) (pa_cons (pv 0) pa_nil)) pa_nil))))
    (pss_one (ps_ret (pe_lst (pa_cons (pe_ifExp (pt_cmpR op_isN (pv 1) pe_non (nomark _)) (pe_num M.notThere rfl) (pv 1)) pa_nil)))), ?_⟩
  obtain ⟨dx, t, d, h1, h2, h3, g⟩ := id hw
  have lo := g.ok.lo
  have hi := g.ok.hi
  refine ⟨_, rfl, a, C, dx, _, _, rfl, h1, T.cl, T.nR, wF_ring _ _ _ _, t, _, rfl, h2, by omega, by omega, fun H1 b1 s1 t1 => ?_⟩
  refine ⟨_, rfl, a, dk, rfl, hw.same s1, fun H2 c2 s2 f2 => ?_⟩
  refine ⟨b1, c2, _, dk, dk.at_, rfl, s2 _ _ t1, g.ok, name_all g.ok, f2.fol, fun H3 o s3 so => ?_⟩
  have e : o = Km536.soonest dk dk.at_ (Km535.ring dk) := so.uniq (Gs.soonest_is g.ok dk.at_ (name_all g.ok))
  have st := soonest_step dk
  rw [← e] at st
  have s4 := (s1.trans s2).trans s3
  refine ⟨_, rfl, rfl, _, rfl, ?_⟩
  cases o with
  | none => exact ⟨(by show 1 ≤ sizeLine; decide), fun l nl => k _ l (aft_stay st hw s4 nl)⟩
  | some n => exact ⟨_, rfl, (by show 1 ≤ sizeLine; decide), fun l nl => k _ l (aft_stay st hw s4 nl)⟩
theorem ok_ask_worst {f : Addr} {fd : FuncData} (B : Bt mg) (T : Wc K mg C) (M : Nm mg) (F : Fun K "ask_worst" "ask_worst" sAskWorst f fd) (dF : Def P w K mg base 7 "following_of" (spFolOf K C)) (dL : Def P w K mg base 4 "longest_by_name" (spLongestBy K)) (dN : Def P w K mg base 2 "name_of" (spNameOf K)) (dW : Def P w K mg base 2 "worst_of" (spWorstOf K)) (dR : Def P w K mg base 4 "rank_of" (spRankOf K)) : FnOk P w K mg base CX0 8 f fd ["world"] (sp0 K C .worst) := by
  refine F.ok scAskWorst (fun vs H Q E h => ?_) (fun cdv A outer s H vs Q E hr h => ?_)
  · obtain ⟨a, dk, rfl, _⟩ := h
    rfl
  obtain ⟨a, dk, rfl, hw, k⟩ := h
  refine ⟨_, pss_cons (ps_set (i := 1) scAskWorst.nd rfl (Or.inl rfl) (pe_def dF hr (by decide) (by rfl) (pa_cons (pv 0) pa_nil)))
    (pss_cons (ps_set (i := 2) scAskWorst.nd rfl (Or.inl rfl) (pe_dget (hu_of hr) (pv 1) (pe_def dN hr (by decide) (by rfl) (pa_cons (pe_fld (pv 0) rfl) pa_nil)) (fun _ _ => rfl)))
    (pss_cons (ps_if (pt_cmpR op_eq (pe_callB call_len_seq (by rfl) B.len PySem.boot_len (pa_cons (pv 2) pa_nil)) pe_int (nomark _)) (pss_one (ps_ret (pe_lst (pa_cons (pe_num M.notThere rfl) pa_nil)))) pss_nil)
    (pss_one (ps_ret (pe_lst (pa_cons (pe_def dR hr (by decide) (by rfl) (pa_cons (pe_def dW hr (by decide) (by rfl) (pa_cons (pv 2) (pa_cons (pe_def dL hr (by decide) (by rfl) (pa_cons (pv 1) pa_nil)) pa_nil))) pa_nil)) pa_nil)))))), ?_⟩
  obtain ⟨dx, t, d, h1, h2, h3, g⟩ := id hw
  have lo := g.ok.lo
  have hi := g.ok.hi
  refine ⟨_, rfl, a, dk, rfl, hw, fun H1 c1 s1 f1 => ?_⟩
  refine ⟨_, rfl, _, rfl, a, C, dx, _, _, rfl, s1 _ _ h1, T.cl, T.nR, wF_ring _ _ _ _, t, _, rfl, s1 _ _ h2, by omega, by omega, fun H2 b2 s2 t2 => ?_⟩
  have s3 := s1.trans s2
  obtain ⟨q, N, dg, hq, hN, eN, lN, aN⟩ := (f1.fol.same s2).get g.ok (name_all g.ok) t2
  rw [Gs.nx_name g.ok] at eN
  have wi := Gs.worst_is g.ok dk.at_
  rw [← eN] at wi
  refine ⟨c1, V.ref q, rfl, dg, ?_⟩
  refine ⟨_, rfl, q, _, rfl, .inl (SqL.of hq), rfl, _, rfl, ?_⟩
  rw [dec_int, List.length_map]
  by_cases c0 : N.length = 0
  · have nN := List.length_eq_zero_iff.mp c0
    rw [nN] at wi
    exact iteDT (by omega) ⟨(by show 1 ≤ sizeLine; decide), fun l nl => k _ l (aft_stay (worst_no dk wi) hw s3 nl)⟩
  refine iteDF (by omega) ?_
  refine ⟨_, rfl, _, rfl, c1, dk, dk.at_, rfl, g.ok, f1.same s2, fun H4 cL L s4 hL lL wL => ?_⟩
  have look_few : ∀ x ∈ N.map (·.2), ∀ n, look L x = some n → n < 1000 := fun x hx n e => by
    obtain ⟨z, hz, rfl⟩ := List.mem_map.mp hx
    rw [lL _ (aN z hz)] at e
    have := Gs.longest_few g.ok (aN z hz) e
    omega
  refine ⟨q, cL, N, L, rfl, s4 _ _ hq, hN.same s4, by omega, fun z => c0 (by rw [z]; rfl), hL, look_few, fun H5 z s5 zN tp => ?_⟩
  have e1 : Gs.firstTop (fun y => Gs.vOf (look L y)) (N.map (·.2)) = Gs.firstTop (fun y => Gs.vOf (Km536.longest dk dk.at_ y)) (N.map (·.2)) := top_same _ none (fun x hx => by
    obtain ⟨u, hu, rfl⟩ := List.mem_map.mp hx
    rw [lL _ (aN u hu)]) fun y hy => by cases hy
  rw [e1, ← wi] at tp
  obtain ⟨okz, ez1, ez2, ez3⟩ := Gs.ok_all g.ok (aN z zN)
  have s6 := (s3.trans s4).trans s5
  refine ⟨z.1, z.2, rfl, s5 _ _ (s4 _ _ (hN z zN)), okz, fun H6 s7 => ⟨(by show 1 ≤ sizeLine; decide), fun l nl => k _ l ?_⟩⟩
  have er : Km535.rank z.2 = Km536.rankIn dk z.2 := by
    rw [Gs.rank_place, ez1, ez2, ez3, ← Gs.allNames_eq]
    rfl
  rw [er]
  exact aft_stay (worst_yes dk tp) hw (s6.trans s7) nl
theorem ok_ask_hopeless {f : Addr} {fd : FuncData} (B : Bt mg) (T : Wc K mg C) (F : Fun K "ask_hopeless" "ask_hopeless" sAskHopeless f fd) (dT : Def P w K mg base 2 "is_own_turning" (spOwnTurn K)) (dM : Def P w K mg base 2 "is_own_mirror_between" (spOwnMirror K)) : FnOk P w K mg base CX0 3 f fd ["world"] (sp0 K C .hopeless) := by
  refine F.ok scAskHopeless (fun vs H Q E h => ?_) (fun cdv A outer s H vs Q E hr h => ?_)
  · obtain ⟨a, dk, rfl, _⟩ := h
    rfl
  obtain ⟨a, dk, rfl, hw, k⟩ := h
  refine ⟨_, pss_cons (ps_set (i := 1) scAskHopeless.nd rfl (Or.inl rfl) (pe_or (pe_def dT hr (by decide) (by rfl) (pa_cons (pe_fld (pv 0) rfl) pa_nil)) (pe_one (pe_def dM hr (by decide) (by rfl) (pa_cons (pe_fld (pv 0) rfl) pa_nil)))))
    (pss_one (ps_ret (pe_lst (pa_cons (pe_ifExp (PW.pt (pw_and (pt_cmpR op_gt (pe_callB (GsR.cr_sumT rfl) (by rfl) B.sum (by decide +kernel) (pa_cons (pe_fld (pv 0) rfl) pa_nil)) pe_int (nomark _)) (pw_and1 (pt_val (pv 1))))) pe_int pe_int) pa_nil)))), ?_⟩
  obtain ⟨dx, t, d, h1, h2, h3, g⟩ := id hw
  have st := hopeless_step dk
  rw [Gs.Ok.hopeless g.ok] at st
  refine ⟨_, rfl, a, C, dx, _, _, rfl, h1, T.cl, T.nR, wF_ring _ _ _ _, t, _, rfl, h2, g.ok, fun H1 s1 => ⟨_, rfl, ?_⟩⟩
  cases c1 : Gs.ownTurn (Km535.ring dk) with
  | true =>
    rw [c1, Bool.true_or] at st
    refine ⟨_, rfl, a, C, dx, _, _, rfl, s1 _ _ h1, T.cl, T.nR, wF_ring _ _ _ _, t, ni (Km535.ring dk), rfl, SqT.of (s1 _ _ h2), _, _, rfl, rfl, _, rfl, ?_⟩
    rw [ni_sum]
    by_cases c : 0 < (Km535.ring dk).sum
    · rw [decide_eq_true c] at st
      exact iteDT (by omega) ⟨_, rfl, _, rfl, (by show 1 ≤ sizeLine; decide), fun l nl => k _ l (aft_stay st hw s1 nl)⟩
    · rw [decide_eq_false c] at st
      exact iteDF (by omega) ⟨(by show 1 ≤ sizeLine; decide), fun l nl => k _ l (aft_stay st hw s1 nl)⟩
  | false =>
    rw [c1, Bool.false_or] at st
    refine ⟨_, rfl, a, C, dx, _, _, rfl, s1 _ _ h1, T.cl, T.nR, wF_ring _ _ _ _, t, _, rfl, s1 _ _ h2, g.ok, fun H2 s12 => ?_⟩
    have s2 := s1.trans s12
    cases c2 : Gs.ownMirror (Km535.ring dk) with
    | true =>
      rw [c2] at st
      refine ⟨_, rfl, a, C, dx, _, _, rfl, s2 _ _ h1, T.cl, T.nR, wF_ring _ _ _ _, t, ni (Km535.ring dk), rfl, SqT.of (s2 _ _ h2), _, _, rfl, rfl, _, rfl, ?_⟩
      rw [ni_sum]
      by_cases c : 0 < (Km535.ring dk).sum
      · rw [decide_eq_true c] at st
        exact iteDT (by omega) ⟨_, rfl, _, rfl, (by show 1 ≤ sizeLine; decide), fun l nl => k _ l (aft_stay st hw s2 nl)⟩
      · rw [decide_eq_false c] at st
        exact iteDF (by omega) ⟨(by show 1 ≤ sizeLine; decide), fun l nl => k _ l (aft_stay st hw s2 nl)⟩
    | false =>
      rw [c2] at st
      refine ⟨_, rfl, a, C, dx, _, _, rfl, s2 _ _ h1, T.cl, T.nR, wF_ring _ _ _ _, t, ni (Km535.ring dk), rfl, SqT.of (s2 _ _ h2), _, _, rfl, rfl, _, rfl, ?_⟩
      rw [ni_sum]
      by_cases c : 0 < (Km535.ring dk).sum
      · rw [decide_eq_true c] at st
        exact iteDT (by omega) ⟨_, rfl, _, rfl, (by show 1 ≤ sizeLine; decide), fun l nl => k _ l (aft_stay st hw s2 nl)⟩
      · rw [decide_eq_false c] at st
        exact iteDF (by omega) ⟨(by show 1 ≤ sizeLine; decide), fun l nl => k _ l (aft_stay st hw s2 nl)⟩
theorem ok_ask_told {f : Addr} {fd : FuncData} (B : Bt mg) (T : Wc K mg C) (F : Fun K "ask_told" "ask_told" sAskTold f fd) (dA : Def P w K mg base 1 "all_at_one_place" (spAllAtOne K)) : FnOk P w K mg base CX0 2 f fd ["world"] (sp0 K C .told) := by
  refine F.ok scAskTold (fun vs H Q E h => ?_) (fun cdv A outer s H vs Q E hr h => ?_)
  · obtain ⟨a, dk, rfl, _⟩ := h
    rfl
  obtain ⟨a, dk, rfl, hw, k⟩ := h
  refine ⟨_, pss_cons (ps_set (i := 1) scAskTold.nd rfl (Or.inl rfl) (pe_ifExp (pt_val (pe_def dA hr (by decide) (by rfl) (pa_cons (pe_fld (pv 0) rfl) pa_nil))) pe_int pe_int))
    (pss_one (ps_ret (pe_lst (pa_cons (pe_callB call_len_seq (by rfl) B.len PySem.boot_len (pa_cons (pe_fld (pv 0) rfl) pa_nil)) (pa_cons (pe_fld (pv 0) rfl) (pa_cons (pe_fld (pv 0) rfl) (pa_cons (pe_callB (GsR.cr_sumT rfl) (by rfl) B.sum (by decide +kernel) (pa_cons (pe_fld (pv 0) rfl) pa_nil)) (pa_cons (pv 1) pa_nil)))))))), ?_⟩
  obtain ⟨dx, t, d, h1, h2, h3, g⟩ := id hw
  have st := told_step dk
  rw [← tv_len (Km535.ring dk), ← ni_sum] at st
  refine ⟨_, rfl, a, C, dx, _, _, rfl, h1, T.cl, T.nR, wF_ring _ _ _ _, t, _, rfl, h2, g.ok, _, rfl, ?_⟩
  cases c : Km535.gathered (Km535.ring dk) <;> rw [c] at st <;>
    exact ⟨_, rfl, a, C, dx, _, _, rfl, h1, T.cl, T.nR, wF_ring _ _ _ _, t, _, rfl, .inr (SqT.of h2), _, rfl, a, C, dx, _, _, rfl, h1, T.cl, T.nE, wF_eyes _ _ _ _, _, rfl, a, C, dx, _, _, rfl, h1, T.cl, T.nM, wF_mode _ _ _ _, _, rfl, a, C, dx, _, _, rfl, h1, T.cl, T.nR, wF_ring _ _ _ _, t, ni (Km535.ring dk), rfl, SqT.of h2, _, rfl, (by show 5 ≤ sizeLine; decide), fun l nl => k _ l (aft_stay st hw (Same.refl H) nl)⟩
theorem ok_ask_bad {f : Addr} {fd : FuncData} (B : Bt mg) (T : Wc K mg C) (M : Nm mg) (F : Fun K "ask_bad" "ask_bad" sAskBad f fd) (dF : Def P w K mg base 7 "following_of" (spFolOf K C)) (dL : Def P w K mg base 4 "longest_by_name" (spLongestBy K)) (dN : Def P w K mg base 2 "name_of" (spNameOf K)) (dNL : Def P w K mg base 3 "names_like" (spNamesLike K)) (dB : Def P w K mg base 2 "bad_play" (spBadPlay K)) : FnOk P w K mg base CX0 8 f fd ["world"] (sp0 K C .bad) := by
  refine F.ok scAskBad (fun vs H Q E h => ?_) (fun cdv A outer s H vs Q E hr h => ?_)
  · obtain ⟨a, dk, rfl, _⟩ := h
    rfl
  obtain ⟨a, dk, rfl, hw, k⟩ := h
  refine ⟨_, pss_cons (ps_set (i := 1) scAskBad.nd rfl (Or.inl rfl) (pe_def dF hr (by decide) (by rfl) (pa_cons (pv 0) pa_nil)))
    (pss_cons (ps_set (i := 2) scAskBad.nd rfl (Or.inl rfl) (pe_def dL hr (by decide) (by rfl) (pa_cons (pv 1) pa_nil)))
    (pss_cons (ps_set (i := 3) scAskBad.nd rfl (Or.inl rfl) (pe_def dN hr (by decide) (by rfl) (pa_cons (pe_fld (pv 0) rfl) pa_nil)))
    (pss_cons (ps_if (pt_cmp (pc_din (hu_of hr) (pv 3) (pv 2))) (pss_one (ps_ret (pe_lst (pa_cons (pe_num M.nothing rfl) pa_nil)))) pss_nil)
    (pss_cons (ps_set (i := 4) scAskBad.nd rfl (Or.inr rfl) (pe_def dNL hr (by decide) (by rfl) (pa_cons (pe_fld (pv 0) rfl) pa_nil)))
    (pss_cons (ps_set (i := 5) scAskBad.nd rfl (Or.inl rfl) (pe_def dB hr (by decide) (by rfl) (pa_cons (pv 3) (pa_cons (pv 1) (pa_cons (pv 2) pa_nil)))))
    (pss_one (ps_ret (pe_op op_cat (pe_lst (pa_cons (pe_callB call_len_seq (by rfl) B.len PySem.boot_len (pa_cons (pv 5) pa_nil)) pa_nil))
      (pe_lc (own := [("one", 6)]) (g := gName 6) (tt := tYes) (te := tBM K "list" (rIndexD K) (tVar 4) (tCons (tVar 6) tNil)) rfl scAskBad.nd (pi_list (pv 5)) (blkOk_by (own := [("one", 6)]) (N := nAskBad) (sc := defScope sAskBad) (by decide +kernel))
        (fun _ _ _ _ _ => pg_name (i := 6) scAskBad.nd rfl (Or.inl rfl)) (fun _ _ _ _ _ => pts_nil) (fun _ _ _ _ _ => pe_bm PySem.F.plainAttrs_list PySem.F.slot_list_index PySem.F.type_list_index (mt_indexD (hu65 hr)) (pv 4) (pa_cons (pv 6) pa_nil))))))))))), ?_⟩
  obtain ⟨dx, t, d, h1, h2, h3, g⟩ := id hw
  have lo := g.ok.lo
  have hi := g.ok.hi
  refine ⟨_, rfl, a, dk, rfl, hw, fun H1 c1 s1 f1 => ?_⟩
  refine ⟨_, rfl, c1, dk, dk.at_, rfl, g.ok, f1, fun H2 cL L s2 hL lL wL => ?_⟩
  have s3 := s1.trans s2
  refine ⟨_, rfl, a, C, dx, _, _, rfl, s3 _ _ h1, T.cl, T.nR, wF_ring _ _ _ _, t, _, rfl, s3 _ _ h2, by omega, by omega, fun H4 b4 s4 t4 => ?_⟩
  have s5 := s3.trans s4
  have hL4 := s4 _ _ hL
  refine ⟨_, rfl, _, rfl, cL, _, rfl, get_rule (K := K) hL4 t4, _, rfl, ?_⟩
  rw [Option.isSome_map, lL _ (name_all g.ok), longest_name g.ok]
  cases cs : (Km536.longest dk dk.at_ (Km535.ring dk)).isSome with
  | true => exact ⟨(by show 1 ≤ sizeLine; decide), fun l nl => k _ l (aft_stay (bad_no dk cs) hw s5 nl)⟩
  | false =>
    refine ⟨_, rfl, a, C, dx, _, _, rfl, s5 _ _ h1, T.cl, T.nR, wF_ring _ _ _ _, t, _, rfl, s5 _ _ h2, g.ok, fun H6 p6 N6 s6 hp6 rN6 eN6 => ?_⟩
    refine ⟨_, rfl, _, rfl, _, rfl, b4, c1, cL, Km535.ring dk, L, dk, dk.at_, rfl, s6 _ _ t4, g.ok, name_all g.ok, (f1.fol.same s2).same (s4.trans s6), s6 _ _ hL4, lL, fun H7 c7 N7 s7 hc7 rN7 eN7 lN7 aN7 => ?_⟩
    have s8 := (s5.trans s6).trans s7
    refine ⟨_, rfl, c7, _, rfl, .inl (SqL.of hc7), (by show 1 ≤ sizeLine; decide), fun l nl => ?_⟩
    have s9 := same_upd nl (o := .lst [V.int ((refs N7).length : Nat)])
    refine ⟨_, rfl, c7, rfl, ⟨_, SqL.of (s9 _ _ hc7)⟩, fun D nD => ?_⟩
    have eA : N6.map (·.2) = Km536.allNames dk := by rw [eN6, Gs.allNames_eq]
    refine comp_it (walk_list (K := K) (a := c7) (xs := refs N7)) nD (by rw [List.length_map, sizeLine_eq]; omega) (fun i ys _ => ys = tv (((N7.map (·.2)).take i).map fun y => Km536.rankIn dk y)) (fun H2 s2 => SqL.of (s2 c7 _ (s9 _ _ hc7))) rfl (fun _ _ _ _ _ _ _ z => z) (fun i v ys H8 H9 hi8 s10 hD8 g8 y R R' done _ => ?_) fun ys H8 s10 hD8 hy8 g8 => ?_
    · obtain ⟨rfl, hv⟩ := y
      obtain ⟨z, ez, rfl⟩ := row_at hv
      have zB : (N7.map (·.2))[i]? = some z.2 := by rw [List.getElem?_map, ez]; rfl
      have zN := List.mem_of_getElem? ez
      have s11 := (s7.trans s9).trans s10
      refine ⟨rfl, _, rfl, .inl ⟨rfl, _, SqL.of (s11 _ _ hp6)⟩, _, rfl, ?_⟩
      dsimp only [tNil]
      refine index_rows (K := K) (s11 _ _ hp6) (rN6.same s11) ((s9.trans s10) _ _ (rN7 z zN)) (by rw [eA]; exact aN7 z zN) ?_
      refine done _ _ (Same.refl _) ?_
      rw [eA, g8, GsR.took zB, List.map_append, tv_app]
      rfl
    · rw [List.length_map, ← List.length_map (f := fun q : Row => q.2), List.take_length, eN7] at g8
      refine ⟨l, D, _, _, rfl, rfl, s10 _ _ upd_same, hD8, ?_, fun l3 n3 => k _ l3 ?_⟩
      · rw [List.length_map] at hy8
        rw [sizeLine_eq]
        show 1 + ys.length ≤ _
        omega
      have st := bad_yes dk cs
      have el : (refs N7).length = (Km536.bad dk dk.at_ (Km535.ring dk)).length := by rw [List.length_map, ← eN7, List.length_map]
      rw [← el] at st
      rw [g8]
      exact aft_stay st hw ((s8.trans s9).trans s10) n3
end
end Gp
namespace Gp
open PySem PySem.Spec PyProof.Rows L2
/-- the desk with another rule -/
abbrev withR (dk : Km535.Desk) (l : Rl) : Km535.Desk := { dk with rule := l }
/-- nothing changes: an answer in a new list -/
theorem aft_new {K : PySem.W.Frag} {C : Addr} {H H1 : Hp} {a b : Addr} {st : Km536.State} {c : Km536.Call} {v : Int} {vs : List Int} (h : Km536.step st c = (st, ⟨v, vs⟩)) (hw : WAt K C H a st) (s : Same H H1) (nb : H b = none) (hb : H1 b = some (.lst ((v :: vs).map V.int))) : Aft K C H a st c H1 b := by
  refine ⟨?_, Fr.of s, nb, ?_⟩
  · rw [h]
    exact hw.same s
  · rw [hb, ansOf, h]
/-! ### longest_of_names, sure_numbers, rule_with -/
def spLonNames (K : PySem.W.Frag) (C : Addr) : Sp := fun vs H Q _ => ∃ (a d : Addr) (dk : Km535.Desk) (l : Rl) (m : Nat), vs = [.ref a, .ref d, .int m] ∧ WAt K C H a (some dk) ∧ RuleAt H d l ∧ m ≤ 2 ∧
  ∀ H' c (F : List (List Nat × Nat)), Same H H' → RuleAt H' c F → (∀ x ∈ Km536.allNames dk, look F x = Km536.longest (withR dk l) m x) → Way (withR dk l) m F → Q (.ref c) H'
theorem scLonNames : FnScope ["world", "rule", "mode"] ["world", "rule", "mode"] (defScope sLonNames) := ⟨rfl, rfl, rfl, by decide +kernel, rfl, by decide +kernel, by decide +kernel⟩
def spSureNums (K : PySem.W.Frag) (C : Addr) : Sp := fun vs H Q _ => ∃ (a d : Addr) (dk : Km535.Desk) (l : Rl) (m : Nat), vs = [.ref a, .ref d, .int m] ∧ WAt K C H a (some dk) ∧ RuleAt H d l ∧ m ≤ 2 ∧
  ∀ H' b, Same H H' → H b = none → H' b = some (.lst ((((Km536.sureRanks (withR dk l) m).length : Nat) : Int) :: ni (Km536.sureRanks (withR dk l) m) |>.map V.int)) → Q (.ref b) H'
abbrev nSureNums : List Str := ["world", "rule", "mode", "longest", "numbers", "number", "name"]
theorem scSureNums : FnScope nSureNums ["world", "rule", "mode"] (defScope sSureNums) := ⟨rfl, rfl, rfl, by decide +kernel, rfl, by decide +kernel, by decide +kernel⟩
def spRuleWith (K : PySem.W.Frag) : Sp := fun vs H Q _ => ∃ (d v : Addr) (l : Rl) (x : List Nat) (m : Nat), vs = [.ref d, .ref v, .int m] ∧ RuleAt H d l ∧ Tp K H v x ∧ (l.map (·.1)).Nodup ∧ l.length ≤ 24 ∧ ∀ H' c, Same H H' → RuleAt H' c (setR l x m) → Q (.ref c) H'
abbrev nRuleWith : List Str := ["rule", "view", "done", "changed", "other"]
theorem scRuleWith : FnScope nRuleWith ["rule", "view", "done"] (defScope sRuleWith) := ⟨rfl, rfl, rfl, by decide +kernel, rfl, by decide +kernel, by decide +kernel⟩
theorem kvs_at {l : Rl} (nd : (l.map (·.1)).Nodup) {i : Nat} {q : List Nat × Nat} (h : l[i]? = some q) : valV (kvs l) (kk q.1) = some (V.int (q.2 : Int)) := by
  induction l generalizing i with
  | nil => simp at h
  | cons z l ih =>
    have e : kvs (z :: l) = (kk z.1, V.int (z.2 : Int)) :: kvs l := rfl
    rw [e]
    obtain ⟨n1, n2⟩ := List.nodup_cons.mp nd
    cases i with
    | zero =>
      obtain rfl : z = q := Option.some.inj h
      exact valV_pos rfl
    | succ i =>
      rw [valV_neg]
      · exact ih n2 h
      · intro z2
        exact n1 (List.mem_map.mpr ⟨q, List.mem_of_getElem? h, (kk_inj z2).symm⟩)
theorem new_at {l : Rl} (nd : (l.map (·.1)).Nodup) {i : Nat} {q : List Nat × Nat} (h : l[i]? = some q) : look (l.take i) q.1 = none := by
  unfold look
  rw [Option.map_eq_none_iff, List.find?_eq_none]
  intro z hz e
  obtain ⟨j, hj, ej⟩ := List.getElem_of_mem hz
  rw [List.length_take] at hj
  rw [List.getElem_take] at ej
  have hi := (List.getElem?_eq_some_iff.mp h).1
  have a1 : (l.map (·.1))[j]? = some q.1 := by
    rw [List.getElem?_map, List.getElem?_eq_getElem (by omega), ej]
    have : z.1 = q.1 := by simpa using e
    rw [← this]
    rfl
  have a2 : (l.map (·.1))[i]? = some q.1 := by rw [List.getElem?_map, h]; rfl
  have := (List.getElem?_inj (by rw [List.length_map]; omega) nd).mp (a1.trans a2.symm)
  omega
section
variable {P : Program} {w : World} {K : PySem.W.Frag} {mg : Str → Option Value} {base : Heap} {C : Addr}
theorem ok_lon_names {f : Addr} {fd : FuncData} (T : Wc K mg C) (F : Fun K "longest_of_names" "longest_of_names" sLonNames f fd) (dF : Def P w K mg base 6 "following_by_name" (spFolBy K)) (dL : Def P w K mg base 4 "longest_by_name" (spLongestBy K)) : FnOk P w K mg base CX0 7 f fd ["world", "rule", "mode"] (spLonNames K C) := by
  refine F.ok scLonNames (fun vs H Q E h => ?_) (fun cdv A outer s H vs Q E hr h => ?_)
  · obtain ⟨a, d, dk, l, m, rfl, _⟩ := h
    rfl
  obtain ⟨a, d2, dk, l, m, rfl, hw, hd, hm, k⟩ := h
  refine ⟨_, pss_one (ps_ret (pe_def dL hr (by decide) (by rfl) (pa_cons (pe_def dF hr (by decide) (by rfl) (pa_cons (pe_fld (pv 0) rfl) (pa_cons (pe_fld (pv 0) rfl) (pa_cons (pv 1) (pa_cons (pv 2) pa_nil))))) pa_nil))), ?_⟩
  obtain ⟨dx, t, d, h1, h2, h3, g⟩ := id hw
  exact ⟨_, rfl, a, C, dx, _, _, rfl, h1, T.cl, T.nR, wF_ring _ _ _ _, _, rfl, a, C, dx, _, _, rfl, h1, T.cl, T.nE, wF_eyes _ _ _ _, _, rfl, _, rfl, t, d2, withR dk l, m, rfl, h2, hd, g.ey, hm, g.ok, fun H1 c1 s1 f1 => ⟨c1, withR dk l, m, rfl, g.ok, f1, fun H2 c F s2 hc hl hw2 => k H2 c F (s1.trans s2) hc hl hw2⟩⟩
theorem ok_rule_with {f : Addr} {fd : FuncData} (F : Fun K "rule_with" "rule_with" sRuleWith f fd) : FnOk P w K mg base CX0 1 f fd ["rule", "view", "done"] (spRuleWith K) := by
  refine F.ok scRuleWith (fun vs H Q E h => ?_) (fun cdv A outer s H vs Q E hr h => ?_)
  · obtain ⟨d, v, l, x, m, rfl, _⟩ := h
    rfl
  obtain ⟨d, v, l, x, m, rfl, hd, hv, nd, few, k⟩ := h
  refine ⟨_, pss_cons (ps_set (i := 3) scRuleWith.nd rfl (Or.inl rfl) pe_dnewT)
    (pss_cons (ps_lock (ps_for PassesOwn.never rfl (pi_keys (pv 0)) (pg_name (i := 4) scRuleWith.nd rfl (Or.inl rfl)) (pss_one (ps_dput (hu_of hr) (pv 3) (pv 4) (pe_dget (hu_of hr) (pv 0) (pv 4) (fun _ _ => rfl)) rfl))))
    (pss_cons (ps_dput (hu_of hr) (pv 3) (pv 1) (pv 2) rfl)
    (pss_one (ps_ret (pv 3))))), ?_⟩
  intro c nc
  have s1 := same_upd nc (o := .dT [])
  have hd1 := s1 _ _ hd
  have dc : d ≠ c := fun z => by
    have q : H d = some _ := hd
    rw [z, nc] at q
    cases q
  refine ⟨d, .dT (kvs l), hd1, trivial, fun od => ?_⟩
  refine ⟨_, rfl, d, od, rfl, .inr ⟨kvs l, upd_same, ?_⟩⟩
  have c0 : (upd (upd H c (.dT [])) d (.frz od (.dT (kvs l)))) c = some (.dT (kvs (l.take 0))) := (upd_ne (Ne.symm dc)).trans upd_same
  refine for_it (walk_keysT (d := d) (o := od) (kvs := kvs l)) (fun i σ H6 => ∃ (v4 : Option V), σ = [some (.ref d), some (.ref v), some (.int m), some (.ref c), v4] ∧ But c (upd (upd H c (.dT [])) d (.frz od (.dT (kvs l)))) H6 ∧ H6 c = some (.dT (kvs (l.take i))))
    ⟨none, rfl, But.refl _ _, c0⟩ (fun i σ H6 _ => fun ⟨_, _, b6, _⟩ => b6 d _ dc upd_same) ?_ ?_
  · rintro i x4 σ H6' H6 hi ⟨v4, rfl, b6, h6⟩ ⟨rfl, key, vv, q, ek, rfl, hq⟩
    obtain ⟨z, ez, e1, e2⟩ : ∃ z, l[i]? = some z ∧ kk z.1 = key ∧ V.int (z.2 : Int) = vv := by
      rw [kvs, List.getElem?_map] at ek
      obtain ⟨z, e1, e2⟩ := Option.map_eq_some_iff.mp ek
      obtain ⟨e3, e4⟩ := Prod.mk.inj e2
      exact ⟨z, e1, e3, e4⟩
    subst e1; subst e2
    have hk1 : H6 d = some (.frz od (.dT (kvs l))) := b6 d _ dc upd_same
    refine ⟨_, rfl, _, rfl, d, V.int (z.2 : Int), rfl, .inr ⟨kvs l, kk z.1, q, .inr ⟨od, hk1⟩, rfl, hq, (kvs_at nd ez).symm⟩, ?_⟩
    refine ⟨_, rfl, _, rfl, c, _, rfl, .inr ⟨kvs (l.take i), kk z.1, q, h6, rfl, hq, by rw [kvs_len, List.length_take, sizeLine_eq]; omega, rfl⟩, ?_⟩
    rw [put_kvs (new_at nd ez)]
    refine ⟨some (.ref q), rfl, b6.trans (But.put c H6 _), ?_⟩
    rw [upd_same, GsR.took ez]
  · rintro σ H6 ⟨v4, rfl, b6, h6⟩
    rw [kvs_len, List.take_length] at h6
    have hk1 : H6 d = some (.frz od (.dT (kvs l))) := b6 d _ dc upd_same
    refine ⟨hk1, ?_⟩
    have h7 : (upd H6 d (.dT (kvs l))) c = some (.dT (kvs l)) := (upd_ne (Ne.symm dc)).trans h6
    have s7 : ∀ b o, H b = some o → upd H6 d (.dT (kvs l)) b = some o := fun b o h => by
      by_cases e : b = d
      · rw [e, upd_same]
        have q : H d = some _ := hd
        rw [e, q] at h
        exact h
      · rw [upd_ne e]
        have bc : b ≠ c := fun z => by rw [z, nc] at h; cases h
        exact b6 b o bc ((upd_ne e).trans (s1 b o h))
    have hv7 := s7 _ _ hv
    refine ⟨_, rfl, _, rfl, _, rfl, c, _, rfl, .inr ⟨kvs l, kk x, v, h7, rfl, by rw [kk_tv]; exact hv7, by rw [kvs_len, sizeLine_eq]; omega, rfl⟩, ?_⟩
    rw [put_rule]
    refine ⟨_, rfl, k _ c (fun b o h => ?_) upd_same⟩
    have bc : b ≠ c := fun z => by rw [z, nc] at h; cases h
    rw [upd_ne bc]
    exact s7 b o h
theorem ok_sure_nums {f : Addr} {fd : FuncData} (B : Bt mg) (T : Wc K mg C) (F : Fun K "sure_numbers" "sure_numbers" sSureNums f fd) (dL : Def P w K mg base 7 "longest_of_names" (spLonNames K C)) (dN : Def P w K mg base 3 "names_like" (spNamesLike K)) : FnOk P w K mg base CX0 8 f fd ["world", "rule", "mode"] (spSureNums K C) := by
  refine F.ok scSureNums (fun vs H Q E h => ?_) (fun cdv A outer s H vs Q E hr h => ?_)
  · obtain ⟨a, d, dk, l, m, rfl, _⟩ := h
    rfl
  obtain ⟨a, d2, dk, l, m, rfl, hw, hd, hm, k⟩ := h
  refine ⟨_, pss_cons (ps_set (i := 3) scSureNums.nd rfl (Or.inr rfl) (pe_def dL hr (by decide) (by rfl) (pa_cons (pv 0) (pa_cons (pv 1) (pa_cons (pv 2) pa_nil)))))
    (pss_cons (ps_setLc (i := 4) (own := [("number", 5), ("name", 6)]) (g := gTup K 2 (gCons (gName 5) (gCons (gName 6) gNil))) (tt := tB (tDIn (tVar 6) (tVar 3))) (te := tVar 5) rfl scSureNums.nd rfl rfl (sw_true rfl rfl rfl (by decide +kernel)) (pi_enum (by rfl) B.enumerate (pa_cons (pe_def dN hr (by decide) (by rfl) (pa_cons (pe_fld (pv 0) rfl) pa_nil)) pa_nil))
      (blkOk_by (own := [("number", 5), ("name", 6)]) (N := nSureNums) (sc := defScope sSureNums) (by decide +kernel)) (fun _ _ _ _ _ => pg_tup rfl (pgs_cons (pg_name (i := 5) scSureNums.nd rfl (Or.inl rfl)) (pgs_cons (pg_name (i := 6) scSureNums.nd rfl (Or.inl rfl)) pgs_nil)))
      (fun _ _ _ _ _ => pts_one (pt_cmp (pc_din (hu_of hr) (pv 6) (pv 3)))) (fun _ _ _ _ _ => pv 5))
    (pss_one (ps_ret (pe_op op_cat (pe_lst (pa_cons (pe_callB call_len_seq (by rfl) B.len PySem.boot_len (pa_cons (pv 4) pa_nil)) pa_nil)) (pv 4))))), ?_⟩
  obtain ⟨dx, t, d, h1, h2, h3, g⟩ := id hw
  refine ⟨_, rfl, _, rfl, _, rfl, a, d2, dk, l, m, rfl, hw, hd, hm, fun H1 cL L s1 hL lL _ => ?_⟩
  refine ⟨_, rfl, a, C, dx, _, _, rfl, s1 _ _ h1, T.cl, T.nR, wF_ring _ _ _ _, t, _, rfl, s1 _ _ h2, g.ok, fun H2 p N s2 hp rN eN => ?_⟩
  have eA : N.map (·.2) = Km536.allNames dk := by rw [eN, Gs.allNames_eq]
  have lenN : N.length = (Km536.allNames dk).length := by rw [← eA, List.length_map]
  have fewN := Gs.few_all g.ok
  refine ⟨p, _, rfl, SqL.of hp, fun D nD => ?_⟩
  refine comp_it (walk_enum (K := K) (a := p) (xs := refs N)) nD (by rw [List.length_map, sizeLine_eq]; omega) (fun i ys _ => ys = tv ((List.range i).filter fun j => Km536.sure (withR dk l) m ((Km536.allNames dk).getD j []))) (fun H3 s3 => SqL.of (s3 p _ hp)) rfl (fun _ _ _ _ _ _ _ z => z) (fun i x ys H3 H4 hi s3 hD g3 y R R' done skip => ?_) fun ys H3 s3 hD hy g3 => ?_
  · obtain ⟨Tu, x1, x2, rfl, nT, rfl, e1, e2⟩ := y
    obtain rfl : V.int (i : Nat) = x1 := Option.some.inj e1
    obtain ⟨z, ez, rfl⟩ := row_at e2
    have s4 : Same H3 (upd H3 Tu (.tup [V.int (i : Nat), V.ref z.1])) := same_upd nT
    have zA : (Km536.allNames dk)[i]? = some z.2 := by rw [← eA, List.getElem?_map, ez]; rfl
    have zD : (Km536.allNames dk).getD i [] = z.2 := by rw [List.getD_eq_getElem?_getD, zA]; rfl
    have s34 := s3.trans s4
    refine ⟨Tu, _, rfl, SqT.of upd_same, rfl, _, _, rfl, _, _, rfl, rfl, rfl, _, rfl, _, rfl, cL, _, rfl, get_rule (K := K) ((s2.trans s34) _ _ hL) (s34 _ _ (rN z (List.mem_of_getElem? ez))), _, rfl, ?_⟩
    rw [Option.isSome_map, lL _ (List.mem_of_getElem? zA)]
    have es : Km536.sure (withR dk l) m ((Km536.allNames dk).getD i []) = (Km536.longest (withR dk l) m z.2).isSome := by rw [zD]; rfl
    cases c : (Km536.longest (withR dk l) m z.2).isSome with
    | true =>
      refine ⟨_, rfl, done _ _ s4 ?_⟩
      rw [g3, List.range_succ, List.filter_append, List.filter_cons_of_pos (by rw [es, c]), tv_app]
      rfl
    | false =>
      refine skip _ s4 ?_
      rw [g3, List.range_succ, List.filter_append, List.filter_cons_of_neg (by rw [es, c]; decide)]
      simp
  · have s5 := (s1.trans s2).trans s3
    have er : ys = tv (Km536.sureRanks (withR dk l) m) := by
      rw [g3, List.length_map, lenN]
      rfl
    refine ⟨_, rfl, D, _, rfl, .inl (SqL.of hD), (by show 1 ≤ sizeLine; decide), fun b nb => ?_⟩
    have s6 := same_upd nb (o := .lst [V.int (ys.length : Nat)])
    refine ⟨_, rfl, b, D, _, _, rfl, rfl, upd_same, s6 _ _ hD, ?_, fun b2 nb2 => ?_⟩
    · rw [List.length_map] at hy
      rw [sizeLine_eq]
      show 1 + ys.length ≤ _
      omega
    refine k _ b2 ((s5.trans s6).trans (same_upd nb2)) ((s5.trans s6).free nb2) ?_
    rw [upd_same, er, tv_len]
    rfl
end
end Gp
namespace Gp
open PySem PySem.Spec PyProof.Rows L2
theorem scSvSures : FnScope ["world"] ["world"] (defScope sSvSures) := ⟨rfl, rfl, rfl, by decide +kernel, rfl, by decide +kernel, by decide +kernel⟩
abbrev nSvBegin : List Str := ["world", "longest", "apart", "name"]
theorem scSvBegin : FnScope nSvBegin ["world"] (defScope sSvBegin) := ⟨rfl, rfl, rfl, by decide +kernel, rfl, by decide +kernel, by decide +kernel⟩
theorem scSvIfAt : FnScope ["world", "mode", "refusal"] ["world", "mode"] (defScope sSvIfAt) := ⟨rfl, rfl, rfl, by decide +kernel, rfl, by decide +kernel, by decide +kernel⟩
theorem scSvIfTell : FnScope ["world", "place", "done", "refusal", "view"] ["world", "place", "done"] (defScope sSvIfTell) := ⟨rfl, rfl, rfl, by decide +kernel, rfl, by decide +kernel, by decide +kernel⟩
theorem scSvAllAt : FnScope ["world", "sure", "mode"] ["world"] (defScope sSvAllAt) := ⟨rfl, rfl, rfl, by decide +kernel, rfl, by decide +kernel, by decide +kernel⟩
theorem scSvLongest : FnScope ["world", "number", "names", "longest"] ["world", "number"] (defScope sSvLongest) := ⟨rfl, rfl, rfl, by decide +kernel, rfl, by decide +kernel, by decide +kernel⟩
theorem sures_step (dk : Km535.Desk) : Km536.step (some dk) .sures = (some dk, ⟨((Km536.sureRanks dk dk.at_).length : Nat), ni (Km536.sureRanks dk dk.at_)⟩) := rfl
theorem ifat_no (dk : Km535.Desk) {a : Nat} (h : 2 < a) : Km536.step (some dk) (.ifAt a) = (some dk, ⟨-22, []⟩) := by
  show (some dk, if 2 < a then _ else _) = _
  rw [if_pos h]
  rfl
theorem ifat_yes (dk : Km535.Desk) {a : Nat} (h : ¬ 2 < a) : Km536.step (some dk) (.ifAt a) = (some dk, ⟨((Km536.sureRanks dk a).length : Nat), ni (Km536.sureRanks dk a)⟩) := by
  show (some dk, if 2 < a then _ else _) = _
  rw [if_neg h]
  rfl
theorem iftell_1 (dk : Km535.Desk) {p m : Nat} (h : (Km535.ring dk).length ≤ p) : Km536.step (some dk) (.ifTell p m) = (some dk, ⟨-2, []⟩) := by
  show (some dk, if Km535.n_ dk ≤ p then _ else _) = _
  rw [if_pos (show Km535.n_ dk ≤ p from h)]
  rfl
theorem iftell_2 (dk : Km535.Desk) {p m : Nat} (h : ¬ (Km535.ring dk).length ≤ p) (h2 : (Km535.ring dk).getD p 0 = 0) : Km536.step (some dk) (.ifTell p m) = (some dk, ⟨-33, []⟩) := by
  show (some dk, if Km535.n_ dk ≤ p then _ else _) = _
  rw [if_neg (show ¬ Km535.n_ dk ≤ p from h), if_pos h2]
  rfl
theorem iftell_3 (dk : Km535.Desk) {p m : Nat} (h : ¬ (Km535.ring dk).length ≤ p) (h2 : ¬ (Km535.ring dk).getD p 0 = 0) (h3 : 2 < m ∨ (m = 2 ∧ Km534.even_ dk.see p = true)) : Km536.step (some dk) (.ifTell p m) = (some dk, ⟨-22, []⟩) := by
  show (some dk, if Km535.n_ dk ≤ p then _ else _) = _
  rw [if_neg (show ¬ Km535.n_ dk ≤ p from h), if_neg h2, if_pos h3]
  rfl
theorem iftell_4 (dk : Km535.Desk) {p m : Nat} (h : ¬ (Km535.ring dk).length ≤ p) (h2 : ¬ (Km535.ring dk).getD p 0 = 0) (h3 : ¬ (2 < m ∨ (m = 2 ∧ Km534.even_ dk.see p = true))) :
    Km536.step (some dk) (.ifTell p m) = (some dk, ⟨((Km536.sureRanks (withR dk (setR dk.rule (Km535.viewAt dk p) m)) dk.at_).length : Nat), ni (Km536.sureRanks (withR dk (setR dk.rule (Km535.viewAt dk p) m)) dk.at_)⟩) := by
  show (some dk, if Km535.n_ dk ≤ p then _ else _) = _
  rw [if_neg (show ¬ Km535.n_ dk ≤ p from h), if_neg h2, if_neg h3]
  rfl
theorem allat_step (dk : Km535.Desk) : Km536.step (some dk) .allAt = (some dk, ⟨((Km536.sureRanks dk 0).length : Nat), [((Km536.sureRanks dk 1).length : Int), ((Km536.sureRanks dk 2).length : Int), ((Km536.allNames dk).length : Int)]⟩) := rfl
theorem begin_step (dk : Km535.Desk) : Km536.step (some dk) .beginnings = (some dk, ⟨((((Km536.allNames dk).filter fun r => Km536.apart r).filter fun r => Km536.sure dk dk.at_ r).length : Nat), [(((Km536.allNames dk).filter fun r => Km536.apart r).length : Int)]⟩) := rfl
theorem lonof_no (dk : Km535.Desk) {i : Nat} (h : (Km536.allNames dk)[i]? = none) : Km536.step (some dk) (.longestOf i) = (some dk, ⟨-2, []⟩) := by
  show (some dk, match (Km536.allNames dk)[i]? with | none => _ | some r => _) = _
  rw [h]
  rfl
theorem lonof_yes (dk : Km535.Desk) {i : Nat} {r : List Nat} (h : (Km536.allNames dk)[i]? = some r) : Km536.step (some dk) (.longestOf i) = (some dk, Km536.sayO (Km536.longest dk dk.at_ r)) := by
  show (some dk, match (Km536.allNames dk)[i]? with | none => _ | some r => _) = _
  rw [h]
/-- how many the dict of the most moves tells of -/
theorem way_count {dk : Km535.Desk} (ok : Gs.DOk dk) {m : Nat} {F : List (List Nat × Nat)} (w : Way dk m F) (h : ∀ x ∈ Km536.allNames dk, look F x = Km536.longest dk m x) : F.length = (Km536.sureRanks dk m).length := by
  have := Gs.sure_count ok (a := m) (L := F.map (·.1)) w.once fun x => by
    constructor
    · intro hx
      obtain ⟨q, hq, rfl⟩ := List.mem_map.mp hx
      have xa := w.sub q hq
      refine ⟨xa, ?_⟩
      show (Km536.longest dk m q.1).isSome = true
      rw [← h _ xa]
      cases c : look F q.1 with
      | some n => rfl
      | none => exact (look_none c q hq rfl).elim
    · rintro ⟨xa, hs⟩
      have hs : (Km536.longest dk m x).isSome = true := hs
      rw [← h _ xa] at hs
      cases c : F.find? fun q => q.1 == x with
      | none =>
        unfold look at hs
        rw [c] at hs
        cases hs
      | some q =>
        have e : q.1 = x := by simpa using List.find?_some c
        exact List.mem_map.mpr ⟨q, List.mem_of_find?_eq_some c, e⟩
  rw [List.length_map] at this
  exact this
section
variable {P : Program} {w : World} {K : PySem.W.Frag} {mg : Str → Option Value} {base : Heap} {C : Addr}
theorem ok_sv_sures {f : Addr} {fd : FuncData} (T : Wc K mg C) (F : Fun K "survey_sures" "survey_sures" sSvSures f fd) (dS : Def P w K mg base 8 "sure_numbers" (spSureNums K C)) : FnOk P w K mg base CX0 9 f fd ["world"] (sp0 K C .sures) := by
  refine F.ok scSvSures (fun vs H Q E h => ?_) (fun cdv A outer s H vs Q E hr h => ?_)
  · obtain ⟨a, dk, rfl, _⟩ := h
    rfl
  obtain ⟨a, dk, rfl, hw, k⟩ := h
  refine ⟨_, pss_one (ps_ret (pe_def dS hr (by decide) (by rfl) (pa_cons (pv 0) (pa_cons (pe_fld (pv 0) rfl) (pa_cons (pe_fld (pv 0) rfl) pa_nil))))), ?_⟩
  obtain ⟨dx, t, d, h1, h2, h3, g⟩ := id hw
  exact ⟨_, rfl, _, rfl, a, C, dx, _, _, rfl, h1, T.cl, T.nU, wF_rule _ _ _ _, _, rfl, a, C, dx, _, _, rfl, h1, T.cl, T.nM, wF_mode _ _ _ _, a, d, dk, dk.rule, dk.at_, rfl, hw, h3, g.at2, fun H1 b s1 nb hb => k H1 b (aft_new (sures_step dk) hw s1 nb hb)⟩
theorem ok_sv_ifat {f : Addr} {fd : FuncData} (T : Wc K mg C) (F : Fun K "survey_if_at" "survey_if_at" sSvIfAt f fd) (dM : Def P w K mg base 1 "refusal_of_mode" spRefMode) (dS : Def P w K mg base 8 "sure_numbers" (spSureNums K C)) : FnOk P w K mg base CX0 9 f fd ["world", "mode"] (sp1 K C .ifAt) := by
  refine F.ok scSvIfAt (fun vs H Q E h => ?_) (fun cdv A outer s H vs Q E hr h => ?_)
  · obtain ⟨a, dk, x, rfl, _⟩ := h
    rfl
  obtain ⟨a, dk, x, rfl, hw, k⟩ := h
  refine ⟨_, pss_cons (ps_set (i := 2) scSvIfAt.nd rfl (Or.inl rfl) (pe_def dM hr (by decide) (by rfl) (pa_cons (pv 1) pa_nil)))
    (pss_cons (ps_if (pt_cmpR op_notN (pv 2) pe_non (nomark _)) (pss_one (ps_ret (pe_lst (pa_cons (pv 2) pa_nil)))) pss_nil)
    (pss_one (ps_ret (pe_def dS hr (by decide) (by rfl) (pa_cons (pv 0) (pa_cons (pe_fld (pv 0) rfl) (pa_cons (pv 1) pa_nil))))))), ?_⟩
  obtain ⟨dx, t, d, h1, h2, h3, g⟩ := id hw
  refine ⟨_, rfl, x, rfl, ?_⟩
  by_cases c : 2 < x
  · rw [show refM x = .int (-22) from if_pos c]
    exact ⟨_, rfl, rfl, _, rfl, _, rfl, (by show 1 ≤ sizeLine; decide), fun l nl => k _ l (aft_stay (ifat_no dk c) hw (Same.refl H) nl)⟩
  rw [show refM x = .non from if_neg c]
  exact ⟨_, rfl, rfl, _, rfl, _, rfl, _, rfl, a, C, dx, _, _, rfl, h1, T.cl, T.nU, wF_rule _ _ _ _, _, rfl, a, d, dk, dk.rule, x, rfl, hw, h3, by omega, fun H1 b s1 nb hb => k H1 b (aft_new (ifat_yes dk c) hw s1 nb hb)⟩
theorem ok_sv_iftell {f : Addr} {fd : FuncData} (T : Wc K mg C) (F : Fun K "survey_if_tell" "survey_if_tell" sSvIfTell f fd) (dR : Def P w K mg base 5 "refusal_of_done" (spRefDone K C)) (dV : Def P w K mg base 2 "view_of" (spView K)) (dW : Def P w K mg base 1 "rule_with" (spRuleWith K)) (dS : Def P w K mg base 8 "sure_numbers" (spSureNums K C)) : FnOk P w K mg base CX0 9 f fd ["world", "place", "done"] (sp2 K C .ifTell) := by
  refine F.ok scSvIfTell (fun vs H Q E h => ?_) (fun cdv A outer s H vs Q E hr h => ?_)
  · obtain ⟨a, dk, p, m, rfl, _⟩ := h
    rfl
  obtain ⟨a, dk, p, m, rfl, hw, k⟩ := h
  refine ⟨_, pss_cons (ps_set (i := 3) scSvIfTell.nd rfl (Or.inl rfl) (pe_def dR hr (by decide) (by rfl) (pa_cons (pv 0) (pa_cons (pv 1) (pa_cons (pv 2) pa_nil)))))
    (pss_cons (ps_if (pt_cmpR op_notN (pv 3) pe_non (nomark _)) (pss_one (ps_ret (pe_lst (pa_cons (pv 3) pa_nil)))) pss_nil)
    (pss_cons (ps_set (i := 4) scSvIfTell.nd rfl (Or.inl rfl) (pe_def dV hr (by decide) (by rfl) (pa_cons (pe_fld (pv 0) rfl) (pa_cons (pe_fld (pv 0) rfl) (pa_cons (pv 1) pa_nil)))))
    (pss_one (ps_ret (pe_def dS hr (by decide) (by rfl) (pa_cons (pv 0) (pa_cons (pe_def dW hr (by decide) (by rfl) (pa_cons (pe_fld (pv 0) rfl) (pa_cons (pv 4) (pa_cons (pv 2) pa_nil)))) (pa_cons (pe_fld (pv 0) rfl) pa_nil)))))))), ?_⟩
  obtain ⟨dx, t, d, h1, h2, h3, g⟩ := id hw
  have hi := g.ok.hi
  refine ⟨_, rfl, _, rfl, _, rfl, a, dk, p, m, rfl, hw, fun H1 s1 => ?_⟩
  rcases refD_cases dk p m with ⟨c1, e⟩ | ⟨c1, c2, e⟩ | ⟨c1, c2, c3, e⟩ | ⟨c1, c2, c3, e⟩
  · rw [e]
    exact ⟨_, rfl, rfl, _, rfl, _, rfl, (by show 1 ≤ sizeLine; decide), fun l nl => k _ l (aft_stay (iftell_1 dk c1) hw s1 nl)⟩
  · rw [e]
    exact ⟨_, rfl, rfl, _, rfl, _, rfl, (by show 1 ≤ sizeLine; decide), fun l nl => k _ l (aft_stay (iftell_2 dk c1 c2) hw s1 nl)⟩
  · rw [e]
    exact ⟨_, rfl, rfl, _, rfl, _, rfl, (by show 1 ≤ sizeLine; decide), fun l nl => k _ l (aft_stay (iftell_3 dk c1 c2 c3) hw s1 nl)⟩
  rw [e]
  have hp : p < (Km535.ring dk).length := by omega
  refine ⟨_, rfl, rfl, _, rfl, ?_⟩
  refine ⟨_, rfl, a, C, dx, _, _, rfl, s1 _ _ h1, T.cl, T.nR, wF_ring _ _ _ _, _, rfl, a, C, dx, _, _, rfl, s1 _ _ h1, T.cl, T.nE, wF_eyes _ _ _ _, _, rfl, t, _, _, p, rfl, s1 _ _ h2, g.ey, hp, by omega, fun H2 b2 s2 t2 => ?_⟩
  rw [← viewAt_is dk p] at t2
  have s3 := s1.trans s2
  refine ⟨_, rfl, _, rfl, a, C, dx, _, _, rfl, s3 _ _ h1, T.cl, T.nU, wF_rule _ _ _ _, _, rfl, _, rfl, d, b2, dk.rule, _, m, rfl, s3 _ _ h3, t2, g.once, g.few, fun H4 c4 s4 r4 => ?_⟩
  have s5 := s3.trans s4
  exact ⟨_, rfl, a, C, dx, _, _, rfl, s5 _ _ h1, T.cl, T.nM, wF_mode _ _ _ _, a, c4, dk, _, dk.at_, rfl, hw.same s5, r4, g.at2, fun H6 b s6 nb hb => k H6 b (aft_new (iftell_4 dk c1 c2 c3) hw (s5.trans s6) (s5.free nb) hb)⟩
theorem ok_sv_longest {f : Addr} {fd : FuncData} (B : Bt mg) (T : Wc K mg C) (M : Nm mg) (F : Fun K "survey_longest_of" "survey_longest_of" sSvLongest f fd) (dN : Def P w K mg base 3 "names_like" (spNamesLike K)) (dL : Def P w K mg base 7 "longest_of_names" (spLonNames K C)) : FnOk P w K mg base CX0 8 f fd ["world", "number"] (sp1 K C .longestOf) := by
  refine F.ok scSvLongest (fun vs H Q E h => ?_) (fun cdv A outer s H vs Q E hr h => ?_)
  · obtain ⟨a, dk, i, rfl, _⟩ := h
    rfl
  obtain ⟨a, dk, i, rfl, hw, k⟩ := h
  refine ⟨_, pss_cons (ps_set (i := 2) scSvLongest.nd rfl (Or.inl rfl) (pe_def dN hr (by decide) (by rfl) (pa_cons (pe_fld (pv 0) rfl) pa_nil)))
    (pss_cons (ps_if (pt_cmpR op_ge (pv 1) (pe_callB call_len_seq (by rfl) B.len PySem.boot_len (pa_cons (pv 2) pa_nil)) (nomark _)) (pss_one (ps_ret (pe_lst (pa_cons (pe_num M.noPlace rfl) pa_nil)))) pss_nil)
    (pss_cons (ps_set (i := 3) scSvLongest.nd rfl (Or.inl rfl) (pe_def dL hr (by decide) (by rfl) (pa_cons (pv 0) (pa_cons (pe_fld (pv 0) rfl) (pa_cons (pe_fld (pv 0) rfl) pa_nil)))))
    (pss_one (ps_ret (pe_lst (pa_cons (pe_dget2 (hu_of hr) (pv 3) (pe_ix (r := rIxL K) ix_list (pv 2) (pv 1) (fun _ _ => rfl)) (pe_num M.notThere rfl) ⟨rfl, rfl, rfl, rfl⟩) pa_nil)))))), ?_⟩
  obtain ⟨dx, t, d, h1, h2, h3, g⟩ := id hw
  refine ⟨_, rfl, a, C, dx, _, _, rfl, h1, T.cl, T.nR, wF_ring _ _ _ _, t, _, rfl, h2, g.ok, fun H1 p1 N s1 l1 r1 e1 => ?_⟩
  refine ⟨_, rfl, _, rfl, p1, _, rfl, .inl (SqL.of l1), _, _, rfl, rfl, _, rfl, ?_⟩
  rw [show (refs N).length = N.length from List.length_map _]
  have eN : ∀ j : Nat, (Km536.allNames dk)[j]? = (N[j]?).map (·.2) := fun j => by rw [Gs.allNames_eq, ← e1, List.getElem?_map]
  by_cases c : N.length ≤ i
  · exact iteDT (by omega) ⟨(by show 1 ≤ sizeLine; decide), fun l nl => k _ l (aft_stay (lonof_no dk (by rw [eN, List.getElem?_eq_none c]; rfl)) hw s1 nl)⟩
  refine iteDF (by omega) ?_
  have ci : i < N.length := by omega
  obtain ⟨q, hq⟩ : ∃ q, N[i]? = some q := ⟨_, List.getElem?_eq_getElem ci⟩
  have qA : (Km536.allNames dk)[i]? = some q.2 := by rw [eN, hq]; rfl
  refine ⟨_, rfl, _, rfl, a, C, dx, _, _, rfl, s1 _ _ h1, T.cl, T.nU, wF_rule _ _ _ _, _, rfl, a, C, dx, _, _, rfl, s1 _ _ h1, T.cl, T.nM, wF_mode _ _ _ _, a, d, dk, dk.rule, dk.at_, rfl, hw.same s1, s1 _ _ h3, g.at2, fun H2 cL L s2 hL lL _ => ?_⟩
  have s3 := s1.trans s2
  refine ⟨_, rfl, cL, rfl, .inr ⟨_, .inl hL⟩, _, rfl, _, rfl, p1, _, _, V.ref q.1, rfl, rfl, SqL.of (s2 _ _ l1), atI_nat (by rw [List.getElem?_map, hq]; rfl), _, get_rule (K := K) hL (s2 _ _ (r1 q (List.mem_of_getElem? hq))), (by show 1 ≤ sizeLine; decide), fun l nl => k _ l ?_⟩
  have st := lonof_yes dk qA
  rw [← show look L q.2 = Km536.longest dk dk.at_ q.2 from lL _ (List.mem_of_getElem? qA)] at st
  cases e : look L q.2 <;> rw [e] at st <;> exact aft_stay st hw s3 nl
theorem ok_sv_begin {f : Addr} {fd : FuncData} (B : Bt mg) (T : Wc K mg C) (F : Fun K "survey_beginnings" "survey_beginnings" sSvBegin f fd) (dN : Def P w K mg base 3 "names_like" (spNamesLike K)) (dA : Def P w K mg base 1 "all_apart" (spApart K)) (dL : Def P w K mg base 7 "longest_of_names" (spLonNames K C)) : FnOk P w K mg base CX0 8 f fd ["world"] (sp0 K C .beginnings) := by
  refine F.ok scSvBegin (fun vs H Q E h => ?_) (fun cdv A outer s H vs Q E hr h => ?_)
  · obtain ⟨a, dk, rfl, _⟩ := h
    rfl
  obtain ⟨a, dk, rfl, hw, k⟩ := h
  refine ⟨_, pss_cons (ps_set (i := 1) scSvBegin.nd rfl (Or.inr rfl) (pe_def dL hr (by decide) (by rfl) (pa_cons (pv 0) (pa_cons (pe_fld (pv 0) rfl) (pa_cons (pe_fld (pv 0) rfl) pa_nil)))))
    (pss_cons (ps_setLc (i := 2) (own := [("name", 3)]) (g := gName 3) (tt := tB (tCall (spApart K) [] E0 (tCons (tVar 3) tNil))) (te := tVar 3) rfl scSvBegin.nd rfl rfl (sw_true rfl rfl rfl (by decide +kernel)) (pi_list (pe_def dN hr (by decide) (by rfl) (pa_cons (pe_fld (pv 0) rfl) pa_nil)))
      (blkOk_by (own := [("name", 3)]) (N := nSvBegin) (sc := defScope sSvBegin) (by decide +kernel)) (fun _ _ _ _ _ => pg_name (i := 3) scSvBegin.nd rfl (Or.inl rfl)) (fun _ _ _ _ _ => pts_one (pt_val (pe_def dA hr (by decide) (by rfl) (pa_cons (pv 3) pa_nil)))) (fun _ _ _ _ _ => pv 3))
    (pss_one (ps_ret (pe_lst (pa_cons (pe_callB call_len_seq (by rfl) B.len PySem.boot_len (pa_cons (pe_lc (own := [("name", 3)]) (g := gName 3) (tt := tB (tDIn (tVar 3) (tVar 1))) (te := tVar 3) rfl scSvBegin.nd (pi_list (pv 2)) (blkOk_by (own := [("name", 3)]) (N := nSvBegin) (sc := defScope sSvBegin) (by decide +kernel))
        (fun _ _ _ _ _ => pg_name (i := 3) scSvBegin.nd rfl (Or.inl rfl)) (fun _ _ _ _ _ => pts_one (pt_cmp (pc_din (hu_of hr) (pv 3) (pv 1)))) (fun _ _ _ _ _ => pv 3)) pa_nil)) (pa_cons (pe_callB call_len_seq (by rfl) B.len PySem.boot_len (pa_cons (pv 2) pa_nil)) pa_nil)))))), ?_⟩
  obtain ⟨dx, t, d, h1, h2, h3, g⟩ := id hw
  refine ⟨_, rfl, _, rfl, a, C, dx, _, _, rfl, h1, T.cl, T.nU, wF_rule _ _ _ _, _, rfl, a, C, dx, _, _, rfl, h1, T.cl, T.nM, wF_mode _ _ _ _, a, d, dk, dk.rule, dk.at_, rfl, hw, h3, g.at2, fun H1 cL L s1 hL lL _ => ?_⟩
  refine ⟨_, rfl, a, C, dx, _, _, rfl, s1 _ _ h1, T.cl, T.nR, wF_ring _ _ _ _, t, _, rfl, s1 _ _ h2, g.ok, fun H2 p N s2 hp rN eN => ?_⟩
  have eA : N.map (·.2) = Km536.allNames dk := by rw [eN, Gs.allNames_eq]
  have lenN : N.length = (Km536.allNames dk).length := by rw [← eA, List.length_map]
  have fewN := Gs.few_all g.ok
  have aN : ∀ z ∈ N, z.2 ∈ Km536.allNames dk := fun z hz => by rw [← eA]; exact List.mem_map.mpr ⟨z, hz, rfl⟩
  refine ⟨p, rfl, ⟨_, SqL.of hp⟩, fun D nD => ?_⟩
  refine comp_it (walk_list (K := K) (a := p) (xs := refs N)) nD (by rw [List.length_map, sizeLine_eq]; omega) (fun i ys _ => ys = refs ((N.take i).filter fun z => Km536.apart z.2)) (fun H3 s3 => SqL.of (s3 p _ hp)) rfl (fun _ _ _ _ _ _ _ z => z) (fun i x ys H3 H4 hi s3 hD g3 y R R' done skip => ?_) fun ys H3 s3 hD hy g3 => ?_
  · obtain ⟨rfl, hx⟩ := y
    obtain ⟨z, ez, rfl⟩ := row_at hx
    have zN := List.mem_of_getElem? ez
    refine ⟨rfl, _, rfl, z.1, z.2, rfl, s3 _ _ (rN z zN), (Gs.ok_all g.ok (aN z zN)).1, _, rfl, ?_⟩
    cases c : Km536.apart z.2 with
    | true =>
      refine ⟨_, rfl, done _ _ (Same.refl _) ?_⟩
      rw [g3, GsR.took ez, List.filter_append, List.filter_cons_of_pos (by rw [c])]
      exact refs_snoc _ z.1 z.2
    | false =>
      refine skip _ (Same.refl _) ?_
      rw [g3, GsR.took ez, List.filter_append, List.filter_cons_of_neg (by rw [c]; decide)]
      simp
  rw [List.length_map, List.take_length] at g3
  generalize hM : (N.filter fun z => Km536.apart z.2) = Mr at g3
  have MN : ∀ z ∈ Mr, z ∈ N := fun z hz => by
    rw [← hM] at hz
    exact (List.mem_filter.mp hz).1
  have eM : Mr.map (·.2) = (Km536.allNames dk).filter fun r => Km536.apart r := by
    rw [← eA, ← hM, List.filter_map]
    rfl
  have lenM : Mr.length ≤ N.length := by
    rw [← hM]
    exact List.length_filter_le _ _
  have s4 := s2.trans s3
  rw [g3] at hD
  refine ⟨_, rfl, D, rfl, ⟨_, SqL.of hD⟩, fun D2 nD2 => ?_⟩
  refine comp_it (walk_list (K := K) (a := D) (xs := refs Mr)) nD2 (by rw [List.length_map, sizeLine_eq]; omega) (fun i ys _ => ys = refs ((Mr.take i).filter fun z => Km536.sure dk dk.at_ z.2)) (fun H5 s5 => SqL.of (s5 D _ hD)) rfl (fun _ _ _ _ _ _ _ z => z) (fun i x ys H5 H6 hi s5 hD5 g5 y R R' done skip => ?_) fun ys H5 s5 hD5 hy5 g5 => ?_
  · obtain ⟨rfl, hx⟩ := y
    obtain ⟨z, ez, rfl⟩ := row_at hx
    have zN := MN z (List.mem_of_getElem? ez)
    refine ⟨rfl, _, rfl, _, rfl, cL, _, rfl, get_rule (K := K) ((s4.trans s5) _ _ hL) ((s3.trans s5) _ _ (rN z zN)), _, rfl, ?_⟩
    rw [Option.isSome_map, lL _ (aN z zN)]
    have es : Km536.sure dk dk.at_ z.2 = (Km536.longest (withR dk dk.rule) dk.at_ z.2).isSome := rfl
    cases c : (Km536.longest (withR dk dk.rule) dk.at_ z.2).isSome with
    | true =>
      refine ⟨_, rfl, done _ _ (Same.refl _) ?_⟩
      rw [g5, GsR.took ez, List.filter_append, List.filter_cons_of_pos (by rw [es, c])]
      exact refs_snoc _ z.1 z.2
    | false =>
      refine skip _ (Same.refl _) ?_
      rw [g5, GsR.took ez, List.filter_append, List.filter_cons_of_neg (by rw [es, c]; decide)]
      simp
  rw [List.length_map, List.take_length] at g5
  refine ⟨D2, _, rfl, .inl (SqL.of hD5), _, rfl, D, _, rfl, .inl (SqL.of (s5 _ _ hD)), (by show 2 ≤ sizeLine; decide), fun l nl => k _ l ?_⟩
  have st := begin_step dk
  have l1 : ys.length = (((Km536.allNames dk).filter fun r => Km536.apart r).filter fun r => Km536.sure dk dk.at_ r).length := by
    rw [g5, List.length_map, ← eM, List.filter_map, List.length_map]
    rfl
  have l2 : (refs Mr).length = ((Km536.allNames dk).filter fun r => Km536.apart r).length := by rw [List.length_map, ← eM, List.length_map]
  rw [← l1, ← l2] at st
  exact aft_stay st hw ((s1.trans s4).trans s5) nl
theorem ok_sv_allat {f : Addr} {fd : FuncData} (B : Bt mg) (T : Wc K mg C) (M : Nm mg) (F : Fun K "survey_all_at" "survey_all_at" sSvAllAt f fd) (dN : Def P w K mg base 3 "names_like" (spNamesLike K)) (dL : Def P w K mg base 7 "longest_of_names" (spLonNames K C)) : FnOk P w K mg base CX0 8 f fd ["world"] (sp0 K C .allAt) := by
  refine F.ok scSvAllAt (fun vs H Q E h => ?_) (fun cdv A outer s H vs Q E hr h => ?_)
  · obtain ⟨a, dk, rfl, _⟩ := h
    rfl
  obtain ⟨a, dk, rfl, hw, k⟩ := h
  refine ⟨_, pss_cons (ps_setLc (i := 1) (own := [("mode", 2)]) (g := gName 2) (tt := tYes) (te := tCB rLenT (tCons (tCall (spLonNames K C) [] E0 (tCons (tVar 0) (tCons (tFld K (tVar 0) "rule") (tCons (tVar 2) tNil)))) tNil)) rfl scSvAllAt.nd rfl rfl (sw_true rfl rfl rfl (by decide +kernel)) (pi_range1 rfl B.range (pa_cons (pe_op op_add (pe_num M.lastMode rfl) pe_int) pa_nil))
      (blkOk_by (own := [("mode", 2)]) (N := ["world", "sure", "mode"]) (sc := defScope sSvAllAt) (by decide +kernel)) (fun _ _ _ _ _ => pg_name (i := 2) scSvAllAt.nd rfl (Or.inl rfl)) (fun _ _ _ _ _ => pts_nil) (fun _ _ _ _ _ => pe_callB call_len_dT (by rfl) B.len PySem.boot_len (pa_cons (pe_def dL hr (by decide) (by rfl) (pa_cons (pv 0) (pa_cons (pe_fld (pv 0) rfl) (pa_cons (pv 2) pa_nil)))) pa_nil)))
    (pss_one (ps_ret (pe_op op_cat (pv 1) (pe_lst (pa_cons (pe_callB call_len_seq (by rfl) B.len PySem.boot_len (pa_cons (pe_def dN hr (by decide) (by rfl) (pa_cons (pe_fld (pv 0) rfl) pa_nil)) pa_nil)) pa_nil))))), ?_⟩
  obtain ⟨dx, t, d, h1, h2, h3, g⟩ := id hw
  refine ⟨_, _, rfl, rfl, (3 : Int), rfl, by decide, by decide, fun D nD => ?_⟩
  refine comp_it (walk_range (lo := 0) (n := 3)) nD (by rw [sizeLine_eq]; omega) (fun i ys _ => ys = tv ((List.range i).map fun m => (Km536.sureRanks dk m).length)) (fun _ _ => trivial) rfl (fun _ _ _ _ _ _ _ z => z) (fun i x ys H1 H2 hi s1 hD g1 y R R' done _ => ?_) fun ys H1 s1 hD hy g1 => ?_
  · obtain ⟨rfl, rfl⟩ := y
    refine ⟨rfl, _, rfl, _, rfl, a, C, dx, _, _, rfl, s1 _ _ h1, T.cl, T.nU, wF_rule _ _ _ _, _, rfl, a, d, dk, dk.rule, i, ?_, hw.same s1, s1 _ _ h3, by omega, fun H3 cL L s3 hL lL wL => ?_⟩
    · show [V.ref a, V.ref d, V.int (0 + (i : Int))] = _
      rw [Int.zero_add]
    refine ⟨cL, kvs L, rfl, hL, done _ _ s3 ?_⟩
    have e := way_count (dk := dk) g.ok wL lL
    rw [g1, kvs_len, e, List.range_succ, List.map_append, tv_app]
    rfl
  · refine ⟨_, rfl, _, rfl, a, C, dx, _, _, rfl, s1 _ _ h1, T.cl, T.nR, wF_ring _ _ _ _, t, _, rfl, s1 _ _ h2, g.ok, fun H2 p N s2 hp rN eN => ?_⟩
    have eA : N.map (·.2) = Km536.allNames dk := by rw [eN, Gs.allNames_eq]
    refine ⟨p, _, rfl, .inl (SqL.of hp), (by show 1 ≤ sizeLine; decide), fun b nb => ?_⟩
    have s3 := same_upd nb (o := .lst [V.int ((refs N).length : Nat)])
    refine ⟨D, b, _, _, rfl, rfl, s3 _ _ (s2 _ _ hD), upd_same, ?_, fun b2 nb2 => k _ b2 ?_⟩
    · rw [sizeLine_eq]
      show ys.length + 1 ≤ _
      omega
    have st := allat_step dk
    have l1 : (Km536.allNames dk).length = (refs N).length := by rw [← eA, List.length_map, List.length_map]
    rw [l1] at st
    have ev : ys ++ [V.int ((refs N).length : Nat)] = ([((Km536.sureRanks dk 0).length : Int), ((Km536.sureRanks dk 1).length : Int), ((Km536.sureRanks dk 2).length : Int), ((refs N).length : Int)] : List Int).map V.int := by
      rw [g1]
      rfl
    rw [ev]
    exact aft_stay st hw ((s1.trans s2).trans s3) nb2
end
end Gp
namespace Gp
open PySem PySem.Spec PyProof.Rows L2
theorem scIsQuestion : FnScope ["call"] ["call"] (defScope sIsQuestion) := ⟨rfl, rfl, rfl, by decide +kernel, rfl, by decide +kernel, by decide +kernel⟩
theorem scAnsQuestion : FnScope ["world", "call"] ["world", "call"] (defScope sAnsQuestion) := ⟨rfl, rfl, rfl, by decide +kernel, rfl, by decide +kernel, by decide +kernel⟩
theorem scAnsSurvey : FnScope ["world", "call", "arguments"] ["world", "call", "arguments"] (defScope sAnsSurvey) := ⟨rfl, rfl, rfl, by decide +kernel, rfl, by decide +kernel, by decide +kernel⟩
theorem scAnsCall : FnScope ["world", "call", "arguments"] ["world", "call", "arguments"] (defScope sAnsCall) := ⟨rfl, rfl, rfl, by decide +kernel, rfl, by decide +kernel, by decide +kernel⟩
def isQ (c : Nat) : Bool := ([7, 8, 9, 10, 11, 14, 15, 16, 21, 22] : List Nat).contains c
def isS (c : Nat) : Bool := ([12, 13, 17, 18, 19, 20] : List Nat).contains c
/-- where the questions' defs stand -/
structure QAt where
  (ring rank done sure longest soonest bad worst hopeless told : Addr)
abbrev QAt.tab (q : QAt) : List (Int × Addr) := [(7, q.ring), (8, q.rank), (9, q.done), (10, q.sure), (11, q.longest), (14, q.soonest), (15, q.bad), (16, q.worst), (21, q.hopeless), (22, q.told)]
theorem q_lookup (q : QAt) (c : Nat) : (q.tab.lookup (c : Int)).isSome = isQ c := by
  by_cases h : c < 23
  · have all : ∀ c : Fin 23, (q.tab.lookup ((c.val : Nat) : Int)).isSome = isQ c.val := by
      intro c
      match c with
      | ⟨0, _⟩ => rfl | ⟨1, _⟩ => rfl | ⟨2, _⟩ => rfl | ⟨3, _⟩ => rfl | ⟨4, _⟩ => rfl | ⟨5, _⟩ => rfl | ⟨6, _⟩ => rfl | ⟨7, _⟩ => rfl
      | ⟨8, _⟩ => rfl | ⟨9, _⟩ => rfl | ⟨10, _⟩ => rfl | ⟨11, _⟩ => rfl | ⟨12, _⟩ => rfl | ⟨13, _⟩ => rfl | ⟨14, _⟩ => rfl | ⟨15, _⟩ => rfl
      | ⟨16, _⟩ => rfl | ⟨17, _⟩ => rfl | ⟨18, _⟩ => rfl | ⟨19, _⟩ => rfl | ⟨20, _⟩ => rfl | ⟨21, _⟩ => rfl | ⟨22, _⟩ => rfl | ⟨n + 23, h⟩ => omega
    exact all ⟨c, h⟩
  · have e1 : isQ c = false := by
      unfold isQ
      simp
      omega
    rw [e1, lookup_no (by simp; omega)]
    rfl
def spQuestion (K : PySem.W.Frag) (C : Addr) : Sp := fun vs H Q _ => ∃ (a : Addr) (dk : Km535.Desk) (c : Nat) (xs : List Nat) (cl : Km536.Call), vs = [.ref a, .int c] ∧ WAt K C H a (some dk) ∧ Gs.CallIs c xs cl ∧ isQ c = true ∧ ∀ H' b, Aft K C H a (some dk) cl H' b → Q (.ref b) H'
def spSurvey (K : PySem.W.Frag) (C : Addr) : Sp := fun vs H Q _ => ∃ (a l : Addr) (dk : Km535.Desk) (c : Nat) (xs : List Nat) (cl : Km536.Call), vs = [.ref a, .int c, .ref l] ∧ WAt K C H a (some dk) ∧ H l = some (.lst (tv xs)) ∧ Gs.CallIs c xs cl ∧ isS c = true ∧ ∀ H' b, Aft K C H a (some dk) cl H' b → Q (.ref b) H'
section
variable {P : Program} {w : World} {K : PySem.W.Frag} {mg : Str → Option Value} {base : Heap} {C : Addr}
theorem ok_is_question {f : Addr} {fd : FuncData} {q : QAt} (TQ : GsR.TabL K mg "QUESTIONS" q.tab) (F : Fun K "is_question" "is_question" sIsQuestion f fd) : FnOk P w K mg base CX0 1 f fd ["call"] (spIsT isQ) := by
  refine F.ok scIsQuestion (fun vs H Q E h => ?_) (fun cdv A outer s H vs Q E hr h => ?_)
  · obtain ⟨c, rfl, _⟩ := h
    rfl
  obtain ⟨c, rfl, k⟩ := h
  refine ⟨_, pss_one (ps_ret (GsR.pe_inT TQ (pv 0) (by rfl) (GsR.mono_var 0))), ?_⟩
  refine ⟨_, rfl, _, rfl, ?_⟩
  rw [q_lookup]
  exact k
theorem ok_ans_question {k : Nat} {f : Addr} {fd : FuncData} {q : QAt} (TQ : GsR.TabL K mg "QUESTIONS" q.tab) (F : Fun K "answer_question" "answer_question" sAnsQuestion f fd)
    (d7 : DefAt P w K mg base k q.ring (sp0 K C .ring)) (d8 : DefAt P w K mg base k q.rank (sp0 K C .rank)) (d9 : DefAt P w K mg base k q.done (sp0 K C .done)) (d10 : DefAt P w K mg base k q.sure (sp0 K C .sure)) (d11 : DefAt P w K mg base k q.longest (sp0 K C .longest))
    (d14 : DefAt P w K mg base k q.soonest (sp0 K C .soonest)) (d15 : DefAt P w K mg base k q.bad (sp0 K C .bad)) (d16 : DefAt P w K mg base k q.worst (sp0 K C .worst)) (d21 : DefAt P w K mg base k q.hopeless (sp0 K C .hopeless)) (d22 : DefAt P w K mg base k q.told (sp0 K C .told)) :
    FnOk P w K mg base CX0 (k + 1) f fd ["world", "call"] (spQuestion K C) := by
  refine F.ok scAnsQuestion (fun vs H Q E h => ?_) (fun cdv A outer s H vs Q E hr h => ?_)
  · obtain ⟨a, dk, c, xs, cl, rfl, _⟩ := h
    rfl
  obtain ⟨a, dk, c, xs, cl, rfl, hw, hc, hq, k⟩ := h
  refine ⟨_, pss_one (ps_ret (GsR.pe_callT TQ (by rfl) (pv 1) (fun _ _ => rfl) hr (pa_cons (pv 0) pa_nil) (GsR.mono_var 1))), ?_⟩
  cases hc with
  | c7 => exact ⟨_, rfl, 7, q.ring, _, rfl, rfl, d7.run, d7.kp, _, rfl, a, dk, rfl, hw, k⟩
  | c8 => exact ⟨_, rfl, 8, q.rank, _, rfl, rfl, d8.run, d8.kp, _, rfl, a, dk, rfl, hw, k⟩
  | c9 => exact ⟨_, rfl, 9, q.done, _, rfl, rfl, d9.run, d9.kp, _, rfl, a, dk, rfl, hw, k⟩
  | c10 => exact ⟨_, rfl, 10, q.sure, _, rfl, rfl, d10.run, d10.kp, _, rfl, a, dk, rfl, hw, k⟩
  | c11 => exact ⟨_, rfl, 11, q.longest, _, rfl, rfl, d11.run, d11.kp, _, rfl, a, dk, rfl, hw, k⟩
  | c14 => exact ⟨_, rfl, 14, q.soonest, _, rfl, rfl, d14.run, d14.kp, _, rfl, a, dk, rfl, hw, k⟩
  | c15 => exact ⟨_, rfl, 15, q.bad, _, rfl, rfl, d15.run, d15.kp, _, rfl, a, dk, rfl, hw, k⟩
  | c16 => exact ⟨_, rfl, 16, q.worst, _, rfl, rfl, d16.run, d16.kp, _, rfl, a, dk, rfl, hw, k⟩
  | c21 => exact ⟨_, rfl, 21, q.hopeless, _, rfl, rfl, d21.run, d21.kp, _, rfl, a, dk, rfl, hw, k⟩
  | c22 => exact ⟨_, rfl, 22, q.told, _, rfl, rfl, d22.run, d22.kp, _, rfl, a, dk, rfl, hw, k⟩
  | _ => cases hq
theorem ok_ans_survey {k : Nat} {f fS fB fA fI fL fT : Addr} {fd : FuncData} (T0 : GsR.TabL K mg "SURVEYS" [(12, fS), (13, fB), (19, fA)]) (T1 : GsR.TabL K mg "SURVEYS_OF_ONE" [(17, fI), (20, fL)]) (T2 : GsR.TabL K mg "SURVEYS_OF_TWO" [(18, fT)]) (F : Fun K "answer_survey" "answer_survey" sAnsSurvey f fd)
    (dS : DefAt P w K mg base k fS (sp0 K C .sures)) (dB : DefAt P w K mg base k fB (sp0 K C .beginnings)) (dA : DefAt P w K mg base k fA (sp0 K C .allAt)) (dI : DefAt P w K mg base k fI (sp1 K C .ifAt)) (dL : DefAt P w K mg base k fL (sp1 K C .longestOf)) (dT : DefAt P w K mg base k fT (sp2 K C .ifTell)) :
    FnOk P w K mg base CX0 (k + 1) f fd ["world", "call", "arguments"] (spSurvey K C) := by
  refine F.ok scAnsSurvey (fun vs H Q E h => ?_) (fun cdv A outer s H vs Q E hr h => ?_)
  · obtain ⟨a, l, dk, c, xs, cl, rfl, _⟩ := h
    rfl
  obtain ⟨a, l, dk, c, xs, cl, rfl, hw, hl, hc, hs, k⟩ := h
  refine ⟨_, pss_cons (ps_if (GsR.pt_inT T0 (pv 1) (by rfl) (GsR.mono_var 1)) (pss_one (ps_ret (GsR.pe_callT T0 (by rfl) (pv 1) (fun _ _ => rfl) hr (pa_cons (pv 0) pa_nil) (GsR.mono_var 1)))) pss_nil)
    (pss_cons (ps_if (GsR.pt_inT T1 (pv 1) (by rfl) (GsR.mono_var 1)) (pss_one (ps_ret (GsR.pe_callT T1 (by rfl) (pv 1) (fun _ _ => rfl) hr (pa_cons (pv 0) (pa_cons (pe_ix (r := rIxL K) ix_list (pv 2) pe_int (fun _ _ => rfl)) pa_nil)) (GsR.mono_var 1)))) pss_nil)
    (pss_one (ps_ret (GsR.pe_callT T2 (by rfl) (pv 1) (fun _ _ => rfl) hr (pa_cons (pv 0) (pa_cons (pe_ix (r := rIxL K) ix_list (pv 2) pe_int (fun _ _ => rfl)) (pa_cons (pe_ix (r := rIxL K) ix_list (pv 2) pe_int (fun _ _ => rfl)) pa_nil))) (GsR.mono_var 1))))), ?_⟩
  refine ⟨_, rfl, _, rfl, _, rfl, ?_⟩
  cases hc with
  | c12 => exact ⟨_, rfl, 12, fS, _, rfl, rfl, dS.run, dS.kp, _, rfl, a, dk, rfl, hw, k⟩
  | c13 => exact ⟨_, rfl, 13, fB, _, rfl, rfl, dB.run, dB.kp, _, rfl, a, dk, rfl, hw, k⟩
  | c19 => exact ⟨_, rfl, 19, fA, _, rfl, rfl, dA.run, dA.kp, _, rfl, a, dk, rfl, hw, k⟩
  | c17 x => exact ⟨_, rfl, _, rfl, _, rfl, _, rfl, 17, fI, _, rfl, rfl, dI.run, dI.kp, _, rfl, _, rfl, l, _, _, V.int x, rfl, rfl, SqL.of hl, atI_nat (j := 0) rfl, a, dk, x, rfl, hw, k⟩
  | c20 x => exact ⟨_, rfl, _, rfl, _, rfl, _, rfl, 20, fL, _, rfl, rfl, dL.run, dL.kp, _, rfl, _, rfl, l, _, _, V.int x, rfl, rfl, SqL.of hl, atI_nat (j := 0) rfl, a, dk, x, rfl, hw, k⟩
  | c18 x y => exact ⟨_, rfl, _, rfl, _, rfl, _, rfl, 18, fT, _, rfl, rfl, dT.run, dT.kp, _, rfl, _, rfl, l, _, _, V.int x, rfl, rfl, SqL.of hl, atI_nat (j := 0) rfl, _, rfl, l, _, _, V.int y, rfl, rfl, SqL.of hl, atI_nat (j := 1) rfl, a, dk, x, y, rfl, hw, k⟩
  | _ => cases hs
/-! ### one call -/
theorem three {c : Nat} {xs : List Nat} {cl : Km536.Call} (h : Gs.CallIs c xs cl) : c ≤ 6 ∨ (¬ c ≤ 6 ∧ isQ c = true) ∨ (¬ c ≤ 6 ∧ isQ c = false ∧ isS c = true) := by
  cases h <;> first | exact .inl (by decide) | exact .inr (.inl ⟨by decide, rfl⟩) | exact .inr (.inr ⟨by decide, rfl, rfl⟩)
theorem ok_ans_call {k : Nat} {f : Addr} {fd : FuncData} (hk : 1 ≤ k) (M : Nm mg) (F : Fun K "answer_call" "answer_call" sAnsCall f fd) (dB : Def P w K mg base 1 "is_begun" (spIsBegun K C)) (dIC : Def P w K mg base 1 "is_change" (spIsT fun c => decide (c ≤ 6))) (dC : Def P w K mg base k "answer_change" (spChange K C))
    (dIQ : Def P w K mg base 1 "is_question" (spIsT isQ)) (dQ : Def P w K mg base k "answer_question" (spQuestion K C)) (dS : Def P w K mg base k "answer_survey" (spSurvey K C)) : FnOk P w K mg base CX0 (k + 1) f fd ["world", "call", "arguments"] (spCall K C) := by
  refine F.ok scAnsCall (fun vs H Q E h => ?_) (fun cdv A outer s H vs Q E hr h => ?_)
  · obtain ⟨a, l, st, c, xs, cl, rfl, _⟩ := h
    rfl
  obtain ⟨a, l, st, c, xs, cl, rfl, hw, hl, hN, k⟩ := h
  have hc := Gs.callN_is hN
  refine ⟨_, pss_cons (ps_if (PW.pt (pw_and (pt_cmpR op_ne (pv 1) (pe_num M.begin0 rfl) (nomark _)) (pw_and1 (pt_not (pt_val (pe_def dB hr hk (by rfl) (pa_cons (pv 0) pa_nil))))))) (pss_one (ps_ret (pe_lst (pa_cons (pe_num M.notBegun rfl) pa_nil)))) pss_nil)
    (pss_cons (ps_if (pt_val (pe_def dIC hr hk (by rfl) (pa_cons (pv 1) pa_nil))) (pss_one (ps_ret (pe_def dC hr (Nat.le_refl _) (by rfl) (pa_cons (pv 0) (pa_cons (pv 1) (pa_cons (pv 2) pa_nil)))))) pss_nil)
    (pss_cons (ps_if (pt_val (pe_def dIQ hr hk (by rfl) (pa_cons (pv 1) pa_nil))) (pss_one (ps_ret (pe_def dQ hr (Nat.le_refl _) (by rfl) (pa_cons (pv 0) (pa_cons (pv 1) pa_nil))))) pss_nil)
    (pss_one (ps_ret (pe_def dS hr (Nat.le_refl _) (by rfl) (pa_cons (pv 0) (pa_cons (pv 1) (pa_cons (pv 2) pa_nil)))))))), ?_⟩
  have go : ∀ (_ : c = 0 ∨ st.isSome = true), tSeq (tIfS (tB (tCall (spIsT fun c => decide (c ≤ 6)) [] E0 (tCons (tVar 1) tNil))) (tRet (tCall (spChange K C) [] E0 (tCons (tVar 0) (tCons (tVar 1) (tCons (tVar 2) tNil))))) tNext)
      (tSeq (tIfS (tB (tCall (spIsT isQ) [] E0 (tCons (tVar 1) tNil))) (tRet (tCall (spQuestion K C) [] E0 (tCons (tVar 0) (tCons (tVar 1) tNil)))) tNext)
      (tRet (tCall (spSurvey K C) [] E0 (tCons (tVar 0) (tCons (tVar 1) (tCons (tVar 2) tNil)))))) { nx := fun x H' => Q V.non H', rt := Q } [some (.ref a), some (.int (c : Int)), some (.ref l)] H := fun hb => by
    have st_some : c ≠ 0 → ∃ dk, st = some dk := fun z => by
      rcases hb with y | y
      · exact (z y).elim
      · exact Option.isSome_iff_exists.mp y
    refine ⟨_, rfl, c, rfl, _, rfl, ?_⟩
    rcases three hc with h6 | ⟨n6, hq⟩ | ⟨n6, nq, hs⟩
    · refine iteDT h6 ⟨_, rfl, _, rfl, _, rfl, a, l, st, c, xs, cl, rfl, hw, hl, hc, h6, hb, k⟩
    · obtain ⟨dk, rfl⟩ := st_some (by omega)
      refine iteDF n6 ⟨_, rfl, c, rfl, _, rfl, ?_⟩
      rw [hq]
      exact ⟨_, rfl, _, rfl, a, dk, c, xs, cl, rfl, hw, hc, hq, k⟩
    · obtain ⟨dk, rfl⟩ := st_some (by omega)
      refine iteDF n6 ⟨_, rfl, c, rfl, _, rfl, ?_⟩
      rw [nq]
      exact ⟨_, rfl, _, rfl, _, rfl, a, l, dk, c, xs, cl, rfl, hw, hl, hc, hs, k⟩
  refine ⟨_, rfl, rfl, _, rfl, ?_⟩
  by_cases c0 : c = 0
  · subst c0
    exact go (.inl rfl)
  · have e : decide (V.int (c : Int) = V.int 0) = false := by
      rw [dec_int]
      exact decide_eq_false (by omega)
    rw [e]
    refine ⟨_, rfl, a, st, rfl, hw, _, rfl, ?_⟩
    cases st with
    | none => exact ⟨(by show 1 ≤ sizeLine; decide), fun b nb => k _ b (aft_stay (not_begun hc c0) hw (Same.refl H) nb)⟩
    | some dk => exact go (.inr rfl)
end
end Gp
/-! All defs together, by what the head tells. -/
namespace Gp
open PySem PySem.Spec PyProof.Rows L2
theorem def_mk {P : Program} {w : World} {K : PySem.W.Frag} {mg : Str → Option Value} {base h : Heap} {k : Nat} {x : Str} {st : Stmt} {f : Addr} {sp : Sp} {ps : List Str} (X : K.In h) (G : h.Ns mainGlobals mg) (g : FnAt K x st f)
    (b : ∀ fd, Fun K x x st f fd → Binds K fd ps []) (ok : ∀ fd, Fun K x x st f fd → FnOk P w K mg base CX0 k f fd ps sp) : Def P w K mg base k x sp := by
  obtain ⟨fd, F⟩ := g.is
  exact ⟨f, fd, ps, ok fd F, PySem.W.mg_of X G g.at_, g.kp, b fd F⟩
theorem at_mk {P : Program} {w : World} {K : PySem.W.Frag} {mg : Str → Option Value} {base : Heap} {k : Nat} {x : Str} {st : Stmt} {f : Addr} {sp : Sp} {ps : List Str} (g : FnAt K x st f)
    (b : ∀ fd, Fun K x x st f fd → Binds K fd ps []) (ok : ∀ fd, Fun K x x st f fd → FnOk P w K mg base CX0 k f fd ps sp) : DefAt P w K mg base k f sp := by
  obtain ⟨fd, F⟩ := g.is
  exact defAt (ok fd F) g.kp (b fd F)
theorem tab_of {K : PySem.W.Frag} {h : Heap} {mg : Str → Option Value} {x : Str} {L : List (Int × Addr)} (X : K.In h) (G : h.Ns mainGlobals mg) (t : TabAt K x L) : GsR.TabL K mg x L := by
  obtain ⟨d, es, n, h1, h2, h3, h4⟩ := t.ex
  exact GsR.tab_mk (PySem.W.mg_of X G h1) h2 h3 h4
theorem num_of {K : PySem.W.Frag} {h : Heap} {mg : Str → Option Value} {x : Str} {v : Int} (X : K.In h) (G : h.Ns mainGlobals mg) (n : ∃ t, PySem.W.nsIn K mainGlobals x = some (some (.int v t))) : IsN mg x v := by
  obtain ⟨t, e⟩ := n
  exact ⟨t, PySem.W.mg_of X G e⟩
theorem all_mk {P : Program} {w : World} {K : PySem.W.Frag} {h : Heap} {mg : Str → Option Value} {C fI M1 M2 fa : Addr} {f_turned f_mirrored f_name_of f_all_rings f_names_like f_rank_of f_all_at_one_place f_seen_ring f_view_of f_lesser_steps f_is_even_handed f_eager_steps f_stepped f_steps_by_place f_eager_robots f_with_one_more f_may_go f_all_plays f_next_names f_at_rest_together f_rests_together f_moves_if_known f_following_by_name f_longest_by_name f_is_begun f_begin_ring f_refusal_of_mode f_change_mode f_change_eyes f_put_robots f_refusal_of_place f_can_be_done f_refusal_of_done f_tell_view f_untell_view f_jump_to_name f_following_of f_longest_of_ring f_ask_rank f_ask_ring f_ask_done f_ask_sure f_ask_longest f_answers f_is_change f_answer_change f_all_apart f_is_own_turning f_leaves_a_place f_is_own_mirror_between f_first_unsure f_not_met f_fewest_moves f_worst_of f_bad_play f_ask_soonest f_ask_worst f_ask_hopeless f_ask_told f_ask_bad f_longest_of_names f_rule_with f_sure_numbers f_survey_sures f_survey_if_at f_survey_if_tell f_survey_longest_of f_survey_beginnings f_survey_all_at f_is_question f_answer_question f_answer_survey f_answer_call : Addr} {ocI kVI dcI pmI cdI ctI : Value} {odI anI : Option Addr} {slI : Array (Option Value)} (X : K.In h) (G : h.Ns mainGlobals mg) (hfa : mg "answers" = some (.ref fa))
    (g_turned : FnAt K "turned" sTurned f_turned)
    (g_mirrored : FnAt K "mirrored" sMirrored f_mirrored)
    (g_name_of : FnAt K "name_of" sNameOf f_name_of)
    (g_all_rings : FnAt K "all_rings" sAllRings f_all_rings)
    (g_names_like : FnAt K "names_like" sNamesLike f_names_like)
    (g_rank_of : FnAt K "rank_of" sRankOf f_rank_of)
    (g_all_at_one_place : FnAt K "all_at_one_place" sAllAtOne f_all_at_one_place)
    (g_seen_ring : FnAt K "seen_ring" sSeenRing f_seen_ring)
    (g_view_of : FnAt K "view_of" sViewOf f_view_of)
    (g_lesser_steps : FnAt K "lesser_steps" sLesserSteps f_lesser_steps)
    (g_is_even_handed : FnAt K "is_even_handed" sIsEven f_is_even_handed)
    (g_eager_steps : FnAt K "eager_steps" sEagerSteps f_eager_steps)
    (g_stepped : FnAt K "stepped" sStepped f_stepped)
    (g_steps_by_place : FnAt K "steps_by_place" sStepsBy f_steps_by_place)
    (g_eager_robots : FnAt K "eager_robots" sEagerRobots f_eager_robots)
    (g_with_one_more : FnAt K "with_one_more" sWithOne f_with_one_more)
    (g_may_go : FnAt K "may_go" sMayGo f_may_go)
    (g_all_plays : FnAt K "all_plays" sAllPlays f_all_plays)
    (g_next_names : FnAt K "next_names" sNextNames f_next_names)
    (g_at_rest_together : FnAt K "at_rest_together" sAtRest f_at_rest_together)
    (g_rests_together : FnAt K "rests_together" sRests f_rests_together)
    (g_moves_if_known : FnAt K "moves_if_known" sMoves f_moves_if_known)
    (g_following_by_name : FnAt K "following_by_name" sFolBy f_following_by_name)
    (g_longest_by_name : FnAt K "longest_by_name" sLongestBy f_longest_by_name)
    (g_is_begun : FnAt K "is_begun" sIsBegun f_is_begun)
    (g_begin_ring : FnAt K "begin_ring" sBegin f_begin_ring)
    (g_refusal_of_mode : FnAt K "refusal_of_mode" sRefMode f_refusal_of_mode)
    (g_change_mode : FnAt K "change_mode" sMode f_change_mode)
    (g_change_eyes : FnAt K "change_eyes" sEyes f_change_eyes)
    (g_put_robots : FnAt K "put_robots" sPut f_put_robots)
    (g_refusal_of_place : FnAt K "refusal_of_place" sRefusal f_refusal_of_place)
    (g_can_be_done : FnAt K "can_be_done" sCanBe f_can_be_done)
    (g_refusal_of_done : FnAt K "refusal_of_done" sRefDone f_refusal_of_done)
    (g_tell_view : FnAt K "tell_view" sTell f_tell_view)
    (g_untell_view : FnAt K "untell_view" sUntell f_untell_view)
    (g_jump_to_name : FnAt K "jump_to_name" sJump f_jump_to_name)
    (g_following_of : FnAt K "following_of" sFolOf f_following_of)
    (g_longest_of_ring : FnAt K "longest_of_ring" sLongestOf f_longest_of_ring)
    (g_ask_rank : FnAt K "ask_rank" sAskRank f_ask_rank)
    (g_ask_ring : FnAt K "ask_ring" sAskRing f_ask_ring)
    (g_ask_done : FnAt K "ask_done" sAskDone f_ask_done)
    (g_ask_sure : FnAt K "ask_sure" sAskSure f_ask_sure)
    (g_ask_longest : FnAt K "ask_longest" sAskLongest f_ask_longest)
    (g_answers : FnAt K "answers" sAnswers f_answers)
    (g_is_change : FnAt K "is_change" sIsChange f_is_change)
    (g_answer_change : FnAt K "answer_change" sAnsChange f_answer_change)
    (g_all_apart : FnAt K "all_apart" sAllApart f_all_apart)
    (g_is_own_turning : FnAt K "is_own_turning" sOwnTurn f_is_own_turning)
    (g_leaves_a_place : FnAt K "leaves_a_place" sLeaves f_leaves_a_place)
    (g_is_own_mirror_between : FnAt K "is_own_mirror_between" sOwnMirror f_is_own_mirror_between)
    (g_first_unsure : FnAt K "first_unsure" sFirst f_first_unsure)
    (g_not_met : FnAt K "not_met" sNotMet f_not_met)
    (g_fewest_moves : FnAt K "fewest_moves" sFewest f_fewest_moves)
    (g_worst_of : FnAt K "worst_of" sWorstOf f_worst_of)
    (g_bad_play : FnAt K "bad_play" sBadPlay f_bad_play)
    (g_ask_soonest : FnAt K "ask_soonest" sAskSoonest f_ask_soonest)
    (g_ask_worst : FnAt K "ask_worst" sAskWorst f_ask_worst)
    (g_ask_hopeless : FnAt K "ask_hopeless" sAskHopeless f_ask_hopeless)
    (g_ask_told : FnAt K "ask_told" sAskTold f_ask_told)
    (g_ask_bad : FnAt K "ask_bad" sAskBad f_ask_bad)
    (g_longest_of_names : FnAt K "longest_of_names" sLonNames f_longest_of_names)
    (g_rule_with : FnAt K "rule_with" sRuleWith f_rule_with)
    (g_sure_numbers : FnAt K "sure_numbers" sSureNums f_sure_numbers)
    (g_survey_sures : FnAt K "survey_sures" sSvSures f_survey_sures)
    (g_survey_if_at : FnAt K "survey_if_at" sSvIfAt f_survey_if_at)
    (g_survey_if_tell : FnAt K "survey_if_tell" sSvIfTell f_survey_if_tell)
    (g_survey_longest_of : FnAt K "survey_longest_of" sSvLongest f_survey_longest_of)
    (g_survey_beginnings : FnAt K "survey_beginnings" sSvBegin f_survey_beginnings)
    (g_survey_all_at : FnAt K "survey_all_at" sSvAllAt f_survey_all_at)
    (g_is_question : FnAt K "is_question" sIsQuestion f_is_question)
    (g_answer_question : FnAt K "answer_question" sAnsQuestion f_answer_question)
    (g_answer_survey : FnAt K "answer_survey" sAnsSurvey f_answer_survey)
    (g_answer_call : FnAt K "answer_call" sAnsCall f_answer_call)
    (t_CHANGES_OF_ONE : TabAt K "CHANGES_OF_ONE" [(2, f_change_eyes), (4, f_untell_view), (5, f_change_mode), (6, f_jump_to_name)])
    (t_CHANGES_OF_TWO : TabAt K "CHANGES_OF_TWO" [(0, f_begin_ring), (1, f_put_robots), (3, f_tell_view)])
    (t_QUESTIONS : TabAt K "QUESTIONS" [(7, f_ask_ring), (8, f_ask_rank), (9, f_ask_done), (10, f_ask_sure), (11, f_ask_longest), (14, f_ask_soonest), (15, f_ask_bad), (16, f_ask_worst), (21, f_ask_hopeless), (22, f_ask_told)])
    (t_SURVEYS : TabAt K "SURVEYS" [(12, f_survey_sures), (13, f_survey_beginnings), (19, f_survey_all_at)])
    (t_SURVEYS_OF_ONE : TabAt K "SURVEYS_OF_ONE" [(17, f_survey_if_at), (20, f_survey_longest_of)])
    (t_SURVEYS_OF_TWO : TabAt K "SURVEYS_OF_TWO" [(18, f_survey_if_tell)])
    (n_NO_PLACE : ∃ t, PySem.W.nsIn K mainGlobals "NO_PLACE" = some (some (.int (-2) t)))
    (n_NOTHING_TOLD : ∃ t, PySem.W.nsIn K mainGlobals "NOTHING_TOLD" = some (some (.int (-6) t)))
    (n_NOT_BEGUN : ∃ t, PySem.W.nsIn K mainGlobals "NOT_BEGUN" = some (some (.int (-11) t)))
    (n_NOT_ALLOWED : ∃ t, PySem.W.nsIn K mainGlobals "NOT_ALLOWED" = some (some (.int (-22) t)))
    (n_TOO_MANY : ∃ t, PySem.W.nsIn K mainGlobals "TOO_MANY" = some (some (.int (-28) t)))
    (n_NOT_THERE : ∃ t, PySem.W.nsIn K mainGlobals "NOT_THERE" = some (some (.int (-33) t)))
    (n_LEAST_PLACES : ∃ t, PySem.W.nsIn K mainGlobals "LEAST_PLACES" = some (some (.int (3) t)))
    (n_MOST_PLACES : ∃ t, PySem.W.nsIn K mainGlobals "MOST_PLACES" = some (some (.int (7) t)))
    (n_MOST_ROBOTS : ∃ t, PySem.W.nsIn K mainGlobals "MOST_ROBOTS" = some (some (.int (4) t)))
    (n_MOST_VIEWS : ∃ t, PySem.W.nsIn K mainGlobals "MOST_VIEWS" = some (some (.int (24) t)))
    (n_LAST_EYES : ∃ t, PySem.W.nsIn K mainGlobals "LAST_EYES" = some (some (.int (2) t)))
    (n_LAST_DONE : ∃ t, PySem.W.nsIn K mainGlobals "LAST_DONE" = some (some (.int (2) t)))
    (n_LAST_MODE : ∃ t, PySem.W.nsIn K mainGlobals "LAST_MODE" = some (some (.int (2) t)))
    (n_BEGIN : ∃ t, PySem.W.nsIn K mainGlobals "BEGIN" = some (some (.int (0) t)))
    (n_ONE_GOES : ∃ t, PySem.W.nsIn K mainGlobals "ONE_GOES" = some (some (.int (0) t)))
    (n_SOME_GO : ∃ t, PySem.W.nsIn K mainGlobals "SOME_GO" = some (some (.int (1) t)))
    (b_len : PySem.W.nsIn K mainGlobals "len" = some none)
    (b_tuple : PySem.W.nsIn K mainGlobals "tuple" = some none)
    (b_range : PySem.W.nsIn K mainGlobals "range" = some none)
    (b_min : PySem.W.nsIn K mainGlobals "min" = some none)
    (b_max : PySem.W.nsIn K mainGlobals "max" = some none)
    (b_sum : PySem.W.nsIn K mainGlobals "sum" = some none)
    (b_sorted : PySem.W.nsIn K mainGlobals "sorted" = some none)
    (b_set : PySem.W.nsIn K mainGlobals "set" = some none)
    (b_list : PySem.W.nsIn K mainGlobals "list" = some none)
    (b_enumerate : PySem.W.nsIn K mainGlobals "enumerate" = some none)
    (b_all : PySem.W.nsIn K mainGlobals "all" = some none)
    (b_any : PySem.W.nsIn K mainGlobals "any" = some none)
    (aC : PySem.W.nsIn K mainGlobals "World" = some (some (.ref C))) (aI : PySem.W.findIn K (.ref C) "__init__" = some (some (.ref fI))) (iI : PySem.W.isFn K (.ref fI) = true)
    (lI : K.lookup fI = some ⟨ocI, odI, .func (PySem.W.fnOf "__init__" "World.__init__" (defArgs sWInit) (defBody sWInit) (defScope sWInit) .none kVI dcI pmI anI cdI ctI), slI⟩) (cI : PySem.W.codeIn K cdI "World.__init__" = true) (kI : PySem.W.keepIn K (.ref fI) = true)
    (pg : PySem.W.plainGet K C Str.empty = true) (hd : PySem.W.hasDictIn K C = true) (po : PySem.W.plainOver K C = true) (sa : PySem.W.findIn K (.ref C) "__setattr__" = some (some (.builtin "object.__setattr__"))) (mk : PySem.W.makesIn K C = true) (kc : PySem.W.keepIn K (.ref C) = true)
    (nR : PySem.W.findIn K (.ref C) "ring" = some none) (nE : PySem.W.findIn K (.ref C) "eyes" = some none) (nU : PySem.W.findIn K (.ref C) "rule" = some none) (nM : PySem.W.findIn K (.ref C) "mode" = some none)
    (aM1 : PySem.W.nsIn K mainGlobals "MOST_SEEN" = some (some (.ref M1))) (tM1 : TupAt K M1 [.non, .int 2, .int 1]) (aM2 : PySem.W.nsIn K mainGlobals "ARGUMENTS" = some (some (.ref M2))) (tM2 : TupAt K M2 (tv Gs.args)) :
    ∃ fd : FuncData, (∀ (s : Shared) (us : List Value), us.length = (["calls"] : List Str).length → BindsTo s fd ⟨us, []⟩ ((["calls"] : List Str).zip us)) ∧ ∀ base : Heap, K.In base → base.Ns mainGlobals mg → FnOk P w K mg base CX0 13 fa fd ["calls"] (spAnswers K) := by
  have ea : fa = f_answers := by
    have e := PySem.W.mg_of X G g_answers.at_
    rw [hfa] at e
    injection e with e
    injection e
  subst ea
  have B : Bt mg := ⟨PySem.W.mg_none_of X G b_len, PySem.W.mg_none_of X G b_tuple, PySem.W.mg_none_of X G b_range, PySem.W.mg_none_of X G b_min, PySem.W.mg_none_of X G b_max, PySem.W.mg_none_of X G b_sum, PySem.W.mg_none_of X G b_sorted, PySem.W.mg_none_of X G b_set, PySem.W.mg_none_of X G b_list, PySem.W.mg_none_of X G b_enumerate, PySem.W.mg_none_of X G b_all, PySem.W.mg_none_of X G b_any⟩
  have M : Nm mg := ⟨num_of X G n_NO_PLACE, num_of X G n_NOTHING_TOLD, num_of X G n_NOT_BEGUN, num_of X G n_NOT_ALLOWED, num_of X G n_TOO_MANY, num_of X G n_NOT_THERE, num_of X G n_LEAST_PLACES, num_of X G n_MOST_PLACES, num_of X G n_MOST_ROBOTS, num_of X G n_MOST_VIEWS, num_of X G n_LAST_EYES, num_of X G n_LAST_DONE, num_of X G n_LAST_MODE, num_of X G n_BEGIN⟩
  have Cc : Cst mg := ⟨num_of X G n_ONE_GOES, num_of X G n_SOME_GO⟩
  have S : Mst K mg M1 := ⟨PySem.W.mg_of X G aM1, tM1.tup⟩
  have Tb : Tab K mg M2 := ⟨PySem.W.mg_of X G aM2, tM2.tup⟩
  have T : Wc K mg C := ⟨⟨pg, hd, po, sa⟩, nR, nE, nU, nM, PySem.W.mg_of X G aC⟩
  have MK : Mk K C fI := ⟨mk, aI, iI, kc⟩
  have FI := fun_mk (st := sWInit) lI cI kI
  have T_CHANGES_OF_ONE := tab_of X G t_CHANGES_OF_ONE
  have T_CHANGES_OF_TWO := tab_of X G t_CHANGES_OF_TWO
  have T_QUESTIONS : GsR.TabL K mg "QUESTIONS" (QAt.mk f_ask_ring f_ask_rank f_ask_done f_ask_sure f_ask_longest f_ask_soonest f_ask_bad f_ask_worst f_ask_hopeless f_ask_told).tab := tab_of X G t_QUESTIONS
  have T_SURVEYS := tab_of X G t_SURVEYS
  have T_SURVEYS_OF_ONE := tab_of X G t_SURVEYS_OF_ONE
  have T_SURVEYS_OF_TWO := tab_of X G t_SURVEYS_OF_TWO
  obtain ⟨fd, F⟩ := g_answers.is
  refine ⟨fd, ?_, fun base hK hN => ?_⟩
  · obtain ⟨oc, od, kV, doc, pm, an, cdv, ct, osl, rfl, lk, hcd⟩ := F.ex
    exact fun s us hl => .of_eq (match us, hl with | [_], _ => rfl)
  have d_turned : Def P w K mg base 1 "turned" (spTurned K) := def_mk X G g_turned (fun _ F => F.binds fun _ _ _ _ _ _ us hl => match us, hl with | [_, _], _ => rfl) fun _ F => ok_turned F
  have d_mirrored : Def P w K mg base 1 "mirrored" (spMirrored K) := def_mk X G g_mirrored (fun _ F => F.binds fun _ _ _ _ _ _ us hl => match us, hl with | [_, _], _ => rfl) fun _ F => ok_mirrored B F
  have d_name_of : Def P w K mg base 2 "name_of" (spNameOf K) := def_mk X G g_name_of (fun _ F => F.binds fun _ _ _ _ _ _ us hl => match us, hl with | [_], _ => rfl) fun _ F => ok_name_of B F d_turned d_mirrored
  have d_all_rings : Def P w K mg base 1 "all_rings" (spAllRings K) := def_mk X G g_all_rings (fun _ F => F.binds fun _ _ _ _ _ _ us hl => match us, hl with | [_, _], _ => rfl) fun _ F => ok_all_rings B F
  have d_names_like : Def P w K mg base 3 "names_like" (spNamesLike K) := def_mk X G g_names_like (fun _ F => F.binds fun _ _ _ _ _ _ us hl => match us, hl with | [_], _ => rfl) fun _ F => ok_names_like B F d_name_of d_all_rings
  have d_rank_of : Def P w K mg base 4 "rank_of" (spRankOf K) := def_mk X G g_rank_of (fun _ F => F.binds fun _ _ _ _ _ _ us hl => match us, hl with | [_], _ => rfl) fun _ F => ok_rank_of F d_name_of d_names_like
  have d_all_at_one_place : Def P w K mg base 1 "all_at_one_place" (spAllAtOne K) := def_mk X G g_all_at_one_place (fun _ F => F.binds fun _ _ _ _ _ _ us hl => match us, hl with | [_], _ => rfl) fun _ F => ok_all_at_one B F
  have d_seen_ring : Def P w K mg base 1 "seen_ring" (spSeen K) := def_mk X G g_seen_ring (fun _ F => F.binds fun _ _ _ _ _ _ us hl => match us, hl with | [_, _], _ => rfl) fun _ F => ok_seen B S F
  have d_view_of : Def P w K mg base 2 "view_of" (spView K) := def_mk X G g_view_of (fun _ F => F.binds fun _ _ _ _ _ _ us hl => match us, hl with | [_, _, _], _ => rfl) fun _ F => ok_view B F d_seen_ring d_turned d_mirrored
  have d_lesser_steps : Def P w K mg base 2 "lesser_steps" (spLesser K) := def_mk X G g_lesser_steps (fun _ F => F.binds fun _ _ _ _ _ _ us hl => match us, hl with | [_, _, _], _ => rfl) fun _ F => ok_lesser F d_seen_ring d_turned d_mirrored
  have d_is_even_handed : Def P w K mg base 3 "is_even_handed" (spEven K) := def_mk X G g_is_even_handed (fun _ F => F.binds fun _ _ _ _ _ _ us hl => match us, hl with | [_, _, _], _ => rfl) fun _ F => ok_even B F d_lesser_steps
  have d_eager_steps : Def P w K mg base 3 "eager_steps" (spEager K) := def_mk X G g_eager_steps (fun _ F => F.binds fun _ _ _ _ _ _ us hl => match us, hl with | [_, _, _, _], _ => rfl) fun _ F => ok_eager F d_view_of d_lesser_steps
  have d_stepped : Def P w K mg base 1 "stepped" (spStepped K) := def_mk X G g_stepped (fun _ F => F.binds fun _ _ _ _ _ _ us hl => match us, hl with | [_, _, _], _ => rfl) fun _ F => ok_stepped B F
  have d_steps_by_place : Def P w K mg base 4 "steps_by_place" (spStepsBy K) := def_mk X G g_steps_by_place (fun _ F => F.binds fun _ _ _ _ _ _ us hl => match us, hl with | [_, _, _], _ => rfl) fun _ F => ok_steps_by B F d_eager_steps
  have d_eager_robots : Def P w K mg base 1 "eager_robots" (spEagerRobots K) := def_mk X G g_eager_robots (fun _ F => F.binds fun _ _ _ _ _ _ us hl => match us, hl with | [_, _], _ => rfl) fun _ F => ok_eager_robots B F
  have d_with_one_more : Def P w K mg base 2 "with_one_more" (spWithOne K) := def_mk X G g_with_one_more (fun _ F => F.binds fun _ _ _ _ _ _ us hl => match us, hl with | [_, _, _], _ => rfl) fun _ F => ok_with_one B F d_stepped
  have d_may_go : Def P w K mg base 1 "may_go" spMayGo := def_mk X G g_may_go (fun _ F => F.binds fun _ _ _ _ _ _ us hl => match us, hl with | [_, _, _], _ => rfl) fun _ F => ok_may_go Cc F
  have d_all_plays : Def P w K mg base 3 "all_plays" (spAllPlays K) := def_mk X G g_all_plays (fun _ F => F.binds fun _ _ _ _ _ _ us hl => match us, hl with | [_, _], _ => rfl) fun _ F => ok_all_plays B F d_with_one_more
  have d_next_names : Def P w K mg base 5 "next_names" (spNextNames K) := def_mk X G g_next_names (fun _ F => F.binds fun _ _ _ _ _ _ us hl => match us, hl with | [_, _, _, _], _ => rfl) fun _ F => ok_next_names B F d_steps_by_place d_eager_robots d_all_plays d_may_go d_name_of
  have d_at_rest_together : Def P w K mg base 5 "at_rest_together" (spAtRest K) := def_mk X G g_at_rest_together (fun _ F => F.binds fun _ _ _ _ _ _ us hl => match us, hl with | [_, _, _], _ => rfl) fun _ F => ok_at_rest F d_all_at_one_place d_steps_by_place d_eager_robots
  have d_rests_together : Def P w K mg base 2 "rests_together" (spRests K) := def_mk X G g_rests_together (fun _ F => F.binds fun _ _ _ _ _ _ us hl => match us, hl with | [_, _], _ => rfl) fun _ F => ok_rests B F d_all_at_one_place
  have d_moves_if_known : Def P w K mg base 3 "moves_if_known" (spMoves K) := def_mk X G g_moves_if_known (fun _ F => F.binds fun _ _ _ _ _ _ us hl => match us, hl with | [_, _, _], _ => rfl) fun _ F => ok_moves B F d_rests_together
  have d_following_by_name : Def P w K mg base 6 "following_by_name" (spFolBy K) := def_mk X G g_following_by_name (fun _ F => F.binds fun _ _ _ _ _ _ us hl => match us, hl with | [_, _, _, _], _ => rfl) fun _ F => ok_fol_by F d_names_like d_next_names
  have d_longest_by_name : Def P w K mg base 4 "longest_by_name" (spLongestBy K) := def_mk X G g_longest_by_name (fun _ F => F.binds fun _ _ _ _ _ _ us hl => match us, hl with | [_], _ => rfl) fun _ F => ok_longest_by F d_moves_if_known
  have d_is_begun : Def P w K mg base 1 "is_begun" (spIsBegun K C) := def_mk X G g_is_begun (fun _ F => F.binds fun _ _ _ _ _ _ us hl => match us, hl with | [_], _ => rfl) fun _ F => ok_is_begun B T F
  have d_begin_ring : DefAt P w K mg base 9 f_begin_ring (spBegin K C) := (at_mk g_begin_ring (fun _ F => F.binds fun _ _ _ _ _ _ us hl => match us, hl with | [_, _, _], _ => rfl) fun _ F => ok_begin T M F).mono (by decide)
  have d_refusal_of_mode : Def P w K mg base 1 "refusal_of_mode" spRefMode := def_mk X G g_refusal_of_mode (fun _ F => F.binds fun _ _ _ _ _ _ us hl => match us, hl with | [_], _ => rfl) fun _ F => ok_ref_mode M F
  have d_change_mode : DefAt P w K mg base 9 f_change_mode (sp1 K C .at_) := (at_mk g_change_mode (fun _ F => F.binds fun _ _ _ _ _ _ us hl => match us, hl with | [_, _], _ => rfl) fun _ F => ok_mode T F d_refusal_of_mode).mono (by decide)
  have d_change_eyes : DefAt P w K mg base 9 f_change_eyes (sp1 K C .eyes) := (at_mk g_change_eyes (fun _ F => F.binds fun _ _ _ _ _ _ us hl => match us, hl with | [_, _], _ => rfl) fun _ F => ok_eyes T M F).mono (by decide)
  have d_put_robots : DefAt P w K mg base 9 f_put_robots (sp2 K C .put) := (at_mk g_put_robots (fun _ F => F.binds fun _ _ _ _ _ _ us hl => match us, hl with | [_, _, _], _ => rfl) fun _ F => ok_put B T M F).mono (by decide)
  have d_refusal_of_place : Def P w K mg base 1 "refusal_of_place" (spRefusal K C) := def_mk X G g_refusal_of_place (fun _ F => F.binds fun _ _ _ _ _ _ us hl => match us, hl with | [_, _], _ => rfl) fun _ F => ok_refusal B T M F
  have d_can_be_done : Def P w K mg base 4 "can_be_done" (spCanBe K C) := def_mk X G g_can_be_done (fun _ F => F.binds fun _ _ _ _ _ _ us hl => match us, hl with | [_, _, _], _ => rfl) fun _ F => ok_can_be T M F d_is_even_handed
  have d_refusal_of_done : Def P w K mg base 5 "refusal_of_done" (spRefDone K C) := def_mk X G g_refusal_of_done (fun _ F => F.binds fun _ _ _ _ _ _ us hl => match us, hl with | [_, _, _], _ => rfl) fun _ F => ok_ref_done M F d_refusal_of_place d_can_be_done
  have d_tell_view : DefAt P w K mg base 9 f_tell_view (sp2 K C .tell) := (at_mk g_tell_view (fun _ F => F.binds fun _ _ _ _ _ _ us hl => match us, hl with | [_, _, _], _ => rfl) fun _ F => ok_tell B T M F d_refusal_of_done d_view_of).mono (by decide)
  have d_untell_view : DefAt P w K mg base 9 f_untell_view (sp1 K C .untell) := (at_mk g_untell_view (fun _ F => F.binds fun _ _ _ _ _ _ us hl => match us, hl with | [_, _], _ => rfl) fun _ F => ok_untell B T M F d_refusal_of_place d_view_of).mono (by decide)
  have d_jump_to_name : DefAt P w K mg base 9 f_jump_to_name (sp1 K C .jump) := (at_mk g_jump_to_name (fun _ F => F.binds fun _ _ _ _ _ _ us hl => match us, hl with | [_, _], _ => rfl) fun _ F => ok_jump B T M F d_names_like d_name_of).mono (by decide)
  have d_following_of : Def P w K mg base 7 "following_of" (spFolOf K C) := def_mk X G g_following_of (fun _ F => F.binds fun _ _ _ _ _ _ us hl => match us, hl with | [_], _ => rfl) fun _ F => ok_fol_of T F d_following_by_name
  have d_longest_of_ring : Def P w K mg base 8 "longest_of_ring" (spLongestOf K C) := def_mk X G g_longest_of_ring (fun _ F => F.binds fun _ _ _ _ _ _ us hl => match us, hl with | [_], _ => rfl) fun _ F => ok_longest_of T F d_following_of d_longest_by_name d_name_of
  have d_ask_rank : DefAt P w K mg base 9 f_ask_rank (sp0 K C .rank) := (at_mk g_ask_rank (fun _ F => F.binds fun _ _ _ _ _ _ us hl => match us, hl with | [_], _ => rfl) fun _ F => ok_ask_rank T F d_rank_of).mono (by decide)
  have d_ask_ring : DefAt P w K mg base 9 f_ask_ring (sp0 K C .ring) := (at_mk g_ask_ring (fun _ F => F.binds fun _ _ _ _ _ _ us hl => match us, hl with | [_], _ => rfl) fun _ F => ok_ask_ring B T F).mono (by decide)
  have d_ask_done : DefAt P w K mg base 9 f_ask_done (sp0 K C .done) := (at_mk g_ask_done (fun _ F => F.binds fun _ _ _ _ _ _ us hl => match us, hl with | [_], _ => rfl) fun _ F => ok_ask_done T F d_at_rest_together).mono (by decide)
  have d_ask_sure : DefAt P w K mg base 9 f_ask_sure (sp0 K C .sure) := (at_mk g_ask_sure (fun _ F => F.binds fun _ _ _ _ _ _ us hl => match us, hl with | [_], _ => rfl) fun _ F => ok_ask_sure F d_longest_of_ring).mono (by decide)
  have d_ask_longest : DefAt P w K mg base 9 f_ask_longest (sp0 K C .longest) := (at_mk g_ask_longest (fun _ F => F.binds fun _ _ _ _ _ _ us hl => match us, hl with | [_], _ => rfl) fun _ F => ok_ask_longest M F d_longest_of_ring).mono (by decide)
  have d_all_apart : Def P w K mg base 1 "all_apart" (spApart K) := def_mk X G g_all_apart (fun _ F => F.binds fun _ _ _ _ _ _ us hl => match us, hl with | [_], _ => rfl) fun _ F => ok_apart B F
  have d_is_own_turning : Def P w K mg base 2 "is_own_turning" (spOwnTurn K) := def_mk X G g_is_own_turning (fun _ F => F.binds fun _ _ _ _ _ _ us hl => match us, hl with | [_], _ => rfl) fun _ F => ok_own_turn B F d_turned
  have d_leaves_a_place : Def P w K mg base 1 "leaves_a_place" spLeaves := def_mk X G g_leaves_a_place (fun _ F => F.binds fun _ _ _ _ _ _ us hl => match us, hl with | [_, _], _ => rfl) fun _ F => ok_leaves B F
  have d_is_own_mirror_between : Def P w K mg base 2 "is_own_mirror_between" (spOwnMirror K) := def_mk X G g_is_own_mirror_between (fun _ F => F.binds fun _ _ _ _ _ _ us hl => match us, hl with | [_], _ => rfl) fun _ F => ok_own_mirror B F d_mirrored d_leaves_a_place
  have d_first_unsure : Def P w K mg base 1 "first_unsure" (spFirst K) := def_mk X G g_first_unsure (fun _ F => F.binds fun _ _ _ _ _ _ us hl => match us, hl with | [_, _], _ => rfl) fun _ F => ok_first F
  have d_not_met : Def P w K mg base 1 "not_met" (spNotMet K) := def_mk X G g_not_met (fun _ F => F.binds fun _ _ _ _ _ _ us hl => match us, hl with | [_, _, _], _ => rfl) fun _ F => ok_not_met F
  have d_fewest_moves : Def P w K mg base 3 "fewest_moves" (spFewest K) := def_mk X G g_fewest_moves (fun _ F => F.binds fun _ _ _ _ _ _ us hl => match us, hl with | [_, _], _ => rfl) fun _ F => ok_fewest B F d_rests_together d_not_met
  have d_worst_of : Def P w K mg base 2 "worst_of" (spWorstOf K) := def_mk X G g_worst_of (fun _ F => F.binds fun _ _ _ _ _ _ us hl => match us, hl with | [_, _], _ => rfl) fun _ F => ok_worst_of B F d_first_unsure
  have d_bad_play : Def P w K mg base 2 "bad_play" (spBadPlay K) := def_mk X G g_bad_play (fun _ F => F.binds fun _ _ _ _ _ _ us hl => match us, hl with | [_, _, _], _ => rfl) fun _ F => ok_bad_play F d_first_unsure
  have d_ask_soonest : DefAt P w K mg base 9 f_ask_soonest (sp0 K C .soonest) := (at_mk g_ask_soonest (fun _ F => F.binds fun _ _ _ _ _ _ us hl => match us, hl with | [_], _ => rfl) fun _ F => ok_ask_soonest T M F d_following_of d_fewest_moves d_name_of).mono (by decide)
  have d_ask_worst : DefAt P w K mg base 9 f_ask_worst (sp0 K C .worst) := (at_mk g_ask_worst (fun _ F => F.binds fun _ _ _ _ _ _ us hl => match us, hl with | [_], _ => rfl) fun _ F => ok_ask_worst B T M F d_following_of d_longest_by_name d_name_of d_worst_of d_rank_of).mono (by decide)
  have d_ask_hopeless : DefAt P w K mg base 9 f_ask_hopeless (sp0 K C .hopeless) := (at_mk g_ask_hopeless (fun _ F => F.binds fun _ _ _ _ _ _ us hl => match us, hl with | [_], _ => rfl) fun _ F => ok_ask_hopeless B T F d_is_own_turning d_is_own_mirror_between).mono (by decide)
  have d_ask_told : DefAt P w K mg base 9 f_ask_told (sp0 K C .told) := (at_mk g_ask_told (fun _ F => F.binds fun _ _ _ _ _ _ us hl => match us, hl with | [_], _ => rfl) fun _ F => ok_ask_told B T F d_all_at_one_place).mono (by decide)
  have d_ask_bad : DefAt P w K mg base 9 f_ask_bad (sp0 K C .bad) := (at_mk g_ask_bad (fun _ F => F.binds fun _ _ _ _ _ _ us hl => match us, hl with | [_], _ => rfl) fun _ F => ok_ask_bad B T M F d_following_of d_longest_by_name d_name_of d_names_like d_bad_play).mono (by decide)
  have d_longest_of_names : Def P w K mg base 7 "longest_of_names" (spLonNames K C) := def_mk X G g_longest_of_names (fun _ F => F.binds fun _ _ _ _ _ _ us hl => match us, hl with | [_, _, _], _ => rfl) fun _ F => ok_lon_names T F d_following_by_name d_longest_by_name
  have d_rule_with : Def P w K mg base 1 "rule_with" (spRuleWith K) := def_mk X G g_rule_with (fun _ F => F.binds fun _ _ _ _ _ _ us hl => match us, hl with | [_, _, _], _ => rfl) fun _ F => ok_rule_with F
  have d_sure_numbers : Def P w K mg base 8 "sure_numbers" (spSureNums K C) := def_mk X G g_sure_numbers (fun _ F => F.binds fun _ _ _ _ _ _ us hl => match us, hl with | [_, _, _], _ => rfl) fun _ F => ok_sure_nums B T F d_longest_of_names d_names_like
  have d_survey_sures : DefAt P w K mg base 9 f_survey_sures (sp0 K C .sures) := (at_mk g_survey_sures (fun _ F => F.binds fun _ _ _ _ _ _ us hl => match us, hl with | [_], _ => rfl) fun _ F => ok_sv_sures T F d_sure_numbers).mono (by decide)
  have d_survey_if_at : DefAt P w K mg base 9 f_survey_if_at (sp1 K C .ifAt) := (at_mk g_survey_if_at (fun _ F => F.binds fun _ _ _ _ _ _ us hl => match us, hl with | [_, _], _ => rfl) fun _ F => ok_sv_ifat T F d_refusal_of_mode d_sure_numbers).mono (by decide)
  have d_survey_if_tell : DefAt P w K mg base 9 f_survey_if_tell (sp2 K C .ifTell) := (at_mk g_survey_if_tell (fun _ F => F.binds fun _ _ _ _ _ _ us hl => match us, hl with | [_, _, _], _ => rfl) fun _ F => ok_sv_iftell T F d_refusal_of_done d_view_of d_rule_with d_sure_numbers).mono (by decide)
  have d_survey_longest_of : DefAt P w K mg base 9 f_survey_longest_of (sp1 K C .longestOf) := (at_mk g_survey_longest_of (fun _ F => F.binds fun _ _ _ _ _ _ us hl => match us, hl with | [_, _], _ => rfl) fun _ F => ok_sv_longest B T M F d_names_like d_longest_of_names).mono (by decide)
  have d_survey_beginnings : DefAt P w K mg base 9 f_survey_beginnings (sp0 K C .beginnings) := (at_mk g_survey_beginnings (fun _ F => F.binds fun _ _ _ _ _ _ us hl => match us, hl with | [_], _ => rfl) fun _ F => ok_sv_begin B T F d_names_like d_all_apart d_longest_of_names).mono (by decide)
  have d_survey_all_at : DefAt P w K mg base 9 f_survey_all_at (sp0 K C .allAt) := (at_mk g_survey_all_at (fun _ F => F.binds fun _ _ _ _ _ _ us hl => match us, hl with | [_], _ => rfl) fun _ F => ok_sv_allat B T M F d_names_like d_longest_of_names).mono (by decide)
  have d_is_change : Def P w K mg base 1 "is_change" (spIsT fun c => decide (c ≤ 6)) := def_mk X G g_is_change (fun _ F => F.binds fun _ _ _ _ _ _ us hl => match us, hl with | [_], _ => rfl) fun _ F => ok_is_change T_CHANGES_OF_ONE T_CHANGES_OF_TWO F
  have d_answer_change : Def P w K mg base 10 "answer_change" (spChange K C) := def_mk X G g_answer_change (fun _ F => F.binds fun _ _ _ _ _ _ us hl => match us, hl with | [_, _, _], _ => rfl) fun _ F => ok_ans_change T_CHANGES_OF_ONE T_CHANGES_OF_TWO F d_change_eyes d_untell_view d_change_mode d_jump_to_name d_begin_ring d_put_robots d_tell_view
  have d_is_question : Def P w K mg base 1 "is_question" (spIsT isQ) := def_mk X G g_is_question (fun _ F => F.binds fun _ _ _ _ _ _ us hl => match us, hl with | [_], _ => rfl) fun _ F => ok_is_question T_QUESTIONS F
  have d_answer_question : Def P w K mg base 10 "answer_question" (spQuestion K C) := def_mk X G g_answer_question (fun _ F => F.binds fun _ _ _ _ _ _ us hl => match us, hl with | [_, _], _ => rfl) fun _ F => ok_ans_question T_QUESTIONS F d_ask_ring d_ask_rank d_ask_done d_ask_sure d_ask_longest d_ask_soonest d_ask_bad d_ask_worst d_ask_hopeless d_ask_told
  have d_answer_survey : Def P w K mg base 10 "answer_survey" (spSurvey K C) := def_mk X G g_answer_survey (fun _ F => F.binds fun _ _ _ _ _ _ us hl => match us, hl with | [_, _, _], _ => rfl) fun _ F => ok_ans_survey T_SURVEYS T_SURVEYS_OF_ONE T_SURVEYS_OF_TWO F d_survey_sures d_survey_beginnings d_survey_all_at d_survey_if_at d_survey_longest_of d_survey_if_tell
  have d_answer_call : Def P w K mg base 11 "answer_call" (spCall K C) := def_mk X G g_answer_call (fun _ F => F.binds fun _ _ _ _ _ _ us hl => match us, hl with | [_, _, _], _ => rfl) fun _ F => ok_ans_call (by decide) M F d_is_begun d_is_change d_answer_change d_is_question d_answer_question d_answer_survey
  exact ok_answers (by decide) B T Tb MK (ok_init T FI) (FI.binds fun _ _ _ _ _ _ us hl => match us, hl with | [_], _ => rfl) F d_answer_call
end Gp
open PySem PySem.W PyProof.Rows
set_option maxRecDepth 100000 in
set_option maxHeartbeats 0 in
theorem PySem.Challenge.cw_gatheredsurely_s01_answers_holds : PySem.Challenge.rw_gatheredsurely_s01_answers.Holds := by
  w_on; k_headS; (case hw => exact ⟨[.list [.int 7]], by decide +kernel, by decide +kernel⟩)
  k_fillS
  refine L2.walk_specK (r := PySem.Challenge.rw_gatheredsurely_s01_answers) (k := 13) (CX := L2.CX0) (ps := ["calls"]) (sp := Gp.spAnswers) (by decide +kernel) rfl rfl ⟨rfl, by decide, by decide⟩ (fun w h Y => PySem.W.kIn_of Y) ?F ?S (fun _ _ _ _ z => z)
  case F =>
    intro w mg fa h Y KX G hmg
    refine' Gp.all_mk KX G hmg ?g_turned ?g_mirrored ?g_name_of ?g_all_rings ?g_names_like ?g_rank_of ?g_all_at_one_place ?g_seen_ring ?g_view_of ?g_lesser_steps ?g_is_even_handed ?g_eager_steps ?g_stepped ?g_steps_by_place ?g_eager_robots ?g_with_one_more ?g_may_go ?g_all_plays ?g_next_names ?g_at_rest_together ?g_rests_together ?g_moves_if_known ?g_following_by_name ?g_longest_by_name ?g_is_begun ?g_begin_ring ?g_refusal_of_mode ?g_change_mode ?g_change_eyes ?g_put_robots ?g_refusal_of_place ?g_can_be_done ?g_refusal_of_done ?g_tell_view ?g_untell_view ?g_jump_to_name ?g_following_of ?g_longest_of_ring ?g_ask_rank ?g_ask_ring ?g_ask_done ?g_ask_sure ?g_ask_longest ?g_answers ?g_is_change ?g_answer_change ?g_all_apart ?g_is_own_turning ?g_leaves_a_place ?g_is_own_mirror_between ?g_first_unsure ?g_not_met ?g_fewest_moves ?g_worst_of ?g_bad_play ?g_ask_soonest ?g_ask_worst ?g_ask_hopeless ?g_ask_told ?g_ask_bad ?g_longest_of_names ?g_rule_with ?g_sure_numbers ?g_survey_sures ?g_survey_if_at ?g_survey_if_tell ?g_survey_longest_of ?g_survey_beginnings ?g_survey_all_at ?g_is_question ?g_answer_question ?g_answer_survey ?g_answer_call ?t_CHANGES_OF_ONE ?t_CHANGES_OF_TWO ?t_QUESTIONS ?t_SURVEYS ?t_SURVEYS_OF_ONE ?t_SURVEYS_OF_TWO ?n_NO_PLACE ?n_NOTHING_TOLD ?n_NOT_BEGUN ?n_NOT_ALLOWED ?n_TOO_MANY ?n_NOT_THERE ?n_LEAST_PLACES ?n_MOST_PLACES ?n_MOST_ROBOTS ?n_MOST_VIEWS ?n_LAST_EYES ?n_LAST_DONE ?n_LAST_MODE ?n_BEGIN ?n_ONE_GOES ?n_SOME_GO ?b_len ?b_tuple ?b_range ?b_min ?b_max ?b_sum ?b_sorted ?b_set ?b_list ?b_enumerate ?b_all ?b_any ?aC ?aI ?iI ?lI ?cI ?kI ?pg ?hd ?po ?sa ?mk ?kc ?nR ?nE ?nU ?nM ?aM1 ?tM1 ?aM2 ?tM2
    (case g_turned => (refine' Gp.fnAt_mk ?a ?l ?c ?k; (case a => k_is); (case l => k_is); (case c => k_is); (case k => k_is)))
    (case g_mirrored => (refine' Gp.fnAt_mk ?a ?l ?c ?k; (case a => k_is); (case l => k_is); (case c => k_is); (case k => k_is)))
    (case g_name_of => (refine' Gp.fnAt_mk ?a ?l ?c ?k; (case a => k_is); (case l => k_is); (case c => k_is); (case k => k_is)))
    (case g_all_rings => (refine' Gp.fnAt_mk ?a ?l ?c ?k; (case a => k_is); (case l => k_is); (case c => k_is); (case k => k_is)))
    (case g_names_like => (refine' Gp.fnAt_mk ?a ?l ?c ?k; (case a => k_is); (case l => k_is); (case c => k_is); (case k => k_is)))
    (case g_rank_of => (refine' Gp.fnAt_mk ?a ?l ?c ?k; (case a => k_is); (case l => k_is); (case c => k_is); (case k => k_is)))
    (case g_all_at_one_place => (refine' Gp.fnAt_mk ?a ?l ?c ?k; (case a => k_is); (case l => k_is); (case c => k_is); (case k => k_is)))
    (case g_seen_ring => (refine' Gp.fnAt_mk ?a ?l ?c ?k; (case a => k_is); (case l => k_is); (case c => k_is); (case k => k_is)))
    (case g_view_of => (refine' Gp.fnAt_mk ?a ?l ?c ?k; (case a => k_is); (case l => k_is); (case c => k_is); (case k => k_is)))
    (case g_lesser_steps => (refine' Gp.fnAt_mk ?a ?l ?c ?k; (case a => k_is); (case l => k_is); (case c => k_is); (case k => k_is)))
    (case g_is_even_handed => (refine' Gp.fnAt_mk ?a ?l ?c ?k; (case a => k_is); (case l => k_is); (case c => k_is); (case k => k_is)))
    (case g_eager_steps => (refine' Gp.fnAt_mk ?a ?l ?c ?k; (case a => k_is); (case l => k_is); (case c => k_is); (case k => k_is)))
    (case g_stepped => (refine' Gp.fnAt_mk ?a ?l ?c ?k; (case a => k_is); (case l => k_is); (case c => k_is); (case k => k_is)))
    (case g_steps_by_place => (refine' Gp.fnAt_mk ?a ?l ?c ?k; (case a => k_is); (case l => k_is); (case c => k_is); (case k => k_is)))
    (case g_eager_robots => (refine' Gp.fnAt_mk ?a ?l ?c ?k; (case a => k_is); (case l => k_is); (case c => k_is); (case k => k_is)))
    (case g_with_one_more => (refine' Gp.fnAt_mk ?a ?l ?c ?k; (case a => k_is); (case l => k_is); (case c => k_is); (case k => k_is)))
    (case g_may_go => (refine' Gp.fnAt_mk ?a ?l ?c ?k; (case a => k_is); (case l => k_is); (case c => k_is); (case k => k_is)))
    (case g_all_plays => (refine' Gp.fnAt_mk ?a ?l ?c ?k; (case a => k_is); (case l => k_is); (case c => k_is); (case k => k_is)))
    (case g_next_names => (refine' Gp.fnAt_mk ?a ?l ?c ?k; (case a => k_is); (case l => k_is); (case c => k_is); (case k => k_is)))
    (case g_at_rest_together => (refine' Gp.fnAt_mk ?a ?l ?c ?k; (case a => k_is); (case l => k_is); (case c => k_is); (case k => k_is)))
    (case g_rests_together => (refine' Gp.fnAt_mk ?a ?l ?c ?k; (case a => k_is); (case l => k_is); (case c => k_is); (case k => k_is)))
    (case g_moves_if_known => (refine' Gp.fnAt_mk ?a ?l ?c ?k; (case a => k_is); (case l => k_is); (case c => k_is); (case k => k_is)))
    (case g_following_by_name => (refine' Gp.fnAt_mk ?a ?l ?c ?k; (case a => k_is); (case l => k_is); (case c => k_is); (case k => k_is)))
    (case g_longest_by_name => (refine' Gp.fnAt_mk ?a ?l ?c ?k; (case a => k_is); (case l => k_is); (case c => k_is); (case k => k_is)))
    (case g_is_begun => (refine' Gp.fnAt_mk ?a ?l ?c ?k; (case a => k_is); (case l => k_is); (case c => k_is); (case k => k_is)))
    (case g_begin_ring => (refine' Gp.fnAt_mk ?a ?l ?c ?k; (case a => k_is); (case l => k_is); (case c => k_is); (case k => k_is)))
    (case g_refusal_of_mode => (refine' Gp.fnAt_mk ?a ?l ?c ?k; (case a => k_is); (case l => k_is); (case c => k_is); (case k => k_is)))
    (case g_change_mode => (refine' Gp.fnAt_mk ?a ?l ?c ?k; (case a => k_is); (case l => k_is); (case c => k_is); (case k => k_is)))
    (case g_change_eyes => (refine' Gp.fnAt_mk ?a ?l ?c ?k; (case a => k_is); (case l => k_is); (case c => k_is); (case k => k_is)))
    (case g_put_robots => (refine' Gp.fnAt_mk ?a ?l ?c ?k; (case a => k_is); (case l => k_is); (case c => k_is); (case k => k_is)))
    (case g_refusal_of_place => (refine' Gp.fnAt_mk ?a ?l ?c ?k; (case a => k_is); (case l => k_is); (case c => k_is); (case k => k_is)))
    (case g_can_be_done => (refine' Gp.fnAt_mk ?a ?l ?c ?k; (case a => k_is); (case l => k_is); (case c => k_is); (case k => k_is)))
    (case g_refusal_of_done => (refine' Gp.fnAt_mk ?a ?l ?c ?k; (case a => k_is); (case l => k_is); (case c => k_is); (case k => k_is)))
    (case g_tell_view => (refine' Gp.fnAt_mk ?a ?l ?c ?k; (case a => k_is); (case l => k_is); (case c => k_is); (case k => k_is)))
    (case g_untell_view => (refine' Gp.fnAt_mk ?a ?l ?c ?k; (case a => k_is); (case l => k_is); (case c => k_is); (case k => k_is)))
    (case g_jump_to_name => (refine' Gp.fnAt_mk ?a ?l ?c ?k; (case a => k_is); (case l => k_is); (case c => k_is); (case k => k_is)))
    (case g_following_of => (refine' Gp.fnAt_mk ?a ?l ?c ?k; (case a => k_is); (case l => k_is); (case c => k_is); (case k => k_is)))
    (case g_longest_of_ring => (refine' Gp.fnAt_mk ?a ?l ?c ?k; (case a => k_is); (case l => k_is); (case c => k_is); (case k => k_is)))
    (case g_ask_rank => (refine' Gp.fnAt_mk ?a ?l ?c ?k; (case a => k_is); (case l => k_is); (case c => k_is); (case k => k_is)))
    (case g_ask_ring => (refine' Gp.fnAt_mk ?a ?l ?c ?k; (case a => k_is); (case l => k_is); (case c => k_is); (case k => k_is)))
    (case g_ask_done => (refine' Gp.fnAt_mk ?a ?l ?c ?k; (case a => k_is); (case l => k_is); (case c => k_is); (case k => k_is)))
    (case g_ask_sure => (refine' Gp.fnAt_mk ?a ?l ?c ?k; (case a => k_is); (case l => k_is); (case c => k_is); (case k => k_is)))
    (case g_ask_longest => (refine' Gp.fnAt_mk ?a ?l ?c ?k; (case a => k_is); (case l => k_is); (case c => k_is); (case k => k_is)))
    (case g_answers => (refine' Gp.fnAt_mk ?a ?l ?c ?k; (case a => k_is); (case l => k_is); (case c => k_is); (case k => k_is)))
    (case g_is_change => (refine' Gp.fnAt_mk ?a ?l ?c ?k; (case a => k_is); (case l => k_is); (case c => k_is); (case k => k_is)))
    (case g_answer_change => (refine' Gp.fnAt_mk ?a ?l ?c ?k; (case a => k_is); (case l => k_is); (case c => k_is); (case k => k_is)))
    (case g_all_apart => (refine' Gp.fnAt_mk ?a ?l ?c ?k; (case a => k_is); (case l => k_is); (case c => k_is); (case k => k_is)))
    (case g_is_own_turning => (refine' Gp.fnAt_mk ?a ?l ?c ?k; (case a => k_is); (case l => k_is); (case c => k_is); (case k => k_is)))
    (case g_leaves_a_place => (refine' Gp.fnAt_mk ?a ?l ?c ?k; (case a => k_is); (case l => k_is); (case c => k_is); (case k => k_is)))
    (case g_is_own_mirror_between => (refine' Gp.fnAt_mk ?a ?l ?c ?k; (case a => k_is); (case l => k_is); (case c => k_is); (case k => k_is)))
    (case g_first_unsure => (refine' Gp.fnAt_mk ?a ?l ?c ?k; (case a => k_is); (case l => k_is); (case c => k_is); (case k => k_is)))
    (case g_not_met => (refine' Gp.fnAt_mk ?a ?l ?c ?k; (case a => k_is); (case l => k_is); (case c => k_is); (case k => k_is)))
    (case g_fewest_moves => (refine' Gp.fnAt_mk ?a ?l ?c ?k; (case a => k_is); (case l => k_is); (case c => k_is); (case k => k_is)))
    (case g_worst_of => (refine' Gp.fnAt_mk ?a ?l ?c ?k; (case a => k_is); (case l => k_is); (case c => k_is); (case k => k_is)))
    (case g_bad_play => (refine' Gp.fnAt_mk ?a ?l ?c ?k; (case a => k_is); (case l => k_is); (case c => k_is); (case k => k_is)))
    (case g_ask_soonest => (refine' Gp.fnAt_mk ?a ?l ?c ?k; (case a => k_is); (case l => k_is); (case c => k_is); (case k => k_is)))
    (case g_ask_worst => (refine' Gp.fnAt_mk ?a ?l ?c ?k; (case a => k_is); (case l => k_is); (case c => k_is); (case k => k_is)))
    (case g_ask_hopeless => (refine' Gp.fnAt_mk ?a ?l ?c ?k; (case a => k_is); (case l => k_is); (case c => k_is); (case k => k_is)))
    (case g_ask_told => (refine' Gp.fnAt_mk ?a ?l ?c ?k; (case a => k_is); (case l => k_is); (case c => k_is); (case k => k_is)))
    (case g_ask_bad => (refine' Gp.fnAt_mk ?a ?l ?c ?k; (case a => k_is); (case l => k_is); (case c => k_is); (case k => k_is)))
    (case g_longest_of_names => (refine' Gp.fnAt_mk ?a ?l ?c ?k; (case a => k_is); (case l => k_is); (case c => k_is); (case k => k_is)))
    (case g_rule_with => (refine' Gp.fnAt_mk ?a ?l ?c ?k; (case a => k_is); (case l => k_is); (case c => k_is); (case k => k_is)))
    (case g_sure_numbers => (refine' Gp.fnAt_mk ?a ?l ?c ?k; (case a => k_is); (case l => k_is); (case c => k_is); (case k => k_is)))
    (case g_survey_sures => (refine' Gp.fnAt_mk ?a ?l ?c ?k; (case a => k_is); (case l => k_is); (case c => k_is); (case k => k_is)))
    (case g_survey_if_at => (refine' Gp.fnAt_mk ?a ?l ?c ?k; (case a => k_is); (case l => k_is); (case c => k_is); (case k => k_is)))
    (case g_survey_if_tell => (refine' Gp.fnAt_mk ?a ?l ?c ?k; (case a => k_is); (case l => k_is); (case c => k_is); (case k => k_is)))
    (case g_survey_longest_of => (refine' Gp.fnAt_mk ?a ?l ?c ?k; (case a => k_is); (case l => k_is); (case c => k_is); (case k => k_is)))
    (case g_survey_beginnings => (refine' Gp.fnAt_mk ?a ?l ?c ?k; (case a => k_is); (case l => k_is); (case c => k_is); (case k => k_is)))
    (case g_survey_all_at => (refine' Gp.fnAt_mk ?a ?l ?c ?k; (case a => k_is); (case l => k_is); (case c => k_is); (case k => k_is)))
    (case g_is_question => (refine' Gp.fnAt_mk ?a ?l ?c ?k; (case a => k_is); (case l => k_is); (case c => k_is); (case k => k_is)))
    (case g_answer_question => (refine' Gp.fnAt_mk ?a ?l ?c ?k; (case a => k_is); (case l => k_is); (case c => k_is); (case k => k_is)))
    (case g_answer_survey => (refine' Gp.fnAt_mk ?a ?l ?c ?k; (case a => k_is); (case l => k_is); (case c => k_is); (case k => k_is)))
    (case g_answer_call => (refine' Gp.fnAt_mk ?a ?l ?c ?k; (case a => k_is); (case l => k_is); (case c => k_is); (case k => k_is)))
    (case t_CHANGES_OF_ONE => (refine' Gp.tabAt_mk ?a ?l ?e ?lo; (case a => k_is); (case l => k_is); (case e => exact .cons rfl (.cons rfl (.cons rfl (.cons rfl .nil)))); (case lo => rfl)))
    (case t_CHANGES_OF_TWO => (refine' Gp.tabAt_mk ?a ?l ?e ?lo; (case a => k_is); (case l => k_is); (case e => exact .cons rfl (.cons rfl (.cons rfl .nil))); (case lo => rfl)))
    (case t_QUESTIONS => (refine' Gp.tabAt_mk ?a ?l ?e ?lo; (case a => k_is); (case l => k_is); (case e => exact .cons rfl (.cons rfl (.cons rfl (.cons rfl (.cons rfl (.cons rfl (.cons rfl (.cons rfl (.cons rfl (.cons rfl .nil)))))))))); (case lo => rfl)))
    (case t_SURVEYS => (refine' Gp.tabAt_mk ?a ?l ?e ?lo; (case a => k_is); (case l => k_is); (case e => exact .cons rfl (.cons rfl (.cons rfl .nil))); (case lo => rfl)))
    (case t_SURVEYS_OF_ONE => (refine' Gp.tabAt_mk ?a ?l ?e ?lo; (case a => k_is); (case l => k_is); (case e => exact .cons rfl (.cons rfl .nil)); (case lo => rfl)))
    (case t_SURVEYS_OF_TWO => (refine' Gp.tabAt_mk ?a ?l ?e ?lo; (case a => k_is); (case l => k_is); (case e => exact .cons rfl .nil); (case lo => rfl)))
    (case n_NO_PLACE => (refine' Gp.numAt ?a; (case a => k_is)))
    (case n_NOTHING_TOLD => (refine' Gp.numAt ?a; (case a => k_is)))
    (case n_NOT_BEGUN => (refine' Gp.numAt ?a; (case a => k_is)))
    (case n_NOT_ALLOWED => (refine' Gp.numAt ?a; (case a => k_is)))
    (case n_TOO_MANY => (refine' Gp.numAt ?a; (case a => k_is)))
    (case n_NOT_THERE => (refine' Gp.numAt ?a; (case a => k_is)))
    (case n_LEAST_PLACES => (refine' Gp.numAt ?a; (case a => k_is)))
    (case n_MOST_PLACES => (refine' Gp.numAt ?a; (case a => k_is)))
    (case n_MOST_ROBOTS => (refine' Gp.numAt ?a; (case a => k_is)))
    (case n_MOST_VIEWS => (refine' Gp.numAt ?a; (case a => k_is)))
    (case n_LAST_EYES => (refine' Gp.numAt ?a; (case a => k_is)))
    (case n_LAST_DONE => (refine' Gp.numAt ?a; (case a => k_is)))
    (case n_LAST_MODE => (refine' Gp.numAt ?a; (case a => k_is)))
    (case n_BEGIN => (refine' Gp.numAt ?a; (case a => k_is)))
    (case n_ONE_GOES => (refine' Gp.numAt ?a; (case a => k_is)))
    (case n_SOME_GO => (refine' Gp.numAt ?a; (case a => k_is)))
    (case b_len => k_is)
    (case b_tuple => k_is)
    (case b_range => k_is)
    (case b_min => k_is)
    (case b_max => k_is)
    (case b_sum => k_is)
    (case b_sorted => k_is)
    (case b_set => k_is)
    (case b_list => k_is)
    (case b_enumerate => k_is)
    (case b_all => k_is)
    (case b_any => k_is)
    (case aC => k_is)
    (case aI => k_is)
    (case iI => k_is)
    (case lI => k_is)
    (case cI => k_is)
    (case kI => k_is)
    (case pg => k_is)
    (case hd => k_is)
    (case po => k_is)
    (case sa => k_is)
    (case mk => k_is)
    (case kc => k_is)
    (case nR => k_is)
    (case nE => k_is)
    (case nU => k_is)
    (case nM => k_is)
    (case aM1 => k_is)
    (case tM1 => (refine' Gp.tupAt_mk ?l ?z ?v; (case l => k_is); (case z => decide); (case v => exact .cons rfl (.cons ⟨_, rfl⟩ (.cons ⟨_, rfl⟩ .nil)))))
    (case aM2 => k_is)
    (case tM2 => (refine' Gp.tupAt_mk ?l ?z ?v; (case l => k_is); (case z => decide); (case v => exact .cons ⟨_, rfl⟩ (.cons ⟨_, rfl⟩ (.cons ⟨_, rfl⟩ (.cons ⟨_, rfl⟩ (.cons ⟨_, rfl⟩ (.cons ⟨_, rfl⟩ (.cons ⟨_, rfl⟩ (.cons ⟨_, rfl⟩ (.cons ⟨_, rfl⟩ (.cons ⟨_, rfl⟩ (.cons ⟨_, rfl⟩ (.cons ⟨_, rfl⟩ (.cons ⟨_, rfl⟩ (.cons ⟨_, rfl⟩ (.cons ⟨_, rfl⟩ (.cons ⟨_, rfl⟩ (.cons ⟨_, rfl⟩ (.cons ⟨_, rfl⟩ (.cons ⟨_, rfl⟩ (.cons ⟨_, rfl⟩ (.cons ⟨_, rfl⟩ (.cons ⟨_, rfl⟩ (.cons ⟨_, rfl⟩ .nil)))))))))))))))))))))))))
  case S =>
    intro K H xs a hO hwi hask hx
    cases hx with
    | cons h1 h2 =>
      cases h2
      cases h1 with
      | lst hs ha =>
        have e := L2.ints_dw a.1 _ ha
        subst e
        have q : ((Codec.inLen 0 120 a.1 && a.1.all (Codec.inInt 0 4294967295)) && true) = true := hwi
        rw [Bool.and_eq_true, Bool.and_eq_true] at q
        exact ⟨_, a.1, rfl, hs, Gp.asked_of (Codec.inNat_iff.mp q.1.1).2 hask, fun H' p hp => .lst (L2.SqL.of hp) (L2.dw_ints _)⟩
