import PyProof.Rows.All
import Wide.All
import OpenK.AllK
import Wide.FinOn
import Open.SpecLaws
import KE.OsGo
import KE.KNest
import KE.KLam
import KE.DataMinMax
import KE.DataMinKey
import HandS.ForSpec
import HandS.ForMost
import HandS.SetFor
import HandS.Strs
import HandS.Zip
import HandS.Rev
import HandS.Deep
import HandS.Lambda
import HandS.Flow
import HandS.Walk
import PySem.Challenge.RW_lampring_s01_answers
import HandS.RevTup
import PyWideLaws
import HandS.Codes
import HandS.WideBits
import PyMu33
set_option Elab.async false
set_option linter.all false
set_option maxRecDepth 100000
set_option maxHeartbeats 8000000
set_option autoImplicit false
namespace LR
open Mu33

/-! ### rows -/
theorem rows_snoc (m : Nat) : ∀ n, rows m (n + 1) = (rows m n).flatMap fun r => (List.range m).map fun k => r ++ [k]
  | 0 => by
    show ((List.range m).flatMap fun k => [[]].map fun l => k :: l) = [[]].flatMap fun r => (List.range m).map fun k => r ++ [k]
    simp only [List.map_cons, List.map_nil, List.flatMap_cons, List.flatMap_nil, List.append_nil, List.nil_append]
    rw [List.map_eq_flatMap]
  | n + 1 => by
    show ((List.range m).flatMap fun k => (rows m (n + 1)).map fun l => k :: l) = ((List.range m).flatMap fun k => (rows m n).map fun l => k :: l).flatMap fun r => (List.range m).map fun k => r ++ [k]
    rw [List.flatMap_assoc]
    congr 1
    funext k
    rw [rows_snoc m n, List.map_flatMap, List.flatMap_map]
    congr 1
    funext r
    rw [List.map_map]
    rfl
theorem rows_length (m : Nat) : ∀ n, (rows m n).length = m ^ n
  | 0 => rfl
  | n + 1 => by
    show ((List.range m).flatMap fun k => (rows m n).map fun l => k :: l).length = m ^ (n + 1)
    rw [List.length_flatMap]
    have e : (fun a => (List.map (fun l => a :: l) (rows m n)).length) = fun _ : Nat => m ^ n := by
      funext a
      rw [List.length_map, rows_length m n]
    rw [e, List.map_const', List.sum_replicate_nat, List.length_range, Nat.pow_succ, Nat.mul_comm]
theorem rows_mem {m : Nat} : ∀ {n : Nat} {r : List Nat}, r ∈ rows m n → r.length = n ∧ ∀ k ∈ r, k < m
  | 0, r, h => by
    have e : r = [] := by simpa [rows] using h
    subst e
    simp
  | n + 1, r, h => by
    have h' : r ∈ (List.range m).flatMap fun k => (rows m n).map fun l => k :: l := h
    rw [List.mem_flatMap] at h'
    obtain ⟨k, hk, h2⟩ := h'
    rw [List.mem_map] at h2
    obtain ⟨l, hl, rfl⟩ := h2
    obtain ⟨e1, e2⟩ := rows_mem hl
    refine ⟨by simp [e1], fun j hj => ?_⟩
    rcases List.mem_cons.mp hj with rfl | hj
    · exact List.mem_range.mp hk
    · exact e2 j hj

/-! ### before -/
theorem before_irrefl : ∀ l : List Nat, before l l = false
  | [] => rfl
  | x :: l => by simp [before, before_irrefl l]
theorem before_trans : ∀ {a b c : List Nat}, before a b = true → before b c = true → before a c = true
  | [], _, _, h, _ => by simp [before] at h
  | _ :: _, [], _, h, _ => by simp [before] at h
  | _ :: _, _ :: _, [], _, h => by simp [before] at h
  | x :: a, y :: b, z :: c, h1, h2 => by
    simp only [before, Bool.or_eq_true, Bool.and_eq_true, decide_eq_true_eq, beq_iff_eq] at h1 h2 ⊢
    rcases h1 with h1 | ⟨e1, h1⟩
    · rcases h2 with h2 | ⟨e2, h2⟩
      · exact .inl (by omega)
      · exact .inl (by omega)
    · rcases h2 with h2 | ⟨e2, h2⟩
      · exact .inl (by omega)
      · exact .inr ⟨by omega, before_trans h1 h2⟩
theorem before_tri : ∀ {a b : List Nat}, a.length = b.length → before a b = false → before b a = false → a = b
  | [], [], _, _, _ => rfl
  | [], _ :: _, h, _, _ => by simp at h
  | _ :: _, [], h, _, _ => by simp at h
  | x :: a, y :: b, h, h1, h2 => by
    simp only [before, Bool.or_eq_false_iff, Bool.and_eq_false_iff, decide_eq_false_iff_not, beq_eq_false_iff_ne] at h1 h2
    have e : x = y := by omega
    subst e
    have h1' : before a b = false := by simpa using h1.2
    have h2' : before b a = false := by simpa using h2.2
    have ih : a = b := before_tri (by simpa using h) h1' h2'
    rw [ih]
theorem before_asymm {a b : List Nat} (h : before a b = true) : before b a = false := by
  cases e : before b a with
  | false => rfl
  | true =>
    have := before_trans h e
    rw [before_irrefl] at this
    cases this

/-- the first of the least -/
def mn (x : List Nat) (xs : List (List Nat)) : List Nat := xs.foldl (fun a y => if before y a = true then y else a) x
theorem mn_mem : ∀ (xs : List (List Nat)) (x : List Nat), mn x xs ∈ x :: xs
  | [], x => by simp [mn]
  | y :: xs, x => by
    show mn (if before y x = true then y else x) xs ∈ x :: y :: xs
    by_cases c : before y x = true
    · rw [if_pos c]
      exact List.mem_cons_of_mem _ (mn_mem xs y)
    · rw [if_neg c]
      rcases List.mem_cons.mp (mn_mem xs x) with e | e
      · rw [e]
        exact List.mem_cons_self
      · exact List.mem_cons_of_mem _ (List.mem_cons_of_mem _ e)
theorem mn_le_aux : ∀ (xs : List (List Nat)) (x : List Nat), before x (mn x xs) = false ∧ (∀ z, before z x = false → before z (mn x xs) = false) ∧ ∀ y ∈ xs, before y (mn x xs) = false
  | [], x => ⟨before_irrefl x, fun _ h => h, fun _ h => absurd h (by simp)⟩
  | y :: xs, x => by
    show before x (mn (if before y x = true then y else x) xs) = false ∧ (∀ z, before z x = false → before z (mn (if before y x = true then y else x) xs) = false) ∧ ∀ z ∈ y :: xs, before z (mn (if before y x = true then y else x) xs) = false
    by_cases c : before y x = true
    · rw [if_pos c]
      obtain ⟨h1, h2, h3⟩ := mn_le_aux xs y
      have k : ∀ z, before z x = false → before z y = false := fun z hz => by
        cases e : before z y with
        | false => rfl
        | true => rw [before_trans e c] at hz; cases hz
      refine ⟨h2 x (before_asymm c), fun z hz => h2 z (k z hz), fun z hz => ?_⟩
      rcases List.mem_cons.mp hz with rfl | hz
      · exact h1
      · exact h3 z hz
    · rw [if_neg c]
      obtain ⟨h1, h2, h3⟩ := mn_le_aux xs x
      refine ⟨h1, h2, fun z hz => ?_⟩
      rcases List.mem_cons.mp hz with rfl | hz
      · exact h2 z (by simpa using c)
      · exact h3 z hz
theorem mn_le {x : List Nat} {xs : List (List Nat)} {y : List Nat} (h : y ∈ x :: xs) : before y (mn x xs) = false := by
  obtain ⟨h1, _, h3⟩ := mn_le_aux xs x
  rcases List.mem_cons.mp h with rfl | h
  · exact h1
  · exact h3 y h

/-! ### spellings -/
theorem turned_len {l x : List Nat} (h : x ∈ turned l) : x.length = l.length := by
  unfold turned at h
  rw [List.mem_map] at h
  obtain ⟨i, hi, rfl⟩ := h
  have := List.mem_range.mp hi
  simp
  omega
theorem spell_len {l x : List Nat} (h : x ∈ spellings l) : x.length = l.length := by
  rcases List.mem_append.mp h with h | h
  · exact turned_len h
  · rw [turned_len h, List.length_reverse]
theorem spell_self {l : List Nat} (h : 0 < l.length) : l ∈ spellings l := by
  refine List.mem_append_left _ ?_
  unfold turned
  rw [List.mem_map]
  exact ⟨0, List.mem_range.mpr h, by simp⟩
theorem told_iff {l x : List Nat} {xs : List (List Nat)} (h : 0 < l.length) (e : spellings l = x :: xs) : isTold l = true ↔ l = mn x xs := by
  have self := spell_self h
  have mem := mn_mem xs x
  rw [← e] at mem
  unfold isTold
  rw [List.all_eq_true]
  constructor
  · intro k
    have k1 := k _ mem
    have k2 : before l (mn x xs) = false := mn_le (by rw [← e]; exact self)
    exact before_tri (spell_len mem).symm k2 (by simpa using k1)
  · intro k y hy
    have := mn_le (x := x) (xs := xs) (y := y) (by rw [← e]; exact hy)
    rw [← k] at this
    simp [this]
theorem told_head {l : List Nat} {i : Nat} (hi : i < l.length) (h : isTold l = true) : l.getD 0 0 ≤ l.getD i 0 := by
  unfold isTold at h
  rw [List.all_eq_true] at h
  have k := h (l.drop i ++ l.take i) (List.mem_append_left _ (by unfold turned; exact List.mem_map.mpr ⟨i, List.mem_range.mpr hi, rfl⟩))
  cases l with
  | nil => simp at hi
  | cons a r =>
    have e : (a :: r).drop i = (a :: r).getD i 0 :: (a :: r).drop (i + 1) := by
      rw [List.drop_eq_getElem_cons hi]
      congr 1
      simp [List.getD_eq_getElem?_getD, List.getElem?_eq_getElem hi]
    rw [e] at k
    simp only [List.cons_append, before, Bool.not_eq_true', Bool.or_eq_false_iff, decide_eq_false_iff_not] at k
    have k1 := k.1
    show a ≤ _
    omega

/-! ### sums and finds -/
theorem foldl_add : ∀ (l : List Nat) (a : Nat), l.foldl (fun a b => a + b) a = a + l.sum
  | [], a => by simp
  | x :: l, a => by
    rw [List.foldl_cons, foldl_add l, List.sum_cons]
    omega
theorem total_sum (l : List Nat) : total l = l.sum := by
  unfold total
  rw [foldl_add]
  simp
theorem find_range_some {n i : Nat} {P : Nat → Bool} (hi : i < n) (h1 : P i = true) (h2 : ∀ j, j < i → P j = false) : (List.range n).find? P = some i := by
  rw [List.find?_range_eq_some]
  exact ⟨h1, List.mem_range.mpr hi, fun j hj => by simp [h2 j hj]⟩
theorem find_range_none {n : Nat} {P : Nat → Bool} (h : ∀ j, j < n → P j = false) : (List.range n).find? P = none := by
  rw [List.find?_range_eq_none]
  exact fun j hj => by simp [h j hj]
end LR

namespace LR
open Mu33

/-! ### brass: what is left of each strip -/
/-- the program's own loop: of the strip j the band x is taken -/
def lstep (a : List Int) (p : Nat × Nat) : List Int := a.set p.1 (a.getD p.1 0 - p.2)
def lleft (l h p : List Nat) : List Int := (p.zip h).foldl lstep (l.map fun (x : Nat) => (x : Int))
theorem lstep_len (a : List Int) (p : Nat × Nat) : (lstep a p).length = a.length := by simp [lstep]
theorem lfold_len : ∀ (q : List (Nat × Nat)) (a : List Int), (q.foldl lstep a).length = a.length
  | [], a => rfl
  | x :: q, a => by rw [List.foldl_cons, lfold_len q, lstep_len]
/-- how much of the strip i is taken -/
def took (i : Nat) (q : List (Nat × Nat)) : Nat := (q.map fun x => if x.1 = i then x.2 else 0).sum
theorem lfold_get : ∀ (q : List (Nat × Nat)) (a : List Int) (i : Nat), i < a.length → (q.foldl lstep a).getD i 0 = a.getD i 0 - (took i q : Int)
  | [], a, i, _ => by simp [took]
  | x :: q, a, i, h => by
    rw [List.foldl_cons, lfold_get q _ i (by rw [lstep_len]; exact h)]
    have e : took i (x :: q) = (if x.1 = i then x.2 else 0) + took i q := by simp [took]
    rw [e]
    unfold lstep
    by_cases c : x.1 = i
    · subst c
      rw [if_pos rfl]
      simp only [List.getD_eq_getElem?_getD, List.getElem?_set_self h, Option.getD_some]
      omega
    · rw [if_neg c]
      simp only [List.getD_eq_getElem?_getD, List.getElem?_set_ne c]
      omega
theorem took_zipWith (i : Nat) : ∀ (p h : List Nat), took i (p.zip h) = total (List.zipWith (fun x j => if j = i then x else 0) h p)
  | [], h => by simp [took, total]
  | _ :: _, [] => by simp [took, total]
  | j :: p, x :: h => by
    have ih := took_zipWith i p h
    rw [total_sum] at ih ⊢
    simp only [List.zip_cons_cons, List.zipWith_cons_cons, List.sum_cons, took, List.map_cons] at ih ⊢
    rw [ih]
theorem uses_len (m : Nat) (h p : List Nat) : (uses m h p).length = m := by simp [uses]
theorem uses_get {m i : Nat} (h p : List Nat) (hi : i < m) : (uses m h p)[i]? = some (took i (p.zip h)) := by
  unfold uses
  rw [List.getElem?_map, List.getElem?_range hi, took_zipWith]
  rfl
theorem lleft_len (l h p : List Nat) : (lleft l h p).length = l.length := by
  unfold lleft
  rw [lfold_len, List.length_map]
/-- what is left is the strip without what a cutting uses of it -/
theorem lleft_eq (l h p : List Nat) : lleft l h p = List.zipWith (fun (u x : Nat) => (x : Int) - (u : Int)) (uses l.length h p) l := by
  apply List.ext_getElem?
  intro i
  by_cases hi : i < l.length
  · have h1 : i < (lleft l h p).length := by rw [lleft_len]; exact hi
    have h2 := lfold_get (p.zip h) (l.map fun (x : Nat) => (x : Int)) i (by rw [List.length_map]; exact hi)
    have h3 : (lleft l h p).getD i 0 = (l.map fun (x : Nat) => (x : Int)).getD i 0 - (took i (p.zip h) : Int) := h2
    rw [List.getD_eq_getElem?_getD, List.getD_eq_getElem?_getD, List.getElem?_eq_getElem h1, List.getElem?_map, List.getElem?_eq_getElem hi] at h3
    rw [List.getElem?_eq_getElem h1, List.getElem?_zipWith, uses_get h p hi, List.getElem?_eq_getElem hi]
    simpa using h3
  · rw [List.getElem?_eq_none (by rw [lleft_len]; omega), List.getElem?_eq_none (by simp [uses_len]; omega)]
theorem able_iff (l h p : List Nat) : able l h p = (lleft l h p).all fun x => decide (0 ≤ x) := by
  rw [lleft_eq]
  unfold able
  generalize uses l.length h p = u
  induction u generalizing l with
  | nil => rfl
  | cons a u ih =>
    cases l with
    | nil => rfl
    | cons x l =>
      simp only [List.zipWith_cons_cons, List.all_cons, ih]
      congr 1
      simp only [decide_eq_decide]
      omega
theorem took_pos {i : Nat} : ∀ {p h : List Nat}, p.length = h.length → (∀ x ∈ h, 0 < x) → (took i (p.zip h) ≠ 0 ↔ i ∈ p)
  | [], [], _, _ => by simp [took]
  | [], _ :: _, e, _ => by simp at e
  | _ :: _, [], e, _ => by simp at e
  | j :: p, x :: h, e, hp => by
    have ih := took_pos (i := i) (p := p) (h := h) (by simpa using e) fun y hy => hp y (List.mem_cons_of_mem _ hy)
    have hx := hp x List.mem_cons_self
    have e2 : took i ((j :: p).zip (x :: h)) = (if j = i then x else 0) + took i (p.zip h) := by simp [took]
    rw [e2, List.mem_cons, ← ih]
    by_cases c : j = i
    · rw [if_pos c]
      constructor
      · intro _
        exact .inl c.symm
      · intro _
        omega
    · rw [if_neg c]
      constructor
      · intro k
        exact .inr (by omega)
      · rintro (k | k)
        · exact absurd k.symm c
        · omega
/-- the strips that are begun, as the program has them -/
def bset (m : Nat) (p : List Nat) : List Nat := (List.range m).filter fun i => p.contains i
theorem filter_range_map {β : Type} (f : Nat → β) (P : β → Bool) : ∀ (l : List Nat), ((l.map f).filter P).length = (l.filter fun i => P (f i)).length
  | [] => rfl
  | x :: l => by
    rw [List.map_cons, List.filter_cons, List.filter_cons]
    split
    · simp [filter_range_map f P l]
    · exact filter_range_map f P l
theorem bset_len {l h p : List Nat} (e : p.length = h.length) (hp : ∀ x ∈ h, 0 < x) : (bset l.length p).length = begun l h p := by
  unfold begun uses
  rw [filter_range_map]
  unfold bset
  congr 1
  apply List.filter_congr
  intro i _
  have k := took_pos (i := i) e hp
  rw [took_zipWith] at k
  by_cases c : i ∈ p
  · have c1 : p.contains i = true := by simpa using c
    rw [c1]
    exact (bne_iff_ne.mpr (k.mpr c)).symm
  · have c1 : p.contains i = false := by simpa using c
    rw [c1]
    have c2 : total (List.zipWith (fun x j => if j = i then x else 0) h p) = 0 := Decidable.byContradiction fun q => c (k.mp q)
    rw [c2]
    rfl
theorem sum_filter_int (f : Nat → Int) (P : Nat → Bool) : ∀ l : List Nat, ((l.filter P).map f).sum = (l.map fun i => if P i = true then f i else 0).sum
  | [] => rfl
  | x :: l => by
    rw [List.filter_cons, List.map_cons, List.sum_cons, ← sum_filter_int f P l]
    by_cases c : P x = true
    · rw [if_pos c, if_pos c, List.map_cons, List.sum_cons]
    · rw [if_neg c, if_neg c]
      omega
theorem sum_cast : ∀ l : List Nat, ((l.map fun (n : Nat) => (n : Int)).sum) = (l.sum : Int)
  | [] => rfl
  | x :: l => by
    rw [List.map_cons, List.sum_cons, List.sum_cons, sum_cast l]
    omega
theorem zipWith_range {β : Type} (g : Nat → Nat → β) (f : Nat → Nat) (l : List Nat) : List.zipWith g ((List.range l.length).map f) l = (List.range l.length).map fun i => g (f i) (l.getD i 0) := by
  apply List.ext_getElem?
  intro i
  by_cases hi : i < l.length
  · simp [List.getElem?_zipWith, List.getElem?_range hi, List.getElem?_eq_getElem hi, List.getD_eq_getElem?_getD]
  · rw [List.getElem?_eq_none (by simp; omega), List.getElem?_eq_none (by simp; omega)]
/-- what is left over of those that are begun, together -/
theorem bset_sum {l h p : List Nat} (e : p.length = h.length) (hp : ∀ x ∈ h, 0 < x) (ha : able l h p = true) : ((bset l.length p).map fun i => (lleft l h p).getD i 0).sum = (left l h p : Int) := by
  unfold bset left
  rw [sum_filter_int, total_sum]
  have ez : List.zipWith (fun u x => if u = 0 then 0 else x - u) (uses l.length h p) l = (List.range l.length).map fun i => (if took i (p.zip h) = 0 then 0 else l.getD i 0 - took i (p.zip h)) := by
    unfold uses
    rw [zipWith_range]
    simp only [← took_zipWith]
  rw [ez, ← sum_cast, List.map_map]
  congr 1
  apply List.map_congr_left
  intro i hi
  have hi := List.mem_range.mp hi
  have k := took_pos (i := i) e hp
  have g : (lleft l h p).getD i 0 = (l.map fun (x : Nat) => (x : Int)).getD i 0 - (took i (p.zip h) : Int) := lfold_get (p.zip h) (l.map fun (x : Nat) => (x : Int)) i (by rw [List.length_map]; exact hi)
  have g2 : (l.map fun (x : Nat) => (x : Int)).getD i 0 = (l.getD i 0 : Int) := by
    simp [List.getD_eq_getElem?_getD, List.getElem?_eq_getElem hi]
  have g3 : 0 ≤ (lleft l h p).getD i 0 := by
    rw [able_iff, List.all_eq_true] at ha
    have hl : i < (lleft l h p).length := by rw [lleft_len]; exact hi
    have := ha _ (List.getElem_mem hl)
    rw [List.getD_eq_getElem?_getD, List.getElem?_eq_getElem hl]
    simpa using this
  show (if p.contains i = true then (lleft l h p).getD i 0 else 0) = (((if took i (p.zip h) = 0 then 0 else l.getD i 0 - took i (p.zip h)) : Nat) : Int)
  by_cases c : i ∈ p
  · have c1 : p.contains i = true := by simpa using c
    rw [if_pos c1, if_neg (k.mpr c)]
    omega
  · have c1 : ¬ p.contains i = true := by simpa using c
    have c2 : took i (p.zip h) = 0 := Decidable.byContradiction fun q => c (k.mp q)
    rw [if_neg c1, if_pos c2]
    rfl
/-- the strips behind a cutting -/
theorem kept_eq {l h p : List Nat} (h5 : ∀ x ∈ l, 5 ≤ x) (ha : able l h p = true) : (kept l h p).map (fun (n : Nat) => (n : Int)) = (lleft l h p).filter fun x => decide (5 ≤ x) := by
  rw [lleft_eq]
  unfold able at ha
  unfold kept
  generalize uses l.length h p = u at ha
  induction u generalizing l with
  | nil => rfl
  | cons a u ih =>
    cases l with
    | nil => rfl
    | cons x l =>
      simp only [List.zipWith_cons_cons, List.all_cons, Bool.and_eq_true, decide_eq_true_eq] at ha
      have ih := ih (l := l) (fun y hy => h5 y (List.mem_cons_of_mem _ hy)) ha.2
      have hx := h5 x List.mem_cons_self
      simp only [List.zip_cons_cons, List.zipWith_cons_cons, List.filterMap_cons, List.filter_cons]
      by_cases c0 : a = 0
      · subst c0
        rw [if_pos rfl, if_pos (by simp; omega)]
        simp only [List.map_cons, ih]
        simp
      · rw [if_neg c0]
        by_cases c5 : SHORT ≤ x - a
        · have c5' : 5 ≤ x - a := c5
          rw [if_pos c5, if_pos (by simp; omega)]
          simp only [List.map_cons, ih]
          congr 1
          omega
        · have c5' : ¬ 5 ≤ x - a := c5
          rw [if_neg c5, if_neg (by simp; omega)]
          exact ih
theorem kept_big {l h p : List Nat} (h5 : ∀ x ∈ l, 5 ≤ x) : ∀ x ∈ kept l h p, 5 ≤ x := by
  intro x hx
  unfold kept at hx
  rw [List.mem_filterMap] at hx
  obtain ⟨⟨u, y⟩, hm, e⟩ := hx
  have hy := h5 y (List.of_mem_zip hm).2
  simp only at e
  split at e
  · cases e
    exact hy
  · split at e
    · rename_i c
      cases e
      exact c
    · cases e
theorem kept_len (l h p : List Nat) : (kept l h p).length ≤ l.length := by
  unfold kept
  refine Nat.le_trans (List.length_filterMap_le _ _) ?_
  rw [List.length_zip]
  omega
end LR

namespace LR
open Mu33

/-! ### the best cutting -/
/-- the order of the program's ranks: strips begun, left over, the row itself -/
def klt (l h a b : List Nat) : Bool := decide (begun l h a < begun l h b) || (begun l h a == begun l h b && (decide (left l h a < left l h b) || (left l h a == left l h b && before a b)))
theorem klt_better {l h x m : List Nat} (hb : before m x = true) : klt l h x m = better l h x m := by
  unfold klt better
  rw [before_asymm hb]
  simp
theorem rows_pairwise (m : Nat) : ∀ n, (rows m n).Pairwise fun a b => before a b = true
  | 0 => by simp [rows]
  | n + 1 => by
    show ((List.range m).flatMap fun k => (rows m n).map fun l => k :: l).Pairwise fun a b => before a b = true
    rw [List.pairwise_flatMap]
    refine ⟨fun k _ => ?_, ?_⟩
    · rw [List.pairwise_map]
      refine (rows_pairwise m n).imp fun {a b} h => ?_
      simp [before, h]
    · refine List.pairwise_lt_range.imp fun {a b} h => ?_
      intro x hx y hy
      rw [List.mem_map] at hx hy
      obtain ⟨x', _, rfl⟩ := hx
      obtain ⟨y', _, rfl⟩ := hy
      simp [before, h]
theorem fold_klt {l h : List Nat} : ∀ (r : List (List Nat)) (p : List Nat), (p :: r).Pairwise (fun a b => before a b = true) →
    r.foldl (fun m x => if klt l h x m = true then x else m) p = r.foldl (fun m x => if better l h x m = true then x else m) p
  | [], _, _ => rfl
  | x :: r, p, hp => by
    rw [List.pairwise_cons] at hp
    obtain ⟨h1, h2⟩ := hp
    rw [List.foldl_cons, List.foldl_cons, klt_better (h1 x List.mem_cons_self)]
    by_cases c : better l h x p = true
    · rw [if_pos c]
      exact fold_klt r x h2
    · rw [if_neg c]
      refine fold_klt r p ?_
      rw [List.pairwise_cons]
      exact ⟨fun y hy => h1 y (List.mem_cons_of_mem _ hy), (List.pairwise_cons.mp h2).2⟩
theorem cutting_eq (l h : List Nat) : cutting l h = match (rows l.length h.length).filter (able l h) with
    | [] => none
    | p :: r => some (r.foldl (fun m x => if klt l h x m = true then x else m) p) := by
  unfold cutting
  have hp : ((rows l.length h.length).filter (able l h)).Pairwise fun a b => before a b = true := (rows_pairwise _ _).filter _
  revert hp
  generalize (rows l.length h.length).filter (able l h) = q
  intro hp
  cases q with
  | nil => rfl
  | cons p r => simp only [fold_klt r p hp]
theorem fold_mem {α : Type} (f : α → α → Bool) : ∀ (r : List α) (p : α), r.foldl (fun m x => if f x m = true then x else m) p ∈ p :: r
  | [], p => by simp
  | x :: r, p => by
    rw [List.foldl_cons]
    by_cases c : f x p = true
    · rw [if_pos c]
      exact List.mem_cons_of_mem _ (fold_mem f r x)
    · rw [if_neg c]
      rcases List.mem_cons.mp (fold_mem f r p) with e | e
      · rw [e]
        exact List.mem_cons_self
      · exact List.mem_cons_of_mem _ (List.mem_cons_of_mem _ e)
theorem cutting_mem {l h p : List Nat} (e : cutting l h = some p) : p ∈ rows l.length h.length ∧ able l h p = true := by
  rw [cutting_eq] at e
  have k : p ∈ (rows l.length h.length).filter (able l h) := by
    revert e
    generalize (rows l.length h.length).filter (able l h) = q
    intro e
    cases q with
    | nil => cases e
    | cons x r =>
      cases e
      exact fold_mem _ r x
  exact List.mem_filter.mp k

/-! ### rings -/
theorem fits_iff {s : State} {g : Nat} {l : List Nat} : fits s g l = true ↔ weight s l = g ∧ dark s l = none ∧ lacks s l = none := by
  unfold fits
  simp only [Bool.and_eq_true, beq_iff_eq, Option.isNone_iff_eq_none]
theorem rings_mem {s : State} {g n : Nat} {r : List Nat} (h : r ∈ rings s g n) : r.length = n ∧ (∀ k ∈ r, k < s.sorts.length) ∧ fits s g r = true := by
  unfold rings at h
  rw [List.mem_filter] at h
  obtain ⟨h1, h2⟩ := h
  obtain ⟨e1, e2⟩ := rows_mem h1
  simp only [Bool.and_eq_true] at h2
  exact ⟨e1, e2, h2.1⟩
theorem first_mem {s : State} {g : Nat} {r : List Nat} (h : first s g = some r) : 3 ≤ r.length ∧ r.length ≤ 6 ∧ (∀ k ∈ r, k < s.sorts.length) ∧ fits s g r = true := by
  unfold first at h
  have k := List.mem_of_mem_head? h
  rw [List.mem_flatMap] at k
  obtain ⟨n, hn, hr⟩ := k
  obtain ⟨e1, e2, e3⟩ := rings_mem hr
  have : n = 3 ∨ n = 4 ∨ n = 5 ∨ n = 6 := by simpa [SIZES] using hn
  exact ⟨by omega, by omega, e2, e3⟩
/-- the fewest panes first: what the program's loop says of the sizes so far -/
theorem first_walk {s : State} {g : Nat} : first s g = match rings s g 3 with
    | r :: _ => some r
    | [] => match rings s g 4 with
      | r :: _ => some r
      | [] => match rings s g 5 with
        | r :: _ => some r
        | [] => match rings s g 6 with
          | r :: _ => some r
          | [] => none := by
  unfold first SIZES
  simp only [List.flatMap_cons, List.flatMap_nil, List.append_nil]
  cases rings s g 3 with
  | cons r t => rfl
  | nil =>
    cases rings s g 4 with
    | cons r t => rfl
    | nil =>
      cases rings s g 5 with
      | cons r t => rfl
      | nil =>
        cases rings s g 6 with
        | cons r t => rfl
        | nil => rfl
/-- of no sort a ring that may be set has more than there are -/
theorem lacks_none {s : State} {l : List Nat} (h : lacks s l = none) {k : Nat} (hk : k < s.sorts.length) : count k l ≤ s.stock.getD k 0 := by
  unfold lacks at h
  rw [List.find?_range_eq_none] at h
  have := h k hk
  simp at this
  exact this
theorem count_eq (k : Nat) (l : List Nat) : count k l = l.count k := by
  unfold count
  rw [List.count_eq_length_filter]
end LR

namespace LR
open Mu33
/-! ### what holds of every shop that there is -/
structure LanOk (s : State) (c : Lantern) : Prop where
  girth3 : 3 ≤ c.girth
  girth60 : c.girth ≤ 60
  ring3 : 3 ≤ c.ring.length
  ring6 : c.ring.length ≤ 6
  there : ∀ k ∈ c.ring, k < s.sorts.length
structure Good (s : State) : Prop where
  new20 : 20 ≤ s.new
  new200 : s.new ≤ 200
  sort1 : 1 ≤ s.sorts.length
  sort4 : s.sorts.length ≤ 4
  wide : ∀ x ∈ s.sorts, 1 ≤ x.width ∧ x.width ≤ 20
  stock : s.stock.length = s.sorts.length
  gone : s.gone.length = s.sorts.length
  strips8 : s.strips.length ≤ 8
  strip5 : ∀ x ∈ s.strips, 5 ≤ x
  six : s.lanterns.length ≤ 6
  ids : s.lanterns.Pairwise fun a b => a.id < b.id
  next : ∀ c ∈ s.lanterns, c.id < s.next
  lan : ∀ c ∈ s.lanterns, LanOk s c
theorem LanOk.of {s t : State} {c d : Lantern} (x : LanOk s c) (e : t.sorts = s.sorts) (g : d.girth = c.girth) (r : d.ring = c.ring) : LanOk t d :=
  ⟨by rw [g]; exact x.girth3, by rw [g]; exact x.girth60, by rw [r]; exact x.ring3, by rw [r]; exact x.ring6, by rw [r, e]; exact x.there⟩
theorem sortOf_wide {x : List Nat} {y : Sort_} (h : sortOf x = some y) : 1 ≤ y.width ∧ y.width ≤ 20 := by
  unfold sortOf at h
  split at h
  · split at h
    · rename_i c
      cases h
      exact ⟨c.1, c.2.1⟩
    · cases h
  · cases h
theorem good_begin {r : Nat} {l : List (List Nat)} (h : ¬ (r < 20 ∨ (200 < r ∨ (l.isEmpty = true ∨ (4 < l.length ∨ l.any (fun x => (sortOf x).isNone) = true))))) :
    (l.filterMap sortOf).length = l.length ∧ Good ⟨r, l.filterMap sortOf, List.replicate l.length 0, List.replicate l.length 0, List.replicate l.length 0, [], 0, 0, 0, [], 0⟩ := by
  simp only [not_or] at h
  obtain ⟨h1, h2, h3, h4, h5⟩ := h
  have e : (l.filterMap sortOf).length = l.length := by
    clear h3 h4
    induction l with
    | nil => rfl
    | cons x l ih =>
      have h5' : ¬ ((sortOf x).isNone || l.any fun x => (sortOf x).isNone) = true := h5
      simp only [Bool.or_eq_true, not_or] at h5'
      cases q : sortOf x with
      | none =>
        rw [q] at h5'
        exact absurd rfl h5'.1
      | some y =>
        rw [List.filterMap_cons, q]
        show (l.filterMap sortOf).length + 1 = l.length + 1
        rw [ih h5'.2]
  refine ⟨e, ⟨by show 20 ≤ r; omega, by show r ≤ 200; omega, ?_, by show (l.filterMap sortOf).length ≤ 4; omega, fun x hx => ?_, ?_, ?_, Nat.zero_le _, fun x hx => absurd hx (by simp), Nat.zero_le _, List.Pairwise.nil, fun c hc => absurd hc (by simp), fun c hc => absurd hc (by simp)⟩⟩
  · show 1 ≤ (l.filterMap sortOf).length
    rw [e]
    cases l with
    | nil => exact absurd rfl h3
    | cons x l => simp
  · obtain ⟨y, _, hy⟩ := List.mem_filterMap.mp hx
    exact sortOf_wide hy
  · show (List.replicate l.length 0).length = (l.filterMap sortOf).length
    rw [List.length_replicate, e]
  · show (List.replicate l.length 0).length = (l.filterMap sortOf).length
    rw [List.length_replicate, e]
theorem good_panes {s : State} (g : Good s) (k n : Nat) : Good { s with stock := s.stock.set k (s.stock.getD k 0 + n), came := s.came.set k (s.came.getD k 0 + n) } :=
  ⟨g.new20, g.new200, g.sort1, g.sort4, g.wide, by show (s.stock.set _ _).length = _; rw [List.length_set]; exact g.stock, g.gone, g.strips8, g.strip5, g.six, g.ids, g.next, fun c hc => (g.lan c hc).of rfl rfl rfl⟩
theorem good_brass {s : State} (g : Good s) {n : Nat} (h : ¬ STRIPS < s.strips.length + n) : Good { s with strips := s.strips ++ List.replicate n s.new, bought := s.bought + n * s.new } := by
  have h' : ¬ 8 < s.strips.length + n := h
  refine ⟨g.new20, g.new200, g.sort1, g.sort4, g.wide, g.stock, g.gone, ?_, fun x hx => ?_, g.six, g.ids, g.next, fun c hc => (g.lan c hc).of rfl rfl rfl⟩
  · show (s.strips ++ List.replicate n s.new).length ≤ 8
    rw [List.length_append, List.length_replicate]
    omega
  · have hx' : x ∈ s.strips ++ List.replicate n s.new := hx
    rcases List.mem_append.mp hx' with z | z
    · exact g.strip5 x z
    · rw [(List.mem_replicate.mp z).2]
      have := g.new20
      omega
theorem good_made {s : State} (g : Good s) {gi : Nat} {r p : List Nat} (h1 : isGirth gi = true) (h2 : ¬ LANTERNS ≤ s.lanterns.length) (h3 : first s gi = some r) : Good (made s gi r p) := by
  obtain ⟨a1, a2, a3, _⟩ := first_mem h3
  unfold isGirth at h1
  simp only [Bool.and_eq_true, decide_eq_true_eq] at h1
  have h2' : ¬ 6 ≤ s.lanterns.length := h2
  refine ⟨g.new20, g.new200, g.sort1, g.sort4, g.wide, ?_, g.gone, ?_, ?_, ?_, ?_, fun c hc => ?_, fun c hc => ?_⟩
  · show ((List.range s.sorts.length).map _).length = s.sorts.length
    rw [List.length_map, List.length_range]
  · exact Nat.le_trans (kept_len _ _ _) g.strips8
  · exact kept_big g.strip5
  · show (s.lanterns ++ [_]).length ≤ 6
    rw [List.length_append, List.length_singleton]
    omega
  · show (s.lanterns ++ [_]).Pairwise _
    rw [List.pairwise_append]
    exact ⟨g.ids, List.pairwise_singleton _ _, fun a ha b hb => by rw [List.mem_singleton.mp hb]; exact g.next a ha⟩
  · have hc' : c ∈ s.lanterns ++ [⟨s.next, gi, r, 0⟩] := hc
    rcases List.mem_append.mp hc' with z | z
    · exact Nat.lt_succ_of_lt (g.next c z)
    · rw [List.mem_singleton.mp z]
      exact Nat.lt_succ_self _
  · have hc' : c ∈ s.lanterns ++ [⟨s.next, gi, r, 0⟩] := hc
    rcases List.mem_append.mp hc' with z | z
    · exact (g.lan c z).of rfl rfl rfl
    · rw [List.mem_singleton.mp z]
      exact ⟨h1.1, h1.2, a1, a2, a3⟩
theorem find_mem {s : State} {i : Nat} {c : Lantern} (h : find s i = some c) : c ∈ s.lanterns ∧ c.id = i := by
  unfold find at h
  exact ⟨List.mem_of_find?_eq_some h, by simpa using List.find?_some h⟩
theorem put_lanterns (s : State) (c : Lantern) : (put s c).lanterns = s.lanterns.map fun x => if x.id = c.id then c else x := rfl
/-- a lantern changed in its place -/
theorem good_put {s : State} (g : Good s) {c : Lantern} (hc : LanOk s c) (hn : c.id < s.next) : Good (put s c) := by
  refine ⟨g.new20, g.new200, g.sort1, g.sort4, g.wide, g.stock, g.gone, g.strips8, g.strip5, ?_, ?_, fun d hd => ?_, fun d hd => ?_⟩
  · rw [put_lanterns, List.length_map]
    exact g.six
  · rw [put_lanterns, List.pairwise_map]
    refine g.ids.imp fun {a b} h => ?_
    have e : ∀ x : Lantern, (if x.id = c.id then c else x).id = x.id := fun x => by
      split
      · rename_i z
        exact z.symm
      · rfl
    rw [e, e]
    exact h
  · rw [put_lanterns] at hd
    obtain ⟨x, hx, rfl⟩ := List.mem_map.mp hd
    split
    · exact hn
    · exact g.next x hx
  · rw [put_lanterns] at hd
    obtain ⟨x, hx, rfl⟩ := List.mem_map.mp hd
    split
    · exact hc.of rfl rfl rfl
    · exact (g.lan x hx).of rfl rfl rfl
theorem mender_lt {s : State} {c : Lantern} {j k : Nat} (h : mender s c j = some k) : k < s.sorts.length := by
  unfold mender at h
  exact List.mem_range.mp (List.mem_of_find?_eq_some h)
theorem good_mended {s : State} (g : Good s) {i j k : Nat} {c : Lantern} (hf : find s i = some c) (hk : mender s c j = some k) : Good (mended s c j k) := by
  obtain ⟨hc, _⟩ := find_mem hf
  have L := g.lan c hc
  have hkl := mender_lt hk
  unfold mended
  have g2 : Good { s with stock := s.stock.set k (s.stock.getD k 0 - 1), gone := s.gone.set (c.ring.getD j 0) (s.gone.getD (c.ring.getD j 0) 0 + 1) } :=
    ⟨g.new20, g.new200, g.sort1, g.sort4, g.wide, by show (s.stock.set _ _).length = _; rw [List.length_set]; exact g.stock, by show (s.gone.set _ _).length = _; rw [List.length_set]; exact g.gone, g.strips8, g.strip5, g.six, g.ids, g.next, fun c hc => (g.lan c hc).of rfl rfl rfl⟩
  refine good_put g2 ⟨L.girth3, L.girth60, ?_, ?_, fun m hm => ?_⟩ (g.next c hc)
  · show 3 ≤ (c.ring.set j k).length
    rw [List.length_set]
    exact L.ring3
  · show (c.ring.set j k).length ≤ 6
    rw [List.length_set]
    exact L.ring6
  · rcases List.mem_or_eq_of_mem_set hm with z | z
    · exact L.there m z
    · rw [z]
      exact hkl
theorem good_fill {s : State} (g : Good s) {i n : Nat} {c : Lantern} (hf : find s i = some c) : Good (put s { c with has := c.has + n }) := by
  obtain ⟨hc, _⟩ := find_mem hf
  exact good_put g ((g.lan c hc).of rfl rfl rfl) (g.next c hc)
theorem good_dry {s : State} (g : Good s) : Good (dry s) := by
  refine ⟨g.new20, g.new200, g.sort1, g.sort4, g.wide, g.stock, g.gone, g.strips8, g.strip5, ?_, ?_, fun d hd => ?_, fun d hd => ?_⟩
  · show (s.lanterns.map _).length ≤ 6
    rw [List.length_map]
    exact g.six
  · show (s.lanterns.map _).Pairwise _
    rw [List.pairwise_map]
    exact g.ids
  · obtain ⟨x, hx, rfl⟩ := List.mem_map.mp (show d ∈ s.lanterns.map _ from hd)
    exact g.next x hx
  · obtain ⟨x, hx, rfl⟩ := List.mem_map.mp (show d ∈ s.lanterns.map _ from hd)
    exact (g.lan x hx).of rfl rfl rfl
theorem good_sold {s : State} (g : Good s) (c : Lantern) : Good (sold s c) := by
  refine ⟨g.new20, g.new200, g.sort1, g.sort4, g.wide, g.stock, ?_, g.strips8, g.strip5, ?_, ?_, fun d hd => ?_, fun d hd => ?_⟩
  · show ((List.range s.sorts.length).map _).length = s.sorts.length
    rw [List.length_map, List.length_range]
  · exact Nat.le_trans (List.length_filter_le _ _) g.six
  · exact g.ids.filter _
  · exact g.next d (List.mem_filter.mp (show d ∈ s.lanterns.filter _ from hd)).1
  · exact (g.lan d (List.mem_filter.mp (show d ∈ s.lanterns.filter _ from hd)).1).of rfl rfl rfl
/-! ### top -/
theorem marks_len : ∀ {n : Nat} {m : List Bool}, m ∈ marks n → m.length = n
  | 0, m, h => by
    have : m = [] := by simpa [marks] using h
    rw [this]
    rfl
  | n + 1, m, h => by
    have h' : m ∈ (marks n).map (fun l => true :: l) ++ (marks n).map fun l => false :: l := h
    rcases List.mem_append.mp h' with z | z
    · obtain ⟨x, hx, rfl⟩ := List.mem_map.mp z
      rw [List.length_cons, marks_len hx]
    · obtain ⟨x, hx, rfl⟩ := List.mem_map.mp z
      rw [List.length_cons, marks_len hx]
theorem marks_mem : ∀ {n : Nat} {m : List Bool}, m.length = n → m ∈ marks n
  | 0, m, h => by
    have : m = [] := List.eq_nil_of_length_eq_zero h
    rw [this]
    simp [marks]
  | n + 1, [], h => by simp at h
  | n + 1, b :: m, h => by
    have ih := marks_mem (n := n) (m := m) (by simpa using h)
    show b :: m ∈ (marks n).map (fun l => true :: l) ++ (marks n).map fun l => false :: l
    cases b with
    | true => exact List.mem_append_left _ (List.mem_map.mpr ⟨m, ih, rfl⟩)
    | false => exact List.mem_append_right _ (List.mem_map.mpr ⟨m, ih, rfl⟩)
/-- of a strict order's fold none is better -/
theorem fold_best {α : Type} {R : α → α → Bool} (irr : ∀ a, R a a = false) (tr : ∀ {a b c}, R a b = true → R b c = true → R a c = true) : ∀ (xs : List α) (x : α),
    R x (xs.foldl (fun m y => if R y m = true then y else m) x) = false ∧ (∀ z, R z x = false → R z (xs.foldl (fun m y => if R y m = true then y else m) x) = false) ∧ ∀ y ∈ xs, R y (xs.foldl (fun m y => if R y m = true then y else m) x) = false
  | [], x => ⟨irr x, fun _ h => h, fun _ h => absurd h (by simp)⟩
  | y :: xs, x => by
    rw [List.foldl_cons]
    by_cases c : R y x = true
    · rw [if_pos c]
      obtain ⟨h1, h2, h3⟩ := fold_best irr tr xs y
      have k : ∀ z, R z x = false → R z y = false := fun z hz => by
        cases e : R z y with
        | false => rfl
        | true => rw [tr e c] at hz; cases hz
      have as : R x y = false := by
        cases e : R x y with
        | false => rfl
        | true =>
          have := tr c e
          rw [irr] at this
          cases this
      refine ⟨h2 x as, fun z hz => h2 z (k z hz), fun z hz => ?_⟩
      rcases List.mem_cons.mp hz with rfl | hz
      · exact h1
      · exact h3 z hz
    · rw [if_neg c]
      obtain ⟨h1, h2, h3⟩ := fold_best irr tr xs x
      refine ⟨h1, h2, fun z hz => ?_⟩
      rcases List.mem_cons.mp hz with rfl | hz
      · exact h2 z (by simpa using c)
      · exact h3 z hz
theorem fuller_irr (l : List Lantern) (a : List Bool) : fuller l a a = false := by
  unfold fuller
  simp
theorem fuller_tr (l : List Lantern) {a b c : List Bool} (h1 : fuller l a b = true) (h2 : fuller l b c = true) : fuller l a c = true := by
  unfold fuller at *
  simp only [Bool.or_eq_true, Bool.and_eq_true, decide_eq_true_eq, beq_iff_eq] at *
  omega
theorem holds_none : ∀ l : List Lantern, holds l (l.map fun _ => false) = 0
  | [] => rfl
  | c :: l => by
    have ih := holds_none l
    unfold holds at ih ⊢
    rw [total_sum] at ih ⊢
    simp only [List.map_cons, List.zipWith_cons_cons, List.sum_cons]
    rw [ih]
    rfl
theorem chosen_ok (l : List Lantern) (n : Nat) : (chosen l n).length = l.length ∧ holds l (chosen l n) ≤ n ∧ ∀ m : List Bool, m.length = l.length → holds l m ≤ n → fuller l m (chosen l n) = false := by
  unfold chosen
  have mem := fold_mem (fuller l) ((marks l.length).filter fun m => decide (holds l m ≤ n)) (l.map fun _ => false)
  obtain ⟨_, _, best⟩ := fold_best (fuller_irr l) (fuller_tr l) ((marks l.length).filter fun m => decide (holds l m ≤ n)) (l.map fun _ => false)
  refine ⟨?_, ?_, fun m hm hh => best m (List.mem_filter.mpr ⟨marks_mem hm, by simpa using hh⟩)⟩
  · rcases List.mem_cons.mp mem with z | z
    · rw [z, List.length_map]
    · exact marks_len (List.mem_filter.mp z).1
  · rcases List.mem_cons.mp mem with z | z
    · rw [z, holds_none]
      exact Nat.zero_le _
    · simpa using (List.mem_filter.mp z).2
theorem holds_set : ∀ {l : List Lantern} {m : List Bool} {i : Nat} {c : Lantern}, l[i]? = some c → m[i]? = some false → holds l (m.set i true) = holds l m + room c
  | [], _, _, _, h, _ => by simp at h
  | _ :: _, [], _, _, _, h => by simp at h
  | c :: l, b :: m, 0, d, h1, h2 => by
    simp at h1 h2
    subst h1 h2
    unfold holds
    rw [total_sum, total_sum]
    simp only [List.set_cons_zero, List.zipWith_cons_cons, List.sum_cons, if_true, Bool.false_eq_true, if_false]
    omega
  | c :: l, b :: m, i + 1, d, h1, h2 => by
    have ih := holds_set (l := l) (m := m) (i := i) (c := d) (by simpa using h1) (by simpa using h2)
    unfold holds at ih ⊢
    rw [total_sum, total_sum] at ih ⊢
    simp only [List.set_cons_succ, List.zipWith_cons_cons, List.sum_cons]
    omega
theorem yes_set : ∀ {m : List Bool} {i : Nat}, m[i]? = some false → yes (m.set i true) = yes m + 1
  | [], _, h => by simp at h
  | b :: m, 0, h => by
    simp at h
    subst h
    simp [yes]
  | b :: m, i + 1, h => by
    have ih := yes_set (m := m) (i := i) (by simpa using h)
    unfold yes at ih ⊢
    simp only [List.set_cons_succ, List.filter_cons]
    cases b with
    | true =>
      simp only [if_true, List.length_cons]
      omega
    | false =>
      simp only [Bool.false_eq_true, if_false]
      exact ih
/-- what is left would fill none of the others -/
theorem chosen_left {l : List Lantern} {n i : Nat} {c : Lantern} (h1 : l[i]? = some c) (h2 : (chosen l n)[i]? = some false) : n - holds l (chosen l n) < room c := by
  obtain ⟨a1, a2, a3⟩ := chosen_ok l n
  refine Nat.lt_of_not_le fun z => ?_
  have e1 := holds_set h1 h2
  have e2 := yes_set h2
  have e3 := a3 ((chosen l n).set i true) (by rw [List.length_set]; exact a1) (by omega)
  unfold fuller at e3
  simp only [Bool.or_eq_false_iff, decide_eq_false_iff_not] at e3
  omega
theorem poured_same : ∀ {l : List Lantern} {m : List Bool} {n : Nat}, m.length = l.length → (poured l m n).map (fun c => (c.id, c.girth, c.ring)) = l.map fun c => (c.id, c.girth, c.ring)
  | [], m, n, h => by
    have : m = [] := List.eq_nil_of_length_eq_zero h
    rw [this]
    rfl
  | c :: l, [], n, h => by simp at h
  | c :: l, true :: m, n, h => by
    show (c.id, c.girth, c.ring) :: (poured l m n).map _ = _
    rw [poured_same (by simpa using h)]
    rfl
  | c :: l, false :: m, n, h => by
    show (c.id, c.girth, c.ring) :: (poured l m 0).map _ = _
    rw [poured_same (by simpa using h)]
    rfl
theorem good_topped {s : State} (g : Good s) : Good (topped s) := by
  have e := poured_same (l := s.lanterns) (n := oil s - holds s.lanterns (chosen s.lanterns (oil s))) (chosen_ok s.lanterns (oil s)).1
  have back : ∀ d ∈ (topped s).lanterns, ∃ c ∈ s.lanterns, c.id = d.id ∧ c.girth = d.girth ∧ c.ring = d.ring := fun d hd => by
    have z : (d.id, d.girth, d.ring) ∈ (topped s).lanterns.map fun c => (c.id, c.girth, c.ring) := List.mem_map.mpr ⟨d, hd, rfl⟩
    rw [show (topped s).lanterns.map (fun c => (c.id, c.girth, c.ring)) = _ from e] at z
    obtain ⟨c, hc, ec⟩ := List.mem_map.mp z
    injection ec with e1 e2
    injection e2 with e2 e3
    exact ⟨c, hc, e1, e2, e3⟩
  refine ⟨g.new20, g.new200, g.sort1, g.sort4, g.wide, g.stock, g.gone, g.strips8, g.strip5, ?_, ?_, fun d hd => ?_, fun d hd => ?_⟩
  · have z := congrArg List.length (show (topped s).lanterns.map (fun c => (c.id, c.girth, c.ring)) = _ from e)
    rw [List.length_map, List.length_map] at z
    rw [z]
    exact g.six
  · have i1 : (s.lanterns.map fun c => (c.id, c.girth, c.ring)).Pairwise fun a b => a.1 < b.1 := by
      rw [List.pairwise_map]
      exact g.ids
    rw [← show (topped s).lanterns.map (fun c => (c.id, c.girth, c.ring)) = _ from e, List.pairwise_map] at i1
    exact i1
  · obtain ⟨c, hc, e1, _⟩ := back d hd
    rw [← e1]
    exact g.next c hc
  · obtain ⟨c, hc, _, e2, e3⟩ := back d hd
    exact (g.lan c hc).of rfl e2.symm e3.symm
/-- how many are full behind it: those that were chosen -/
theorem full_poured : ∀ {l : List Lantern} {m : List Bool} {n : Nat}, m.length = l.length → (∀ c ∈ l, 0 < room c) → (∀ (i : Nat) (c : Lantern), l[i]? = some c → m[i]? = some false → n < room c) →
    ((poured l m n).filter fun c => c.has == room c).length = yes m
  | [], m, n, h, _, _ => by
    have : m = [] := List.eq_nil_of_length_eq_zero h
    rw [this]
    rfl
  | c :: l, [], n, h, _, _ => by simp at h
  | c :: l, true :: m, n, h, hp, hn => by
    have ih := full_poured (l := l) (m := m) (n := n) (by simpa using h) (fun d hd => hp d (List.mem_cons_of_mem _ hd)) fun i d h1 h2 => hn (i + 1) d (by simpa using h1) (by simpa using h2)
    show (({ c with has := room c } :: poured l m n).filter fun c => c.has == room c).length = _
    rw [List.filter_cons]
    have e : ((({ c with has := room c } : Lantern).has) == room { c with has := room c }) = true := by
      show (room c == room c) = true
      exact beq_self_eq_true _
    rw [if_pos e, List.length_cons, ih]
    simp [yes]
  | c :: l, false :: m, n, h, hp, hn => by
    have h0 := hp c List.mem_cons_self
    have hc := hn 0 c rfl rfl
    have ih := full_poured (l := l) (m := m) (n := 0) (by simpa using h) (fun d hd => hp d (List.mem_cons_of_mem _ hd)) fun i d h1 h2 => hp d (List.mem_cons_of_mem _ (List.mem_of_getElem? h1))
    show (({ c with has := n } :: poured l m 0).filter fun c => c.has == room c).length = _
    rw [List.filter_cons]
    have e : ¬ ((({ c with has := n } : Lantern).has) == room { c with has := n }) = true := by
      show ¬ (n == room c) = true
      simp
      omega
    rw [if_neg e, ih]
    simp [yes]
theorem full_topped {s : State} (g : Good s) : full (topped s) = yes (chosen s.lanterns (oil s)) := by
  refine full_poured (chosen_ok s.lanterns (oil s)).1 (fun c hc => ?_) fun i c h1 h2 => chosen_left h1 h2
  have := (g.lan c hc).girth3
  unfold room
  exact Nat.mul_pos (by omega) (by omega)
/-- every call leaves a good shop good -/
theorem good_step {o : Abs} (g : ∀ s, o = some s → Good s) (c : Call) : ∀ s, (step o c).1 = some s → Good s := by
  intro s h
  cases c with
  | begin_ r l =>
    have h' : (if r < 20 ∨ (200 < r ∨ (l.isEmpty = true ∨ (4 < l.length ∨ l.any (fun x => (sortOf x).isNone) = true))) then (o, [-1]) else (some (⟨r, l.filterMap sortOf, List.replicate l.length 0, List.replicate l.length 0, List.replicate l.length 0, [], 0, 0, 0, [], 0⟩ : State), ([0] : Ans))).1 = some s := by
      cases o <;> exact h
    split at h'
    · exact g s h'
    · rename_i c
      cases h'
      exact (good_begin c).2
  | panes k n =>
    cases o with
    | none => exact absurd (show (none : Abs) = some s from h) (by simp)
    | some t =>
      have gt := g t rfl
      have h' : (if t.sorts.length ≤ k then (some t, [-2]) else if 99 < t.stock.getD k 0 + n then (some t, [-1]) else (some { t with stock := t.stock.set k (t.stock.getD k 0 + n), came := t.came.set k (t.came.getD k 0 + n) }, [((t.stock.getD k 0 + n : Nat) : Int)])  : Abs × Ans).1 = some s := h
      split at h'
      · cases h'
        exact gt
      · split at h'
        · cases h'
          exact gt
        · cases h'
          exact good_panes gt _ _
  | brass n =>
    cases o with
    | none => exact absurd (show (none : Abs) = some s from h) (by simp)
    | some t =>
      have gt := g t rfl
      have h' : (if STRIPS < t.strips.length + n then (some t, [-1]) else (some { t with strips := t.strips ++ List.replicate n t.new, bought := t.bought + n * t.new }, [((t.strips.length + n : Nat) : Int)]) : Abs × Ans).1 = some s := h
      split at h'
      · cases h'
        exact gt
      · rename_i c
        cases h'
        exact good_brass gt c
  | rings gi =>
    cases o with
    | none => exact absurd (show (none : Abs) = some s from h) (by simp)
    | some t =>
      have gt := g t rfl
      have h' : (some t : Abs) = some s := h
      cases h'
      exact gt
  | first gi =>
    cases o with
    | none => exact absurd (show (none : Abs) = some s from h) (by simp)
    | some t =>
      have gt := g t rfl
      have h' : (some t : Abs) = some s := h
      cases h'
      exact gt
  | may gi l =>
    cases o with
    | none => exact absurd (show (none : Abs) = some s from h) (by simp)
    | some t =>
      have gt := g t rfl
      have h' : (some t : Abs) = some s := h
      cases h'
      exact gt
  | same a b =>
    cases o with
    | none => exact absurd (show (none : Abs) = some s from h) (by simp)
    | some t =>
      have gt := g t rfl
      have h' : (some t : Abs) = some s := h
      cases h'
      exact gt
  | lantern i =>
    cases o with
    | none => exact absurd (show (none : Abs) = some s from h) (by simp)
    | some t =>
      have gt := g t rfl
      have h' : (some t : Abs) = some s := h
      cases h'
      exact gt
  | glass =>
    cases o with
    | none => exact absurd (show (none : Abs) = some s from h) (by simp)
    | some t =>
      have gt := g t rfl
      have h' : (some t : Abs) = some s := h
      cases h'
      exact gt
  | strips =>
    cases o with
    | none => exact absurd (show (none : Abs) = some s from h) (by simp)
    | some t =>
      have gt := g t rfl
      have h' : (some t : Abs) = some s := h
      cases h'
      exact gt
  | make gi =>
    cases o with
    | none => exact absurd (show (none : Abs) = some s from h) (by simp)
    | some t =>
      have gt := g t rfl
      have h' : (if isGirth gi = false then (some t, [-1]) else if LANTERNS ≤ t.lanterns.length then (some t, [-5]) else (match first t gi with
        | none => (some t, [-6])
        | some r => match cutting t.strips (bands gi) with
          | none => (some t, [-7])
          | some p => (some (made t gi r p), nums (t.next :: r.length :: r ++ p))) : Abs × Ans).1 = some s := h
      split at h'
      · cases h'
        exact gt
      · rename_i c1
        split at h'
        · cases h'
          exact gt
        · rename_i c2
          cases hf : first t gi with
          | none =>
            rw [hf] at h'
            cases h'
            exact gt
          | some r =>
            rw [hf] at h'
            simp only at h'
            cases hk : cutting t.strips (bands gi) with
            | none =>
              rw [hk] at h'
              cases h'
              exact gt
            | some p =>
              rw [hk] at h'
              cases h'
              exact good_made gt (by simpa using c1) c2 hf
  | mend i j =>
    cases o with
    | none => exact absurd (show (none : Abs) = some s from h) (by simp)
    | some t =>
      have gt := g t rfl
      have h' : (match find t i with
        | none => (some t, [-2])
        | some c => if c.ring.length ≤ j then (some t, [-1]) else match mender t c j with
          | none => (some t, [-6])
          | some k => (some (mended t c j k), [(k : Int)]) : Abs × Ans).1 = some s := h
      cases hf : find t i with
      | none =>
        rw [hf] at h'
        cases h'
        exact gt
      | some c =>
        rw [hf] at h'
        simp only at h'
        split at h'
        · cases h'
          exact gt
        · cases hk : mender t c j with
          | none =>
            rw [hk] at h'
            cases h'
            exact gt
          | some k =>
            rw [hk] at h'
            cases h'
            exact good_mended gt hf hk
  | fill i n =>
    cases o with
    | none => exact absurd (show (none : Abs) = some s from h) (by simp)
    | some t =>
      have gt := g t rfl
      have h' : (match find t i with
        | none => (some t, [-2])
        | some c => if room c < c.has + n then (some t, [-1]) else (some (put t { c with has := c.has + n }), [((c.has + n : Nat) : Int)]) : Abs × Ans).1 = some s := h
      cases hf : find t i with
      | none =>
        rw [hf] at h'
        cases h'
        exact gt
      | some c =>
        rw [hf] at h'
        simp only at h'
        split at h'
        · cases h'
          exact gt
        · cases h'
          exact good_fill gt hf
  | night =>
    cases o with
    | none => exact absurd (show (none : Abs) = some s from h) (by simp)
    | some t =>
      have gt := g t rfl
      have h' : (some (dry t) : Abs) = some s := h
      cases h'
      exact good_dry gt
  | top =>
    cases o with
    | none => exact absurd (show (none : Abs) = some s from h) (by simp)
    | some t =>
      have gt := g t rfl
      have h' : (some (topped t) : Abs) = some s := h
      cases h'
      exact good_topped gt
  | sell i =>
    cases o with
    | none => exact absurd (show (none : Abs) = some s from h) (by simp)
    | some t =>
      have gt := g t rfl
      have h' : (match find t i with
        | none => (some t, [-2])
        | some c => (some (sold t c), [(c.has : Int)]) : Abs × Ans).1 = some s := h
      cases hf : find t i with
      | none =>
        rw [hf] at h'
        cases h'
        exact gt
      | some c =>
        rw [hf] at h'
        cases h'
        exact good_sold gt c
end LR

namespace LR
open Mu33
abbrev zis (l : List Nat) : List Int := l.map fun (n : Nat) => (n : Int)
/-- a call that may be asked, and what it is -/
inductive Asked : List (List Int) → Call → Prop
  | begin_ (r : Nat) (l : List (List Nat)) : r ≤ 300 → l.length ≤ 6 → (∀ x ∈ l, x.length ≤ 4 ∧ ∀ z ∈ x, z ≤ 30) → Asked ([0, (r : Int)] :: l.map zis) (.begin_ r l)
  | panes (k n : Nat) : k ≤ 9 → n ≤ 200 → Asked [[1, (k : Int), (n : Int)]] (.panes k n)
  | brass (n : Nat) : n ≤ 20 → Asked [[2, (n : Int)]] (.brass n)
  | rings (g : Nat) : g ≤ 200 → Asked [[3, (g : Int)]] (.rings g)
  | first (g : Nat) : g ≤ 200 → Asked [[4, (g : Int)]] (.first g)
  | may (g : Nat) (l : List Nat) : g ≤ 200 → l.length ≤ 10 → Asked [[5, (g : Int)], zis l] (.may g l)
  | same (a b : List Nat) : a.length ≤ 10 → b.length ≤ 10 → Asked [[6], zis a, zis b] (.same a b)
  | make (g : Nat) : g ≤ 200 → Asked [[7, (g : Int)]] (.make g)
  | mend (i j : Nat) : i ≤ 100 → j ≤ 9 → Asked [[8, (i : Int), (j : Int)]] (.mend i j)
  | fill (i n : Nat) : i ≤ 100 → n ≤ 5000 → Asked [[9, (i : Int), (n : Int)]] (.fill i n)
  | night : Asked [[10]] .night
  | top : Asked [[11]] .top
  | sell (i : Nat) : i ≤ 100 → Asked [[12, (i : Int)]] (.sell i)
  | lantern (i : Nat) : i ≤ 100 → Asked [[13, (i : Int)]] (.lantern i)
  | glass : Asked [[14]] .glass
  | strips : Asked [[15]] .strips
theorem within_nat {z : Int} {hi : Int} (h : NeutralIO.within z 0 hi = true) : z = ((z.toNat : Nat) : Int) ∧ ((z.toNat : Nat) : Int) ≤ hi := by
  unfold NeutralIO.within at h
  simp only [Bool.and_eq_true, decide_eq_true_eq] at h
  omega
theorem zis_nats : ∀ {l : List Int} {hi : Int}, (l.all fun z => NeutralIO.within z 0 hi) = true → zis (Mu33Neutral.nats l) = l ∧ ∀ z ∈ Mu33Neutral.nats l, ((z : Nat) : Int) ≤ hi
  | [], _, _ => ⟨rfl, fun z h => absurd h (by simp [Mu33Neutral.nats])⟩
  | x :: l, hi, h => by
    rw [List.all_cons, Bool.and_eq_true] at h
    obtain ⟨e1, e2⟩ := within_nat h.1
    obtain ⟨e3, e4⟩ := zis_nats h.2
    refine ⟨?_, fun z hz => ?_⟩
    · show ((x.toNat : Nat) : Int) :: zis (Mu33Neutral.nats l) = x :: l
      rw [e3, ← e1]
    · have hz' : z ∈ x.toNat :: Mu33Neutral.nats l := hz
      rcases List.mem_cons.mp hz' with z2 | z2
      · rw [z2]
        exact e2
      · exact e4 z z2
theorem ring_nats {l : List Int} (h : Mu33Neutral.ring l = true) : zis (Mu33Neutral.nats l) = l ∧ (Mu33Neutral.nats l).length ≤ 10 := by
  unfold Mu33Neutral.ring at h
  rw [Bool.and_eq_true] at h
  refine ⟨(zis_nats (hi := 9) h.2).1, ?_⟩
  have z : l.length ≤ 10 := by simpa using h.1
  show (l.map Int.toNat).length ≤ 10
  rw [List.length_map]
  exact z
theorem asked_of {c : List (List Int)} (h : Mu33Neutral.asked1 c = true) : ∃ x, Asked c x ∧ Mu33Neutral.callOf c = some x := by
  unfold Mu33Neutral.asked1 at h
  split at h
  · rename_i r l
    simp only [Bool.and_eq_true, decide_eq_true_eq] at h
    obtain ⟨h1, h2, h3⟩ := h
    obtain ⟨e1, e2⟩ := within_nat h1
    refine ⟨_, ?_, rfl⟩
    have e3 : l = (l.map Mu33Neutral.nats).map zis := by
      clear h2
      induction l with
      | nil => rfl
      | cons x l ih =>
        rw [List.all_cons, Bool.and_eq_true] at h3
        have hx := h3.1
        unfold Mu33Neutral.sort_ at hx
        rw [Bool.and_eq_true] at hx
        show x :: l = zis (Mu33Neutral.nats x) :: (l.map Mu33Neutral.nats).map zis
        rw [(zis_nats hx.2).1, ← ih h3.2]
    have A := Asked.begin_ r.toNat (l.map Mu33Neutral.nats) (by omega) (by rw [List.length_map]; exact h2) (fun x hx => by
      obtain ⟨y, hy, rfl⟩ := List.mem_map.mp hx
      have hy2 := List.all_eq_true.mp h3 y hy
      unfold Mu33Neutral.sort_ at hy2
      rw [Bool.and_eq_true] at hy2
      refine ⟨?_, fun z hz => ?_⟩
      · have q : y.length ≤ 4 := by simpa using hy2.1
        show (y.map Int.toNat).length ≤ 4
        rw [List.length_map]
        exact q
      · have := (zis_nats hy2.2).2 z hz
        omega)
    rw [← e1, ← e3] at A
    exact A
  all_goals try simp only [Bool.and_eq_true, Mu33Neutral.nine, Mu33Neutral.girth, Mu33Neutral.hundred] at h
  · rename_i k n
    obtain ⟨e1, e2⟩ := within_nat h.1
    obtain ⟨e3, e4⟩ := within_nat h.2
    refine ⟨_, ?_, rfl⟩
    have A := Asked.panes k.toNat n.toNat (by omega) (by omega)
    rw [← e1, ← e3] at A
    exact A
  · rename_i n
    obtain ⟨e1, e2⟩ := within_nat h
    refine ⟨_, ?_, rfl⟩
    have A := Asked.brass n.toNat (by omega)
    rw [← e1] at A
    exact A
  · rename_i n
    obtain ⟨e1, e2⟩ := within_nat h
    refine ⟨_, ?_, rfl⟩
    have A := Asked.rings n.toNat (by omega)
    rw [← e1] at A
    exact A
  · rename_i n
    obtain ⟨e1, e2⟩ := within_nat h
    refine ⟨_, ?_, rfl⟩
    have A := Asked.first n.toNat (by omega)
    rw [← e1] at A
    exact A
  · rename_i g l
    obtain ⟨e1, e2⟩ := within_nat h.1
    obtain ⟨e3, e4⟩ := ring_nats h.2
    refine ⟨_, ?_, rfl⟩
    have A := Asked.may g.toNat (Mu33Neutral.nats l) (by omega) e4
    rw [← e1, e3] at A
    exact A
  · rename_i a b
    obtain ⟨e1, e2⟩ := ring_nats h.1
    obtain ⟨e3, e4⟩ := ring_nats h.2
    refine ⟨_, ?_, rfl⟩
    have A := Asked.same (Mu33Neutral.nats a) (Mu33Neutral.nats b) e2 e4
    rw [e1, e3] at A
    exact A
  · rename_i n
    obtain ⟨e1, e2⟩ := within_nat h
    refine ⟨_, ?_, rfl⟩
    have A := Asked.make n.toNat (by omega)
    rw [← e1] at A
    exact A
  · rename_i k n
    obtain ⟨e1, e2⟩ := within_nat h.1
    obtain ⟨e3, e4⟩ := within_nat h.2
    refine ⟨_, ?_, rfl⟩
    have A := Asked.mend k.toNat n.toNat (by omega) (by omega)
    rw [← e1, ← e3] at A
    exact A
  · rename_i k n
    obtain ⟨e1, e2⟩ := within_nat h.1
    obtain ⟨e3, e4⟩ := within_nat h.2
    refine ⟨_, ?_, rfl⟩
    have A := Asked.fill k.toNat n.toNat (by omega) (by omega)
    rw [← e1, ← e3] at A
    exact A
  · exact ⟨_, Asked.night, rfl⟩
  · exact ⟨_, Asked.top, rfl⟩
  · rename_i n
    obtain ⟨e1, e2⟩ := within_nat h
    refine ⟨_, ?_, rfl⟩
    have A := Asked.sell n.toNat (by omega)
    rw [← e1] at A
    exact A
  · rename_i n
    obtain ⟨e1, e2⟩ := within_nat h
    refine ⟨_, ?_, rfl⟩
    have A := Asked.lantern n.toNat (by omega)
    rw [← e1] at A
    exact A
  · exact ⟨_, Asked.glass, rfl⟩
  · exact ⟨_, Asked.strips, rfl⟩
  · cases h
/-! ### the line, played -/
def after (o : Abs) (cs : List (List (List Int))) : Abs := cs.foldl (fun s c => (Mu33Neutral.step s c).1) o
theorem played_snoc (c : List (List Int)) : ∀ (cs : List (List (List Int))) (o : Abs), PyFlat.played Mu33Neutral.step o (cs ++ [c]) = PyFlat.played Mu33Neutral.step o cs ++ [(Mu33Neutral.step (after o cs) c).2]
  | [], o => rfl
  | d :: cs, o => by
    show (Mu33Neutral.step o d).2 :: PyFlat.played Mu33Neutral.step (Mu33Neutral.step o d).1 (cs ++ [c]) = _
    rw [played_snoc c cs]
    rfl
theorem told_snoc (l : List (List Int)) (a : List Int) : PyFlat.told (l ++ [a]) = PyFlat.told l ++ ((a.length : Int) :: a) := by
  unfold PyFlat.told
  rw [List.flatMap_append]
  simp
/-- the answers to the first i calls -/
def toldTo (cs : List (List (List Int))) (i : Nat) : List Int := PyFlat.told (PyFlat.played Mu33Neutral.step Mu33Neutral.start (cs.take i))
theorem toldTo_more {cs : List (List (List Int))} {i : Nat} {c : List (List Int)} (h : cs[i]? = some c) : toldTo cs (i + 1) = toldTo cs i ++ (((Mu33Neutral.step (after none (cs.take i)) c).2.length : Int) :: (Mu33Neutral.step (after none (cs.take i)) c).2) := by
  unfold toldTo
  rw [List.take_add_one, h]
  show PyFlat.told (PyFlat.played Mu33Neutral.step Mu33Neutral.start (cs.take i ++ [c])) = _
  rw [played_snoc, told_snoc]
  rfl
theorem after_more {cs : List (List (List Int))} {i : Nat} {c : List (List Int)} (h : cs[i]? = some c) : after none (cs.take (i + 1)) = (Mu33Neutral.step (after none (cs.take i)) c).1 := by
  unfold after
  rw [List.take_add_one, h, List.foldl_append]
  rfl
theorem toldTo_len (cs : List (List (List Int))) : ∀ {i j : Nat}, i ≤ j → (toldTo cs i).length ≤ (toldTo cs j).length := by
  intro i j h
  induction h with
  | refl => exact Nat.le_refl _
  | @step m _ ih =>
    refine Nat.le_trans ih ?_
    by_cases hm : m < cs.length
    · rw [toldTo_more (List.getElem?_eq_getElem hm), List.length_append]
      omega
    · unfold toldTo
      rw [List.take_of_length_le (by omega), List.take_of_length_le (by omega)]
      exact Nat.le_refl _
theorem good_after {cs : List (List (List Int))} : ∀ (s : State), after none cs = some s → Good s := by
  have go : ∀ (ds : List (List (List Int))) (o : Abs), (∀ s, o = some s → Good s) → ∀ s, after o ds = some s → Good s := by
    intro ds
    induction ds with
    | nil => exact fun o g s h => g s h
    | cons d ds ih =>
      intro o g s h
      refine ih (Mu33Neutral.step o d).1 (fun t ht => ?_) s h
      unfold Mu33Neutral.step at ht
      split at ht
      · exact good_step g _ t ht
      · exact g t ht
  exact go cs none fun s h => by cases h
end LR

namespace LR
open Mu33
/-- what is in stock when the first i panes are taken -/
def stockTo (s : State) (l : List Nat) (i : Nat) : List Nat := (List.range s.sorts.length).map fun k => s.stock.getD k 0 - count k (l.take i)
theorem stockTo_len (s : State) (l : List Nat) (i : Nat) : (stockTo s l i).length = s.sorts.length := by
  unfold stockTo
  rw [List.length_map, List.length_range]
theorem stockTo_get {s : State} {l : List Nat} {i k : Nat} (h : k < s.sorts.length) : (stockTo s l i)[k]? = some (s.stock.getD k 0 - count k (l.take i)) := by
  unfold stockTo
  rw [List.getElem?_map, List.getElem?_range h]
  rfl
theorem stockTo_zero {s : State} {l : List Nat} (h : s.stock.length = s.sorts.length) : stockTo s l 0 = s.stock := by
  refine List.ext_getElem? fun k => ?_
  by_cases hk : k < s.sorts.length
  · rw [stockTo_get hk, List.take_zero, List.getElem?_eq_getElem (by omega), List.getD_eq_getElem?_getD, List.getElem?_eq_getElem (by omega)]
    rfl
  · rw [List.getElem?_eq_none (by rw [stockTo_len]; omega), List.getElem?_eq_none (by omega)]
theorem count_app (k : Nat) (a b : List Nat) : count k (a ++ b) = count k a + count k b := by
  unfold count
  rw [List.filter_append, List.length_append]
theorem count_more {l : List Nat} {i j : Nat} (h : l[i]? = some j) (k : Nat) : count k (l.take (i + 1)) = count k (l.take i) + if j = k then 1 else 0 := by
  rw [List.take_add_one, h, count_app]
  congr 1
  unfold count
  by_cases c : j = k
  · subst c
    simp
  · simp [c]
theorem count_take_le (k : Nat) (l : List Nat) (i : Nat) : count k (l.take i) ≤ count k l := by
  conv => rhs; rw [← List.take_append_drop i l]
  rw [count_app]
  omega
theorem stockTo_step {s : State} {l : List Nat} {i k : Nat} (h : l[i]? = some k) (hk : k < s.sorts.length) (hc : count k l ≤ s.stock.getD k 0) :
    1 ≤ s.stock.getD k 0 - count k (l.take i) ∧ (stockTo s l i).set k (s.stock.getD k 0 - count k (l.take i) - 1) = stockTo s l (i + 1) := by
  have e1 := count_more h k
  have e2 := count_take_le k l (i + 1)
  rw [if_pos rfl] at e1
  refine ⟨by omega, List.ext_getElem? fun j => ?_⟩
  by_cases hj : j < s.sorts.length
  · rw [stockTo_get hj, List.getElem?_set]
    by_cases c : k = j
    · subst c
      rw [if_pos rfl, if_pos (by rw [stockTo_len]; exact hk), e1]
      congr 1
    · rw [if_neg c, stockTo_get hj, count_more h j, if_neg c, Nat.add_zero]
  · rw [List.getElem?_eq_none (by rw [List.length_set, stockTo_len]; omega), List.getElem?_eq_none (by rw [stockTo_len]; omega)]
end LR

namespace LR
open Mu33
/-! ### brass: what is wasted -/
theorem sum_map_add (f g : Nat → Nat) : ∀ l : List Nat, (l.map fun i => f i + g i).sum = (l.map f).sum + (l.map g).sum
  | [] => rfl
  | x :: l => by
    have ih := sum_map_add f g l
    simp only [List.map_cons, List.sum_cons, ih]
    omega
theorem sum_one {x y : Nat} : ∀ {m : Nat}, x < m → ((List.range m).map fun i => if x = i then y else 0).sum = y
  | 0, h => absurd h (by omega)
  | m + 1, h => by
    rw [List.range_succ, List.map_append, List.sum_append]
    by_cases c : x = m
    · have z : ((List.range m).map fun i => if x = i then y else 0) = (List.range m).map fun _ => 0 := List.map_congr_left fun i hi => by
        have := List.mem_range.mp hi
        rw [if_neg (by omega)]
      rw [z]
      simp [c, List.map_const']
    · rw [sum_one (m := m) (by omega)]
      simp [c]
theorem took_sum {m : Nat} : ∀ (q : List (Nat × Nat)), (∀ x ∈ q, x.1 < m) → ((List.range m).map fun i => took i q).sum = (q.map fun x => x.2).sum
  | [], _ => by simp [took, List.map_const']
  | x :: q, h => by
    have ih := took_sum q fun y hy => h y (List.mem_cons_of_mem _ hy)
    have e : ∀ i, took i (x :: q) = (if x.1 = i then x.2 else 0) + took i q := fun i => by simp [took]
    simp only [e]
    rw [sum_map_add, ih, sum_one (h x List.mem_cons_self), List.map_cons, List.sum_cons]
theorem zip_snd : ∀ {p h : List Nat}, p.length = h.length → ((p.zip h).map fun x => x.2) = h
  | [], [], _ => rfl
  | [], _ :: _, e => by simp at e
  | _ :: _, [], e => by simp at e
  | j :: p, x :: h, e => by
    rw [List.zip_cons_cons, List.map_cons, zip_snd (by simpa using e)]
theorem uses_sum {m : Nat} {h p : List Nat} (e : p.length = h.length) (hp : ∀ j ∈ p, j < m) : (uses m h p).sum = h.sum := by
  have e1 : uses m h p = (List.range m).map fun i => took i (p.zip h) := by
    unfold uses
    exact List.map_congr_left fun i _ => (took_zipWith i p h).symm
  rw [e1, took_sum _ (fun x hx => hp x.1 (List.of_mem_zip hx).1), zip_snd e]
theorem waste_aux : ∀ (u l : List Nat), u.length = l.length → ((List.zipWith (fun (u x : Nat) => decide (u ≤ x)) u l).all fun b => b) = true →
    l.sum = u.sum + ((List.zip u l).filterMap fun (x : Nat × Nat) => if x.1 = 0 then some x.2 else if SHORT ≤ x.2 - x.1 then some (x.2 - x.1) else none).sum + ((List.zip u l).map fun (x : Nat × Nat) => if x.1 = 0 then 0 else if SHORT ≤ x.2 - x.1 then 0 else x.2 - x.1).sum
  | [], [], _, _ => rfl
  | [], _ :: _, e, _ => by simp at e
  | _ :: _, [], e, _ => by simp at e
  | a :: u, x :: l, e, h => by
    rw [List.zipWith_cons_cons, List.all_cons, Bool.and_eq_true, decide_eq_true_eq] at h
    have ih := waste_aux u l (by simpa using e) h.2
    rw [List.zip_cons_cons, List.filterMap_cons, List.map_cons, List.sum_cons, List.sum_cons, List.sum_cons]
    have h1 := h.1
    by_cases c1 : a = 0
    · simp only [if_pos c1, List.sum_cons]
      omega
    · by_cases c2 : SHORT ≤ x - a
      · simp only [if_neg c1, if_pos c2, List.sum_cons]
        omega
      · simp only [if_neg c1, if_neg c2]
        omega
theorem waste_eq {l h p : List Nat} (e : p.length = h.length) (hp : ∀ j ∈ p, j < l.length) (ha : able l h p = true) : l.sum = h.sum + (kept l h p).sum + wasted l h p := by
  have z := waste_aux (uses l.length h p) l (uses_len _ _ _) ha
  rw [uses_sum e hp] at z
  unfold kept wasted
  rw [total_sum]
  exact z
/-! ### panes that are gone -/
/-- what is gone when the first i panes of a lantern are -/
def goneTo (s : State) (l : List Nat) (i : Nat) : List Nat := (List.range s.sorts.length).map fun k => s.gone.getD k 0 + count k (l.take i)
theorem goneTo_len (s : State) (l : List Nat) (i : Nat) : (goneTo s l i).length = s.sorts.length := by
  unfold goneTo
  rw [List.length_map, List.length_range]
theorem goneTo_get {s : State} {l : List Nat} {i k : Nat} (h : k < s.sorts.length) : (goneTo s l i)[k]? = some (s.gone.getD k 0 + count k (l.take i)) := by
  unfold goneTo
  rw [List.getElem?_map, List.getElem?_range h]
  rfl
theorem goneTo_zero {s : State} {l : List Nat} (h : s.gone.length = s.sorts.length) : goneTo s l 0 = s.gone := by
  refine List.ext_getElem? fun k => ?_
  by_cases hk : k < s.sorts.length
  · rw [goneTo_get hk, List.take_zero, List.getElem?_eq_getElem (by omega), List.getD_eq_getElem?_getD, List.getElem?_eq_getElem (by omega)]
    rfl
  · rw [List.getElem?_eq_none (by rw [goneTo_len]; omega), List.getElem?_eq_none (by omega)]
theorem goneTo_step {s : State} {l : List Nat} {i k : Nat} (h : l[i]? = some k) (hk : k < s.sorts.length) : (goneTo s l i).set k (s.gone.getD k 0 + count k (l.take i) + 1) = goneTo s l (i + 1) := by
  have e1 := count_more h k
  rw [if_pos rfl] at e1
  refine List.ext_getElem? fun j => ?_
  by_cases hj : j < s.sorts.length
  · rw [goneTo_get hj, List.getElem?_set]
    by_cases c : k = j
    · subst c
      rw [if_pos rfl, if_pos (by rw [goneTo_len]; exact hk), e1]
      congr 1
    · rw [if_neg c, goneTo_get hj, count_more h j, if_neg c, Nat.add_zero]
  · rw [List.getElem?_eq_none (by rw [List.length_set, goneTo_len]; omega), List.getElem?_eq_none (by rw [goneTo_len]; omega)]
/-! ### night -/
theorem thirst_le (s : State) (c : Lantern) : thirst s c ≤ c.has := Nat.min_le_left _ _
theorem dry_sum (s : State) : ∀ ls : List Lantern, (ls.map fun c => c.has).sum = (ls.map fun c => c.has - thirst s c).sum + (ls.map fun c => thirst s c).sum
  | [] => rfl
  | c :: ls => by
    have ih := dry_sum s ls
    have := thirst_le s c
    simp only [List.map_cons, List.sum_cons]
    omega
theorem burnt_eq (s : State) : oil s - oil (dry s) = (s.lanterns.map fun c => thirst s c).sum := by
  unfold oil
  rw [total_sum, total_sum]
  have e : (dry s).lanterns.map (fun c => c.has) = s.lanterns.map fun c => c.has - thirst s c := by
    unfold dry
    rw [List.map_map]
    rfl
  rw [e, dry_sum s s.lanterns]
  omega
/-! ### top -/
def bit (b : Bool) : Nat := if b = true then 1 else 0
def bits (m : List Bool) : List Nat := m.map bit
theorem bits_len (m : List Bool) : (bits m).length = m.length := List.length_map ..
theorem bits_inj : ∀ {a b : List Bool}, bits a = bits b → a = b
  | [], [], _ => rfl
  | [], _ :: _, h => by simp [bits] at h
  | _ :: _, [], h => by simp [bits] at h
  | x :: a, y :: b, h => by
    have h' : bit x :: bits a = bit y :: bits b := h
    injection h' with h1 h2
    rw [bits_inj h2]
    congr 1
    cases x <;> cases y <;> first | rfl | (simp [bit] at h1)
/-- of two ways the one with the lower numbers comes first -/
def dn (a b : List Bool) : Prop := before (bits b) (bits a) = true
theorem marks_pairwise : ∀ n, (marks n).Pairwise dn
  | 0 => by simp [marks]
  | n + 1 => by
    show ((marks n).map (fun l => true :: l) ++ (marks n).map fun l => false :: l).Pairwise dn
    rw [List.pairwise_append, List.pairwise_map, List.pairwise_map]
    refine ⟨(marks_pairwise n).imp fun {a b} h => ?_, (marks_pairwise n).imp fun {a b} h => ?_, fun a ha b hb => ?_⟩
    · show before (bit true :: bits b) (bit true :: bits a) = true
      simp [before, show before (bits b) (bits a) = true from h]
    · show before (bit false :: bits b) (bit false :: bits a) = true
      simp [before, show before (bits b) (bits a) = true from h]
    · obtain ⟨x, _, rfl⟩ := List.mem_map.mp ha
      obtain ⟨y, _, rfl⟩ := List.mem_map.mp hb
      show before (bit false :: bits y) (bit true :: bits x) = true
      simp [before, bit]
theorem dn_trans {a b c : List Bool} (h : dn a b) (k : dn b c) : dn a c := before_trans k h
theorem fold_first {α : Type} {R : α → α → Bool} {D : α → α → Prop} (irr : ∀ a, R a a = false) (tr : ∀ {a b c}, R a b = true → R b c = true → R a c = true) (nt : ∀ {a b c}, R a c = true → R a b = true ∨ R b c = true) (dt : ∀ {a b c}, D a b → D b c → D a c) : ∀ (xs : List α) (x : α), xs.Pairwise D → (∀ y ∈ xs, y = x ∨ R y x = true ∨ D x y) →
    ∀ y ∈ x :: xs, y = xs.foldl (fun m y => if R y m = true then y else m) x ∨ R (xs.foldl (fun m y => if R y m = true then y else m) x) y = true ∨ D (xs.foldl (fun m y => if R y m = true then y else m) x) y
  | [], x, _, _, y, hy => .inl (by simpa using hy)
  | z :: xs, x, hp, hx, y, hy => by
    rw [List.pairwise_cons] at hp
    rw [List.foldl_cons]
    by_cases c : R z x = true
    · rw [if_pos c]
      have ih := fold_first (R := R) (D := D) irr tr nt dt xs z hp.2 (fun y hy => .inr (.inr (hp.1 y hy)))
      have bz := (fold_best irr tr xs z).1
      rcases List.mem_cons.mp hy with e | hy
      · subst e
        generalize xs.foldl (fun m y => if R y m = true then y else m) z = m at ih bz ⊢
        rcases nt (b := m) c with k | k
        · rw [k] at bz
          cases bz
        · exact .inr (.inl k)
      · exact ih y hy
    · rw [if_neg c]
      have ih := fold_first (R := R) (D := D) irr tr nt dt xs x hp.2 (fun y hy => hx y (List.mem_cons_of_mem _ hy))
      generalize xs.foldl (fun m y => if R y m = true then y else m) x = m at ih ⊢
      rcases List.mem_cons.mp hy with e | hy
      · rw [e]
        exact ih x List.mem_cons_self
      · rcases List.mem_cons.mp hy with e | hy
        · subst e
          rcases hx y List.mem_cons_self with e | e | e
          · rw [e]
            exact ih x List.mem_cons_self
          · exact absurd e c
          · rcases ih x List.mem_cons_self with k | k | k
            · exact .inr (.inr (k ▸ e))
            · rcases nt (b := y) k with u | u
              · exact .inr (.inl u)
              · exact absurd u c
            · exact .inr (.inr (dt k e))
        · exact ih y (List.mem_cons_of_mem _ hy)
theorem fuller_nt (l : List Lantern) {a b c : List Bool} (h : fuller l a c = true) : fuller l a b = true ∨ fuller l b c = true := by
  unfold fuller at *
  simp only [Bool.or_eq_true, Bool.and_eq_true, decide_eq_true_eq, beq_iff_eq] at *
  omega
theorem yes_pos : ∀ {l : List Lantern} {m : List Bool}, m.length = l.length → m = (l.map fun _ => false) ∨ 0 < yes m
  | [], m, h => .inl (List.eq_nil_of_length_eq_zero h)
  | c :: l, [], h => by simp at h
  | c :: l, true :: m, h => .inr (by simp [yes])
  | c :: l, false :: m, h => by
    rcases yes_pos (l := l) (m := m) (by simpa using h) with e | e
    · left
      rw [e]
      rfl
    · right
      simpa [yes] using e
theorem yes_none : ∀ l : List Lantern, yes (l.map fun _ => false) = 0
  | [] => rfl
  | c :: l => by simpa [yes] using yes_none l
/-- the way that is chosen comes first of as good ones -/
theorem chosen_first (l : List Lantern) (n : Nat) {m : List Bool} (hm : m.length = l.length) (hh : holds l m ≤ n) : m = chosen l n ∨ fuller l (chosen l n) m = true ∨ dn (chosen l n) m := by
  unfold chosen
  refine fold_first (R := fuller l) (D := dn) (fuller_irr l) (fuller_tr l) (fuller_nt l) dn_trans ((marks l.length).filter fun m => decide (holds l m ≤ n)) (l.map fun _ => false) ((marks_pairwise _).filter _) (fun y hy => ?_) m (List.mem_cons_of_mem _ (List.mem_filter.mpr ⟨marks_mem hm, by simpa using hh⟩))
  have hy' := marks_len (List.mem_filter.mp hy).1
  rcases yes_pos hy' with e | e
  · exact .inl e
  · right
    left
    unfold fuller
    rw [yes_none]
    simp [e]
/-! the program's own: rows of 0 and 1 -/
/-- how much those hold that a row has full -/
def heldIn (ho r : List Nat) : Nat := (List.zipWith (fun h b => if b = 1 then h else 0) ho r).sum
def roomsOf (l : List Lantern) : List Nat := l.map room
theorem held_bits : ∀ (l : List Lantern) (m : List Bool), heldIn (roomsOf l) (bits m) = holds l m
  | [], m => by simp [heldIn, holds, roomsOf, total]
  | _ :: _, [] => by simp [heldIn, holds, bits, total]
  | c :: l, b :: m => by
    have ih := held_bits l m
    unfold heldIn holds roomsOf bits at *
    rw [total_sum] at *
    simp only [List.map_cons, List.zipWith_cons_cons, List.sum_cons]
    rw [ih]
    cases b <;> simp [bit]
theorem sum_bits : ∀ m : List Bool, (bits m).sum = yes m
  | [] => rfl
  | b :: m => by
    have ih := sum_bits m
    unfold bits yes at *
    rw [List.map_cons, List.sum_cons, ih]
    cases b <;> simp [bit]
    omega
theorem bits_of : ∀ {r : List Nat}, (∀ k ∈ r, k < 2) → ∃ m, r = bits m
  | [], _ => ⟨[], rfl⟩
  | x :: r, h => by
    obtain ⟨m, e⟩ := bits_of fun k hk => h k (List.mem_cons_of_mem _ hk)
    have hx := h x List.mem_cons_self
    refine ⟨decide (x = 1) :: m, ?_⟩
    show x :: r = bit (decide (x = 1)) :: bits m
    rw [← e]
    congr 1
    rcases (show x = 0 ∨ x = 1 by omega) with rfl | rfl <;> rfl
theorem rows_all {m : Nat} : ∀ {n : Nat} {r : List Nat}, r.length = n → (∀ k ∈ r, k < m) → r ∈ rows m n
  | 0, r, h, _ => by
    rw [List.eq_nil_of_length_eq_zero h]
    simp [rows]
  | n + 1, [], h, _ => by simp at h
  | n + 1, x :: r, h, hk => by
    show x :: r ∈ (List.range m).flatMap fun k => (rows m n).map fun l => k :: l
    exact List.mem_flatMap.mpr ⟨x, List.mem_range.mpr (hk x List.mem_cons_self), List.mem_map.mpr ⟨r, rows_all (by simpa using h) (fun k h2 => hk k (List.mem_cons_of_mem _ h2)), rfl⟩⟩
/-- the order of the keys: how many are full, how much they hold, the row itself -/
def tlt (ho a b : List Nat) : Bool := decide (a.sum < b.sum) || (a.sum == b.sum && (decide (heldIn ho a < heldIn ho b) || (heldIn ho a == heldIn ho b && before a b)))
theorem tlt_irr (ho a : List Nat) : tlt ho a a = false := by
  unfold tlt
  simp [before_irrefl]
theorem tlt_tr (ho : List Nat) {a b c : List Nat} (h1 : tlt ho a b = true) (h2 : tlt ho b c = true) : tlt ho a c = true := by
  unfold tlt at *
  simp only [Bool.or_eq_true, Bool.and_eq_true, decide_eq_true_eq, beq_iff_eq] at *
  rcases h1 with h1 | ⟨h1, h1' | ⟨h1', h1''⟩⟩ <;> rcases h2 with h2 | ⟨h2, h2' | ⟨h2', h2''⟩⟩
  · left; omega
  · left; omega
  · left; omega
  · left; omega
  · right; exact ⟨by omega, .inl (by omega)⟩
  · right; exact ⟨by omega, .inl (by omega)⟩
  · left; omega
  · right; exact ⟨by omega, .inl (by omega)⟩
  · right; exact ⟨by omega, .inr ⟨by omega, before_trans h1'' h2''⟩⟩
/-- the greatest of the rows that can be filled is the way that is chosen -/
theorem top_row {l : List Lantern} {n : Nat} {r0 : List Nat} {rr : List (List Nat)} (e : (rows 2 l.length).filter (fun r => decide (heldIn (roomsOf l) r ≤ n)) = r0 :: rr) :
    rr.foldl (fun m y => if tlt (roomsOf l) m y = true then y else m) r0 = bits (chosen l n) := by
  obtain ⟨c1, c2, c3⟩ := chosen_ok l n
  have mem := fold_mem (fun y m => tlt (roomsOf l) m y) rr r0
  obtain ⟨b1, _, b3⟩ := fold_best (R := fun y m => tlt (roomsOf l) m y) (fun a => tlt_irr _ a) (fun {a b c} h1 h2 => tlt_tr _ h2 h1) rr r0
  have mx : ∀ y ∈ r0 :: rr, tlt (roomsOf l) (rr.foldl (fun m y => if tlt (roomsOf l) m y = true then y else m) r0) y = false := fun y hy => by
    rcases List.mem_cons.mp hy with z | z
    · rw [z]
      exact b1
    · exact b3 y z
  generalize rr.foldl (fun m y => if tlt (roomsOf l) m y = true then y else m) r0 = w at mem mx ⊢
  have mem' : w ∈ r0 :: rr := mem
  rw [← e] at mem' mx
  obtain ⟨h1, h2⟩ := List.mem_filter.mp mem'
  obtain ⟨h3, h4⟩ := rows_mem h1
  obtain ⟨m, rfl⟩ := bits_of h4
  rw [bits_len] at h3
  have h5 : holds l m ≤ n := by
    rw [held_bits] at h2
    simpa using h2
  have inC : bits (chosen l n) ∈ (rows 2 l.length).filter fun r => decide (heldIn (roomsOf l) r ≤ n) := by
    refine List.mem_filter.mpr ⟨rows_all (by rw [bits_len]; exact c1) fun k hk => ?_, ?_⟩
    · obtain ⟨b, _, rfl⟩ := List.mem_map.mp hk
      cases b <;> decide
    · rw [held_bits]
      simpa using c2
  have z := mx _ inC
  rcases chosen_first l n h3 h5 with q | q | q
  · rw [q]
  · exfalso
    have c4 := c3 m h3 h5
    unfold tlt at z
    unfold fuller at q c4
    rw [sum_bits, sum_bits, held_bits, held_bits] at z
    simp only [Bool.or_eq_false_iff, Bool.and_eq_false_iff, Bool.or_eq_true, Bool.and_eq_true, decide_eq_true_eq, decide_eq_false_iff_not, beq_iff_eq, beq_eq_false_iff_ne] at z q c4
    obtain ⟨z1, z2⟩ := z
    rcases q with q | ⟨q1, q2⟩
    · omega
    · rcases z2 with z2 | ⟨z2, z3⟩
      · omega
      · omega
  · exfalso
    have c4 := c3 m h3 h5
    unfold tlt at z
    unfold fuller at c4
    rw [sum_bits, sum_bits, held_bits, held_bits] at z
    have q' : before (bits m) (bits (chosen l n)) = true := q
    rw [q'] at z
    simp only [Bool.or_eq_false_iff, Bool.and_eq_false_iff, Bool.or_eq_true, Bool.and_eq_true, decide_eq_true_eq, decide_eq_false_iff_not, beq_iff_eq, beq_eq_false_iff_ne] at z c4
    obtain ⟨z1, z2⟩ := z
    obtain ⟨c5, c6⟩ := c4
    rcases z2 with z2 | ⟨z2, z3⟩
    · omega
    · rcases z3 with z3 | z3
      · omega
      · cases z3
theorem top_some (l : List Lantern) (n : Nat) : (rows 2 l.length).filter (fun r => decide (heldIn (roomsOf l) r ≤ n)) ≠ [] := fun h => by
  have e : (l.map fun _ => (0 : Nat)) ∈ (rows 2 l.length).filter (fun r => decide (heldIn (roomsOf l) r ≤ n)) := by
    refine List.mem_filter.mpr ⟨rows_all (by rw [List.length_map]) fun k hk => ?_, ?_⟩
    · obtain ⟨_, _, rfl⟩ := List.mem_map.mp hk
      decide
    · have e1 : (l.map fun _ => (0 : Nat)) = bits (l.map fun _ => false) := by
        unfold bits
        rw [List.map_map]
        rfl
      rw [e1, held_bits, holds_none]
      simp
  rw [h] at e
  simp at e
/-- what each one has then -/
def shares : List Nat → List Nat → Nat → List Nat
  | h :: ho, b :: r, n => if b = 1 then h :: shares ho r n else n :: shares ho r 0
  | _, _, _ => []
theorem shares_poured : ∀ (l : List Lantern) (m : List Bool) (n : Nat), shares (roomsOf l) (bits m) n = (poured l m n).map fun c => c.has
  | [], m, n => by
    cases m <;> rfl
  | c :: l, [], n => rfl
  | c :: l, true :: m, n => by
    show (if bit true = 1 then room c :: shares (roomsOf l) (bits m) n else _) = room c :: (poured l m n).map fun c => c.has
    rw [if_pos (show bit true = 1 from rfl), shares_poured]
  | c :: l, false :: m, n => by
    show (if bit false = 1 then _ else n :: shares (roomsOf l) (bits m) 0) = n :: (poured l m 0).map fun c => c.has
    rw [if_neg (by decide), shares_poured]
/-! ### panes that are painted -/
theorem painted_sum (s : State) : ∀ l : List Nat, (l.map fun k => bit (painted s k)).sum = (l.filter fun k => painted s k).length
  | [] => rfl
  | k :: l => by
    have ih := painted_sum s l
    rw [List.map_cons, List.sum_cons, ih, List.filter_cons]
    cases painted s k
    · simp [bit]
    · simp [bit]
      omega
theorem set_slices {l : List Nat} {j k : Nat} (h : j < l.length) : l.take j ++ [k] ++ l.drop (j + 1) = l.set j k := by
  rw [List.set_eq_take_append_cons_drop, if_pos h]
  simp
end LR

namespace LR
open PySem PySem.Spec PyProof.Rows L2
/-! ### the text -/
def top (i : Nat) : Stmt := PySem.Challenge.pw_lampring_s01_answers.main.body.getD i (.Pass ⟨0, 0, 0, 0⟩)

/-! ### whole numbers in lists -/
abbrev Z (l : List Nat) : List V := l.map fun (n : Nat) => V.int n
abbrev ZI (l : List Nat) : List Int := l.map fun (n : Nat) => (n : Int)
theorem Z_ZI (l : List Nat) : Z l = (ZI l).map V.int := by
  unfold Z ZI
  rw [List.map_map]
  rfl
theorem Z_get {l : List Nat} {i : Nat} {v : V} (h : (Z l)[i]? = some v) : ∃ n, l[i]? = some n ∧ v = .int n := by
  rw [List.getElem?_map] at h
  cases e : l[i]? with
  | none =>
    rw [e] at h
    cases h
  | some n =>
    rw [e] at h
    exact ⟨n, rfl, (Option.some.inj h).symm⟩
theorem Z_at {l : List Nat} {i n : Nat} (h : l[i]? = some n) : (Z l)[i]? = some (.int n) := by
  rw [List.getElem?_map, h]
  rfl
abbrev RF (as : List Addr) : List V := as.map V.ref
theorem RF_get {as : List Addr} {i : Nat} {v : V} (h : (RF as)[i]? = some v) : ∃ a, as[i]? = some a ∧ v = .ref a := by
  rw [List.getElem?_map] at h
  cases e : as[i]? with
  | none =>
    rw [e] at h
    cases h
  | some n =>
    rw [e] at h
    exact ⟨n, rfl, (Option.some.inj h).symm⟩
theorem take_more {α : Type} {l : List α} {i : Nat} {x : α} (h : l[i]? = some x) : l.take (i + 1) = l.take i ++ [x] := by
  rw [List.take_add_one, h]
  rfl

/-! ### rows of numbers in the heap -/
/-- the lists rs stand at as; H0: the heap in which none of them stood -/
structure RowsAt (H0 H : Hp) (as : List Addr) (rs : List (List Nat)) : Prop where
  len : as.length = rs.length
  at_ : ∀ (i : Nat) (a : Addr) (r : List Nat), as[i]? = some a → rs[i]? = some r → H a = some (.lst (Z r)) ∧ H0 a = none
theorem RowsAt.nil {H0 H : Hp} : RowsAt H0 H [] [] := ⟨rfl, fun i a r h => by simp at h⟩
theorem RowsAt.mono {H0 H H' : Hp} {as : List Addr} {rs : List (List Nat)} (x : RowsAt H0 H as rs) (k : ∀ a ∈ as, ∀ o, H a = some o → H' a = some o) : RowsAt H0 H' as rs :=
  ⟨x.len, fun i a r h1 h2 => ⟨k a (List.mem_of_getElem? h1) _ (x.at_ i a r h1 h2).1, (x.at_ i a r h1 h2).2⟩⟩
theorem RowsAt.snoc {H0 H : Hp} {as : List Addr} {rs : List (List Nat)} {a : Addr} {r : List Nat} (x : RowsAt H0 H as rs) (h : H a = some (.lst (Z r))) (n : H0 a = none) : RowsAt H0 H (as ++ [a]) (rs ++ [r]) := by
  refine ⟨by simp [x.len], fun i b q h1 h2 => ?_⟩
  by_cases hi : i < as.length
  · rw [List.getElem?_append_left hi] at h1
    rw [List.getElem?_append_left (by rw [← x.len]; exact hi)] at h2
    exact x.at_ i b q h1 h2
  · have hl : i < (as ++ [a]).length := (List.getElem?_eq_some_iff.mp h1).1
    have e : i = as.length := by simp at hl; omega
    subst e
    rw [List.getElem?_append_right (Nat.le_refl _)] at h1
    rw [x.len, List.getElem?_append_right (Nat.le_refl _)] at h2
    simp at h1 h2
    subst h1 h2
    exact ⟨h, n⟩
theorem RowsAt.get {H0 H : Hp} {as : List Addr} {rs : List (List Nat)} {i : Nat} {a : Addr} (x : RowsAt H0 H as rs) (h : as[i]? = some a) : ∃ r, rs[i]? = some r ∧ H a = some (.lst (Z r)) ∧ H0 a = none := by
  have hi : i < as.length := (List.getElem?_eq_some_iff.mp h).1
  have hi2 : i < rs.length := by rw [← x.len]; exact hi
  exact ⟨rs[i], List.getElem?_eq_getElem hi2, x.at_ i a _ h (List.getElem?_eq_getElem hi2)⟩
theorem RowsAt.some_at {H0 H : Hp} {as : List Addr} {rs : List (List Nat)} {a : Addr} (x : RowsAt H0 H as rs) (h : a ∈ as) : ∃ r, r ∈ rs ∧ H a = some (.lst (Z r)) ∧ H0 a = none := by
  obtain ⟨i, hi⟩ := List.getElem?_of_mem h
  obtain ⟨r, h1, h2⟩ := x.get hi
  exact ⟨r, List.mem_of_getElem? h1, h2⟩
theorem same_upd {H : Hp} {p : Addr} {o : HO} (h : H p = none) : Same H (upd H p o) := fun b u e => by
  rw [upd_ne (ne_of_none e h)]
  exact e
/-- the built-ins' names that the program leaves as they are -/
structure Bl (mg : Str → Option Value) : Prop where
  len : mg "len" = none
  range : mg "range" = none
  min : mg "min" = none
  sum : mg "sum" = none
  all : mg "all" = none
  sorted : mg "sorted" = none
  set : mg "set" = none
  list : mg "list" = none
  reversed : mg "reversed" = none
  zip : mg "zip" = none
  enumerate : mg "enumerate" = none
theorem sl {n : Nat} (h : n ≤ 300000) : n < sizeLine := by rw [sizeLine_eq]; omega
end LR

namespace LR
open PySem PySem.Spec PyProof.Rows L2
section
variable {P : Program} {w : World} {K : PySem.W.Frag} {mg : Str → Option Value} {base : Heap}
/-! ### all_rows -/
abbrev sRows : Stmt := top 1
abbrev NRows : List Str := ["below", "length", "rows", "place", "longer", "row", "number"]
theorem scRows : FnScope NRows ["below", "length"] (defScope sRows) := ⟨rfl, rfl, rfl, by decide +kernel, rfl, by decide +kernel, by decide +kernel⟩
def spRows : Sp := fun vs H Q _ => ∃ (m n : Nat), vs = [.int m, .int n] ∧ m ≤ 8 ∧ n ≤ 6 ∧
  ∀ (H' : Hp) (p : Addr) (as : List Addr), Same H H' → H p = none → H' p = some (.lst (RF as)) → RowsAt H H' as (Mu33.rows m n) → Q (.ref p) H'
theorem rows_small {m n : Nat} (hm : m ≤ 8) (hn : n ≤ 6) : (Mu33.rows m n).length ≤ 262144 := by
  rw [rows_length]
  exact Nat.le_trans (Nat.pow_le_pow_left hm n) (Nat.pow_le_pow_right (by decide) hn)
theorem flatMap_take_more {α β : Type} {l : List α} {i : Nat} {x : α} (f : α → List β) (h : l[i]? = some x) : (l.take (i + 1)).flatMap f = (l.take i).flatMap f ++ f x := by
  rw [take_more h, List.flatMap_append]
  simp
theorem ok_rows {f : Addr} {fd : FuncData} (F : Fun K "all_rows" "all_rows" sRows f fd) (B : Bl mg) : FnOk P w K mg base CX0 1 f fd ["below", "length"] spRows := by
  refine F.ok scRows (fun vs H Q E h => by obtain ⟨m, n, rfl, _⟩ := h; rfl) (fun cdv A outer s H vs Q E hr h => ?_)
  refine ⟨_, pss_cons (ps_set (i := 2) scRows.nd rfl (Or.inl rfl) (pe_lst (pa_cons (pe_lst pa_nil) pa_nil)))
    (pss_cons (ps_for PassesOwn.never rfl (pi_range1 rfl B.range (pa_cons (pv 1) pa_nil)) (pg_name (i := 3) scRows.nd rfl (Or.inl rfl))
      (pss_cons (ps_set (i := 4) scRows.nd rfl (Or.inl rfl) (pe_lst pa_nil))
      (pss_cons (ps_for PassesOwn.never rfl (pi_list (pv 2)) (pg_name (i := 5) scRows.nd rfl (Or.inl rfl))
        (pss_one (ps_for PassesOwn.never rfl (pi_range1 rfl B.range (pa_cons (pv 0) pa_nil)) (pg_name (i := 6) scRows.nd rfl (Or.inl rfl))
          (pss_one (ps_expr (pe_bm PySem.F.plainAttrs_list PySem.F.slot_list_append PySem.F.type_list_append mt_append (pv 4) (pa_cons (pe_op op_cat (pv 5) (pe_lst (pa_cons (pv 6) pa_nil))) pa_nil)))))))
      (pss_one (ps_set (i := 2) scRows.nd rfl (Or.inl rfl) (pv 4))))))
    (pss_one (ps_ret (pv 2)))), ?_⟩
  obtain ⟨m, n, rfl, hm, hn, k⟩ := h
  refine ⟨(by decide), fun e he => ⟨(by show 1 ≤ sizeLine; decide), fun p hp => ?_⟩⟩
  have hep : e ≠ p := ne_of_none (upd_same (H := H) (a := e) (o := .lst [])) hp
  have hH0p : H p = none := (same_upd he).free hp
  refine ⟨_, rfl, n, rfl, by omega, by omega, for_range (lo := 0) (n := n) (fun i σ H' => ∃ (p : Addr) (as : List Addr) (v3 v4 v5 v6 : Option V), σ = [some (.int m), some (.int n), some (.ref p), v3, v4, v5, v6] ∧
      Same H H' ∧ H p = none ∧ H' p = some (.lst (RF as)) ∧ RowsAt H H' as (Mu33.rows m i)) ?_ ?_ ?_⟩
  · refine ⟨p, [e], none, none, none, none, rfl, (same_upd he).trans (same_upd hp), hH0p, upd_same, ⟨rfl, fun i a r h1 h2 => ?_⟩⟩
    have e0 : i = 0 := by
      have := (List.getElem?_eq_some_iff.mp h1).1
      simp at this
      exact this
    subst e0
    simp [Mu33.rows] at h1 h2
    subst h1 h2
    exact ⟨by rw [upd_ne hep]; exact upd_same, he⟩
  · rintro i σ H' hi ⟨p, as, v3, v4, v5, v6, rfl, s1, n1, hp1, R1⟩
    refine ⟨by decide, fun l hl => ?_⟩
    have npl : p ≠ l := ne_of_none hp1 hl
    have nal : ∀ a ∈ as, a ≠ l := fun a ha => by
      obtain ⟨r, _, e, _⟩ := R1.some_at ha
      exact ne_of_none e hl
    have hHl : H l = none := s1.free hl
    have small : ∀ j, ((Mu33.rows m i).take j).length ≤ 262144 := fun j => by
      have := rows_small hm (show i ≤ 6 by omega)
      rw [List.length_take]
      omega
    -- for row in rows
    have hpl : SqL K (upd H' l (.lst [])) p (RF as) := SqL.of (by rw [upd_ne npl]; exact hp1)
    refine ⟨_, rfl, p, rfl, ⟨_, hpl⟩, for_list (K := K) (a := p) (xs := RF as) (fun j σ H2 => ∃ (bs : List Addr) (v5 v6 : Option V), σ = [some (.int m), some (.int n), some (.ref p), some (.int (0 + (i : Int))), some (.ref l), v5, v6] ∧
        Same H H2 ∧ H2 p = some (.lst (RF as)) ∧ RowsAt H H2 as (Mu33.rows m i) ∧ H2 l = some (.lst (RF bs)) ∧ (∀ b ∈ bs, b ≠ l) ∧
        RowsAt H H2 bs (((Mu33.rows m i).take j).flatMap fun r => (List.range m).map fun k => r ++ [k])) ?_ ?_ ?_ ?_⟩
    · refine ⟨[], v5, v6, rfl, s1.trans (same_upd hl), by rw [upd_ne npl]; exact hp1, R1.mono fun a ha o e => by rw [upd_ne (nal a ha)]; exact e, upd_same, fun b hb => absurd hb (by simp), ?_⟩
      simpa using RowsAt.nil
    · rintro j σ H2 hj ⟨bs, v5, v6, rfl, s2, hp2, _⟩
      exact SqL.of hp2
    · rintro j x σ H2 hx ⟨bs, v5, v6, rfl, s2, hp2, R2, hl2, nb, RB⟩
      obtain ⟨a, ha, rfl⟩ := RF_get hx
      obtain ⟨r, hr1, hr2, hr3⟩ := R2.get ha
      have rmem := rows_mem (List.mem_of_getElem? hr1)
      -- for number in range(below)
      refine ⟨_, rfl, m, rfl, by omega, by omega, for_range (lo := 0) (n := m) (fun q σ H3 => ∃ (cs : List Addr) (v6 : Option V), σ = [some (.int m), some (.int n), some (.ref p), some (.int (0 + (i : Int))), some (.ref l), some (.ref a), v6] ∧
          Same H H3 ∧ H3 p = some (.lst (RF as)) ∧ RowsAt H H3 as (Mu33.rows m i) ∧ H3 l = some (.lst (RF cs)) ∧ (∀ b ∈ cs, b ≠ l) ∧
          RowsAt H H3 cs ((((Mu33.rows m i).take j).flatMap fun r => (List.range m).map fun k => r ++ [k]) ++ (List.range q).map fun k => r ++ [k])) ?_ ?_ ?_⟩
      · refine ⟨bs, v6, rfl, s2, hp2, R2, hl2, nb, ?_⟩
        simpa using RB
      · rintro q σ H3 hq ⟨cs, v6, rfl, s3, hp3, R3, hl3, nc, RC⟩
        obtain ⟨r', e1, e2, _⟩ := R3.get ha
        rw [hr1] at e1
        cases e1
        have hla : a ≠ l := by
          intro z
          subst z
          have := nal a (List.mem_of_getElem? ha)
          exact this rfl
        have clen : cs.length ≤ 2500000 := by
          have e3 := RC.len
          rw [e3, List.length_append, List.length_flatMap, List.length_map, List.length_range]
          have e4 : ((Mu33.rows m i).take j).map (fun a => ((List.range m).map fun k => a ++ [k]).length) = ((Mu33.rows m i).take j).map fun _ => m := by
            apply List.map_congr_left
            intro x _
            simp
          rw [e4, List.map_const', List.sum_replicate_nat]
          have e5 := small j
          have e6 : ((Mu33.rows m i).take j).length * m ≤ 262144 * 8 := Nat.mul_le_mul e5 hm
          omega
        refine ⟨_, rfl, .inl ⟨rfl, _, SqL.of hl3⟩, _, rfl, _, rfl, (by show 1 ≤ sizeLine; decide), fun t ht => ?_⟩
        have nat' : a ≠ t := ne_of_none e2 ht
        refine ⟨a, t, _, _, rfl, rfl, (by rw [upd_ne nat']; exact e2), upd_same, ?_, fun u hu => ?_⟩
        · rw [List.length_map, rmem.1]
          show i + 1 ≤ sizeLine
          rw [sizeLine_eq]
          omega
        have hut : t ≠ u := ne_of_none (upd_same (H := H3) (a := t)) hu
        have hu3 : H3 u = none := (same_upd ht).free hu
        have nlt : l ≠ t := ne_of_none hl3 ht
        have nlu : l ≠ u := ne_of_none hl3 hu3
        have s4 : Same H3 (upd (upd H3 t (.lst [V.int (0 + (q : Int))])) u (.lst (Z r ++ [V.int (0 + (q : Int))]))) := (same_upd ht).trans (same_upd hu)
        refine ⟨l, _, _, rfl, rfl, (by rw [upd_ne nlu, upd_ne nlt]; exact hl3), ?_, ?_⟩
        · rw [List.length_map, sizeLine_eq]
          omega
        have kp : ∀ (b : Addr) (o : HO), b ≠ l → H3 b = some o → upd (upd (upd H3 t (.lst [V.int (0 + (q : Int))])) u (.lst (Z r ++ [V.int (0 + (q : Int))]))) l (.lst (RF cs ++ [.ref u])) b = some o := fun b o hb e => by
          rw [upd_ne hb]
          exact s4 b o e
        refine ⟨cs ++ [u], some (.int (0 + (q : Int))), rfl, ?_, kp _ _ npl hp3, R3.mono fun b hb o e => kp b o (nal b hb) e, ?_, ?_, ?_⟩
        · intro b o e
          exact kp b o (fun z => by subst z; rw [hHl] at e; cases e) (s3 b o e)
        · rw [upd_same]
          simp
        · intro b hb
          rcases List.mem_append.mp hb with hb | hb
          · exact nc b hb
          · rw [List.mem_singleton.mp hb]
            exact Ne.symm nlu
        · have RC2 := RC.mono (H' := upd (upd (upd H3 t (.lst [V.int (0 + (q : Int))])) u (.lst (Z r ++ [V.int (0 + (q : Int))]))) l (.lst (RF cs ++ [.ref u]))) fun b hb o e => kp b o (nc b hb) e
          have e9 : (((Mu33.rows m i).take j).flatMap fun r => (List.range m).map fun k => r ++ [k]) ++ (List.range (q + 1)).map (fun k => r ++ [k]) = ((((Mu33.rows m i).take j).flatMap fun r => (List.range m).map fun k => r ++ [k]) ++ (List.range q).map fun k => r ++ [k]) ++ [r ++ [q]] := by
            rw [List.range_succ, List.map_append, List.append_assoc]
            rfl
          rw [e9]
          refine RC2.snoc ?_ (s3.free hu3)
          rw [upd_ne (Ne.symm nlu), upd_same]
          simp
      · rintro σ H3 ⟨cs, v6, rfl, s3, hp3, R3, hl3, nc, RC⟩
        refine ⟨cs, some (.ref a), v6, rfl, s3, hp3, R3, hl3, nc, ?_⟩
        rw [flatMap_take_more _ hr1]
        exact RC
    · rintro σ H2 ⟨bs, v5, v6, rfl, s2, hp2, R2, hl2, nb, RB⟩
      refine ⟨_, rfl, l, bs, some (.int (0 + (i : Int))), some (.ref l), v5, v6, rfl, s2, hHl, hl2, ?_⟩
      rw [List.length_map, R1.len, List.take_length, ← rows_snoc] at RB
      exact RB
  · rintro σ H' ⟨p, as, v3, v4, v5, v6, rfl, s1, n1, hp1, R1⟩
    exact ⟨_, rfl, k H' p as s1 n1 hp1 R1⟩
end
end LR

namespace LR
open PySem PySem.Spec PyProof.Rows L2
/-! ### defs as they are called -/
/-- the def st stands behind the name x -/
def Df (K : PySem.W.Frag) (mg : Str → Option Value) (x : Str) (st : Stmt) : Prop := ∃ (f : Addr) (fd : FuncData), Fun K x x st f fd ∧ mg x = some (.ref f)
/-- what stands behind the name x keeps the promise sp -/
def Cal (P : Program) (w : World) (K : PySem.W.Frag) (mg : Str → Option Value) (base : Heap) (k : Nat) (x : Str) (ps : List Str) (sp : Sp) : Prop :=
  ∃ (f : Addr) (fd : FuncData), FnOk P w K mg base CX0 k f fd ps sp ∧ mg x = some (.ref f) ∧ PySem.W.keepIn K (.ref f) = true ∧ Binds K fd ps []
def Gn (mg : Str → Option Value) (x : Str) (n : Int) : Prop := ∃ t, mg x = some (.int n t)
section
variable {X : Cx} {x : Str} {n : Int} {pos : Pos}
theorem pe_gn (g : Gn X.mg x n) (hg : Gl X x) (hd : (x == ("__debug__" : Str)) = false := by decide) : PE X (.Name x pos) (tC (.int n)) := by
  obtain ⟨t, e⟩ := g
  exact pe_glob hg e ⟨t, rfl⟩ hd
theorem pe_cal {k : Nat} {ps : List Str} {sp : Sp} {p : Pos} {e : Expr} {es : List Expr} {t : TA} (c : Cal X.prog X.w X.K X.mg X.base k x ps sp) (hr : Room k X.A) (hg : Gl X x) (ha : PA X (e :: es) t)
    (hdb : (x == ("__debug__" : Str)) = false := by decide) (he : starEach (e :: es) X.env = (false, eval e X.env) :: starEach es X.env := by rfl) (hpl : (backTo pos (starEach es X.env)).any (·.1) = false := by rfl) :
    PE X (.Call (.Name x p) (e :: es) [] pos) (tCall sp [] E0 t) := by
  obtain ⟨f, fd, G, m, kp, b⟩ := c
  exact pe_call G hr hg m kp b .nil pass0 ha hdb he hpl
end
theorem Cal.mono {P : Program} {w : World} {K : PySem.W.Frag} {mg : Str → Option Value} {base : Heap} {j k : Nat} {x : Str} {ps : List Str} {sp : Sp} (c : Cal P w K mg base j x ps sp) (h : j ≤ k) : Cal P w K mg base k x ps sp := by
  obtain ⟨f, fd, G, m, kp, b⟩ := c
  exact ⟨f, fd, G.mono h, m, kp, b⟩
/-! ### comprehensions that leave what was tracked as it was -/
section
variable {K : PySem.W.Frag} {a : Addr} {xs : List V} {slot : Nat} {tt : TT} {te : TE} {σ : L2.St} {H1 : Hp} {D : Addr} {Qd : Hp → Prop}
theorem lc_acc (acc : Nat → List V) (b : Nat → Bool) (y : Nat → V) (hD : H1 D = none) (hq : SqL K H1 a xs) (h0 : acc 0 = []) (hsz : ∀ i, i < xs.length → (acc i).length ≤ 300000)
    (hs : ∀ i, i < xs.length → acc (i + 1) = if b i = true then acc i ++ [y i] else acc i) (hw : ∀ x, wipe ((wipe σ [slot]).set slot (some x)) [slot] = wipe σ [slot])
    (test : ∀ (i : Nat) (x : V) (H' : Hp) (Q : Bool → Hp → Prop), xs[i]? = some x → Same H1 H' → (∀ H'', Same H' H'' → Q (b i) H'') → tt ((wipe σ [slot]).set slot (some x)) H' Q)
    (elem : ∀ (i : Nat) (x : V) (H' : Hp) (Q : VK), xs[i]? = some x → b i = true → Same H1 H' → (∀ H'', Same H' H'' → Q (y i) H'') → te ((wipe σ [slot]).set slot (some x)) H' Q)
    (hd : ∀ H, Same H1 H → H D = some (.lst (acc xs.length)) → Qd H) :
    ∃ W : Nat → Nat → Hp → Prop, (∃ m, W 0 m (upd H1 D (.lst []))) ∧ ∀ i m H, W i m H →
      ((Itl K a).stop i H ∧ Qd H) ∨ ((Itl K a).go i H ∧ ∃ Nx : Hp → Prop, (∀ H', Nx H' → ∃ m', m' < m ∧ W (i + 1) m' H') ∧ ∀ x H', (Itl K a).yld i H x H' → gName slot x (wipe σ [slot]) H' fun σ2 H2 => wipe σ2 [slot] = wipe σ [slot] ∧ tt σ2 H2 fun b H3 =>
        if b = true then te σ2 H3 fun y H4 => ∃ acc, H4 D = some (.lst acc) ∧ acc.length < sizeLine ∧ Nx (upd H4 D (.lst (acc ++ [y]))) else Nx H3) := by
  refine lc_list (K := K) (a := a) (xs := xs) (g := gName slot) (fun i H => Same H1 H ∧ H D = some (.lst (acc i))) ⟨same_upd hD, by rw [upd_same, h0]⟩ (fun i H _ p => p.1.seq hq) ?_ (fun H p => hd H p.1 p.2)
  rintro i x H hx ⟨s1, hD1⟩
  have hi : i < xs.length := (List.getElem?_eq_some_iff.mp hx).1
  refine ⟨hw x, test i x H _ hx s1 fun H2 s2 => ?_⟩
  have e := hs i hi
  cases hb : b i with
  | true =>
    rw [hb, if_pos rfl] at e
    refine iteT (elem i x H2 _ hx hb (s1.trans s2) fun H3 s3 => ?_)
    have z := hsz i hi
    refine ⟨acc i, s3 _ _ (s2 _ _ hD1), sl z, fun c o q => ?_, by rw [upd_same, e]⟩
    have nc : c ≠ D := ne_of_none q hD
    rw [upd_ne nc]
    exact s3 _ _ (s2 _ _ (s1 _ _ q))
  | false =>
    rw [hb, if_neg (by decide)] at e
    exact iteF ⟨s1.trans s2, by rw [e]; exact s2 _ _ hD1⟩
/-- [e for x in xs] -/
theorem lc_map (ys : List V) (hD : H1 D = none) (hq : SqL K H1 a xs) (hl : ys.length = xs.length) (hsz : xs.length ≤ 300000) (hw : ∀ x, wipe ((wipe σ [slot]).set slot (some x)) [slot] = wipe σ [slot])
    (elem : ∀ (i : Nat) (x y : V) (H' : Hp) (Q : VK), xs[i]? = some x → ys[i]? = some y → Same H1 H' → (∀ H'', Same H' H'' → Q y H'') → te ((wipe σ [slot]).set slot (some x)) H' Q)
    (hd : ∀ H, Same H1 H → H D = some (.lst ys) → Qd H) :
    ∃ W : Nat → Nat → Hp → Prop, (∃ m, W 0 m (upd H1 D (.lst []))) ∧ ∀ i m H, W i m H →
      ((Itl K a).stop i H ∧ Qd H) ∨ ((Itl K a).go i H ∧ ∃ Nx : Hp → Prop, (∀ H', Nx H' → ∃ m', m' < m ∧ W (i + 1) m' H') ∧ ∀ x H', (Itl K a).yld i H x H' → gName slot x (wipe σ [slot]) H' fun σ2 H2 => wipe σ2 [slot] = wipe σ [slot] ∧ tYes σ2 H2 fun b H3 =>
        if b = true then te σ2 H3 fun y H4 => ∃ acc, H4 D = some (.lst acc) ∧ acc.length < sizeLine ∧ Nx (upd H4 D (.lst (acc ++ [y]))) else Nx H3) := by
  refine lc_acc (K := K) (xs := xs) (slot := slot) (fun i => ys.take i) (fun _ => true) (fun i => ys.getD i .non) hD hq rfl (fun i _ => ?_) (fun i hi => ?_) hw (fun i x H' Q _ s1 k => k H' (Same.refl _)) (fun i x H' Q hx _ s1 k => ?_) (fun H s1 e => ?_)
  · rw [List.length_take]
    omega
  · have h2 : i < ys.length := by omega
    rw [if_pos rfl, take_more (List.getElem?_eq_getElem h2)]
    simp [List.getD_eq_getElem?_getD, List.getElem?_eq_getElem h2]
  · have hi : i < ys.length := by
      have := (List.getElem?_eq_some_iff.mp hx).1
      omega
    refine elem i x ys[i] H' Q hx (List.getElem?_eq_getElem hi) s1 fun H'' s2 => ?_
    have e := k H'' s2
    simpa [List.getD_eq_getElem?_getD, List.getElem?_eq_getElem hi] using e
  · rw [← hl, List.take_length] at e
    exact hd H s1 e
end
end LR

namespace LR
open PySem PySem.Spec PyProof.Rows L2
theorem qeq {Q : VK} {v v' : V} {H : Hp} (e : v = v') (h : Q v' H) : Q v H := by
  rw [e]
  exact h
def rLen (K : PySem.W.Frag) : List V → Hp → VK → Prop := fun xs H Q => ∃ p ys, xs = [.ref p] ∧ (SqL K H p ys ∨ SqT K H p ys) ∧ Q (.int (ys.length : Nat)) H
/-! ### a shop as it is read -/
def b01 (b : Bool) : Nat := if b = true then 1 else 0
def Wl (s : Mu33.State) : List Nat := s.sorts.map fun x => x.width
def Pl (s : Mu33.State) : List Nat := s.sorts.map fun x => b01 x.painted
/-- widths, painted, stock of the shop at a -/
structure ShopR (C : Addr) (H : Hp) (a : Addr) (s : Mu33.State) : Prop where
  ex : ∃ (dx : Addr) (fs : List (Str × V)) (aw ap ak : Addr), H a = some (.ins C dx fs) ∧ fs.lookup ("widths" : Str) = some (.ref aw) ∧ fs.lookup ("painted" : Str) = some (.ref ap) ∧ fs.lookup ("stock" : Str) = some (.ref ak) ∧
    H aw = some (.lst (Z (Wl s))) ∧ H ap = some (.lst (Z (Pl s))) ∧ H ak = some (.lst (Z s.stock))
  stock : s.stock.length = s.sorts.length
  few : s.sorts.length ≤ 4
  wide : ∀ x ∈ s.sorts, x.width ≤ 20
theorem ShopR.same {C : Addr} {H H' : Hp} {a : Addr} {s : Mu33.State} (x : ShopR C H a s) (k : Same H H') : ShopR C H' a s := by
  obtain ⟨⟨dx, fs, aw, ap, ak, h1, h2, h3, h4, h5, h6, h7⟩, r1, r2, r3⟩ := x
  exact ⟨⟨dx, fs, aw, ap, ak, k _ _ h1, h2, h3, h4, k _ _ h5, k _ _ h6, k _ _ h7⟩, r1, r2, r3⟩
structure Txs (K : PySem.W.Frag) (C : Addr) : Prop where
  cl : Cls K C
  widths : NoAttr K C "widths"
  painted : NoAttr K C "painted"
  stock : NoAttr K C "stock"
section
variable {P : Program} {w : World} {K : PySem.W.Frag} {mg : Str → Option Value} {base : Heap} {C : Addr}
/-! ### is_girth -/
abbrev sGirth : Stmt := top 24
theorem scGirth : FnScope ["girth"] ["girth"] (defScope sGirth) := ⟨rfl, rfl, rfl, by decide +kernel, rfl, by decide +kernel, by decide +kernel⟩
def spGirth : Sp := fun vs H Q _ => ∃ g : Nat, vs = [.int g] ∧ Q (.bl (Mu33.isGirth g)) H
theorem cal_girth (D : Df K mg "is_girth" sGirth) (c1 : Gn mg "LEAST_GIRTH" 3) (c2 : Gn mg "GREATEST_GIRTH" 60) : Cal P w K mg base 1 "is_girth" ["girth"] spGirth := by
  obtain ⟨f, fd, F, m⟩ := D
  refine ⟨f, fd, ?_, m, F.kp, F.binds fun _ _ _ _ _ _ us hl => match us, hl with | [_], _ => rfl⟩
  refine F.ok scGirth (fun vs H Q E h => by obtain ⟨g, rfl, _⟩ := h; rfl) (fun cdv A outer s H vs Q E hr h => ?_)
  refine ⟨_, pss_one (ps_ret (pe_chain op_le op_le (pe_gn c1 rfl) (pv 0) (pe_gn c2 rfl))), ?_⟩
  obtain ⟨g, rfl, k⟩ := h
  refine ⟨_, rfl, _, _, rfl, rfl, _, rfl, ite2 (fun c => ⟨_, _, rfl, rfl, ?_⟩) fun c => ?_⟩
  · have c' : (3 : Int) ≤ g := by simpa using c
    have e : Mu33.isGirth g = decide ((g : Int) ≤ 60) := by
      unfold Mu33.isGirth
      rw [decide_eq_true (show 3 ≤ g by omega), Bool.true_and]
      exact decide_eq_decide.mpr (by omega)
    rw [e] at k
    exact k
  · have c' : ¬ (3 : Int) ≤ g := by simpa using c
    have e : Mu33.isGirth g = false := by
      unfold Mu33.isGirth
      rw [decide_eq_false (show ¬ 3 ≤ g by omega), Bool.false_and]
    rw [e] at k
    exact k
/-! ### is_ring -/
abbrev sIsRing : Stmt := top 25
theorem scIsRing : FnScope ["shop", "ring", "sort"] ["shop", "ring"] (defScope sIsRing) := ⟨rfl, rfl, rfl, by decide +kernel, rfl, by decide +kernel, by decide +kernel⟩
def spIsRing (K : PySem.W.Frag) (C : Addr) : Sp := fun vs H Q _ => ∃ (a r : Addr) (s : Mu33.State) (l : List Nat), vs = [.ref a, .ref r] ∧ ShopR C H a s ∧ SqL K H r (Z l) ∧ l.length ≤ 10 ∧
  ∀ H', Same H H' → Q (.bl (Mu33.isRing s l)) H'
theorem cal_isRing (B : Bl mg) (T : Txs K C) (D : Df K mg "is_ring" sIsRing) (c1 : Gn mg "FEWEST_PANES" 3) (c2 : Gn mg "MOST_PANES" 6) : Cal P w K mg base 1 "is_ring" ["shop", "ring"] (spIsRing K C) := by
  obtain ⟨f, fd, F, m⟩ := D
  refine ⟨f, fd, ?_, m, F.kp, F.binds fun _ _ _ _ _ _ us hl => match us, hl with | [_, _], _ => rfl⟩
  refine F.ok scIsRing (fun vs H Q E h => by obtain ⟨a, r, s, l, rfl, _⟩ := h; rfl) (fun cdv A outer s H vs Q E hr h => ?_)
  refine ⟨_, pss_cons (ps_if (pt_not (pt_chain op_le op_le (pe_gn c1 rfl) (pe_callB call_len_seq (by rfl) B.len PySem.boot_len (pa_cons (pv 1) pa_nil)) (pe_gn c2 rfl))) (pss_one (ps_ret pe_bl)) pss_nil)
    (pss_one (ps_ret (pe_callB (cr_all rfl) (by rfl) B.all (by decide +kernel) (pa_cons (pe_lc (own := [("sort", 2)]) (g := gName 2) (tt := tYes) (te := tOp (rI0 fun i j => .bl (decide (i < j))) (tVar 2) (tCB (rLen K) (tCons (tFld K (tVar 0) "widths") tNil))) rfl scIsRing.nd (pi_list (pv 1)) (blkOk_by (own := [("sort", 2)]) (N := ["shop", "ring", "sort"]) (sc := defScope sIsRing) (by decide +kernel))
      (fun _ _ _ _ _ => pg_name (i := 2) scIsRing.nd rfl (Or.inl rfl)) (fun _ _ _ _ _ => pts_nil)
      (fun _ _ _ _ _ => pe_cmpR op_lt (pv 2) (pe_callB call_len_seq (by rfl) B.len PySem.boot_len (pa_cons (pe_fld (pv 0) rfl) pa_nil)) (nomark _))) pa_nil)))), ?_⟩
  obtain ⟨a, r, s, l, rfl, SR, hl, h10, k⟩ := h
  have hlen : (Z l).length = l.length := List.length_map ..
  have last : ∀ b : Bool, Mu33.isRing s l = b → Q (.bl b) H := fun b e => by
    rw [← e]
    exact k H (Same.refl _)
  refine ⟨_, rfl, r, _, rfl, .inl hl, _, _, rfl, rfl, _, rfl, ?_⟩
  rw [hlen]
  refine ite2 (fun c => ⟨_, _, rfl, rfl, _, rfl, ?_⟩) fun c => ⟨_, rfl, iteT (last false ?_)⟩
  · have c' : (3 : Int) ≤ (l.length : Nat) := by simpa using c
    by_cases c6 : ((l.length : Nat) : Int) ≤ 6
    · rw [decide_eq_true c6]
      refine iteF ?_
      -- all([..])
      obtain ⟨⟨dx, fs, aw, ap, ak, h1, h2, h3, h4, h5, h6, h7⟩, r1, r2, r3⟩ := SR
      refine ⟨_, rfl, r, rfl, ⟨_, hl⟩, fun D hD => lc_map (K := K) (a := r) (xs := Z l) (l.map fun n => V.bl (decide (n < s.sorts.length))) hD hl (by simp) (by rw [hlen]; omega) (fun x => rfl) ?_ ?_⟩
      · intro i x y H' Q' hx hy s1 k'
        obtain ⟨n, hn, rfl⟩ := Z_get hx
        rw [List.getElem?_map, hn] at hy
        cases hy
        refine ⟨_, rfl, _, rfl, a, C, dx, _, _, rfl, s1 _ _ h1, T.cl, T.widths, h2, aw, _, rfl, .inl (SqL.of (s1 _ _ h5)), _, _, rfl, rfl, ?_⟩
        have e : decide ((n : Int) < (((Z (Wl s)).length : Nat) : Int)) = decide (n < s.sorts.length) := by
          refine decide_eq_decide.mpr ?_
          simp [Wl]
        exact qeq (congrArg V.bl e) (k' H' (Same.refl _))
      · intro H2 s2 hD2
        refine ⟨D, l.map fun n => decide (n < s.sorts.length), rfl, ?_, ?_⟩
        · rw [List.map_map]
          exact SqL.of hD2
        · have e : Mu33.isRing s l = (l.map fun n => decide (n < s.sorts.length)).all id := by
            unfold Mu33.isRing
            rw [decide_eq_true (show 3 ≤ l.length by omega), decide_eq_true (show l.length ≤ 6 by omega), Bool.true_and, Bool.true_and, List.all_map]
            rfl
          rw [← e]
          exact k H2 s2
    · rw [decide_eq_false c6]
      refine iteT (last false ?_)
      unfold Mu33.isRing
      rw [decide_eq_false (show ¬ l.length ≤ 6 by omega), Bool.false_and, Bool.and_false]
  · have c' : ¬ (3 : Int) ≤ (l.length : Nat) := by simpa using c
    unfold Mu33.isRing
    rw [decide_eq_false (show ¬ 3 ≤ l.length by omega), Bool.false_and]
/-! ### width_of -/
abbrev sWidth : Stmt := top 27
theorem scWidth : FnScope ["shop", "ring", "sort"] ["shop", "ring"] (defScope sWidth) := ⟨rfl, rfl, rfl, by decide +kernel, rfl, by decide +kernel, by decide +kernel⟩
/-- what is asked of a ring: sorts that there are, few -/
structure RingOk (s : Mu33.State) (l : List Nat) : Prop where
  few : l.length ≤ 10
  there : ∀ k ∈ l, k < s.sorts.length
def spWidth (K : PySem.W.Frag) (C : Addr) : Sp := fun vs H Q _ => ∃ (a r : Addr) (s : Mu33.State) (l : List Nat), vs = [.ref a, .ref r] ∧ ShopR C H a s ∧ SqL K H r (Z l) ∧ RingOk s l ∧
  ∀ H', Same H H' → Q (.int (Mu33.weight s l : Nat)) H'
theorem Wl_get {s : Mu33.State} {k : Nat} (h : k < s.sorts.length) : (Wl s)[k]? = some (Mu33.width s k) := by
  unfold Wl Mu33.width
  rw [List.getElem?_map, List.getElem?_eq_getElem h]
  rfl
theorem Pl_get {s : Mu33.State} {k : Nat} (h : k < s.sorts.length) : (Pl s)[k]? = some (b01 (Mu33.painted s k)) := by
  unfold Pl Mu33.painted
  rw [List.getElem?_map, List.getElem?_eq_getElem h]
  rfl
theorem cal_width (B : Bl mg) (T : Txs K C) (D : Df K mg "width_of" sWidth) : Cal P w K mg base 1 "width_of" ["shop", "ring"] (spWidth K C) := by
  obtain ⟨f, fd, F, m⟩ := D
  refine ⟨f, fd, ?_, m, F.kp, F.binds fun _ _ _ _ _ _ us hl => match us, hl with | [_, _], _ => rfl⟩
  refine F.ok scWidth (fun vs H Q E h => by obtain ⟨a, r, s, l, rfl, _⟩ := h; rfl) (fun cdv A outer s H vs Q E hr h => ?_)
  refine ⟨_, pss_one (ps_ret (pe_callB (cr_sum rfl) (by rfl) B.sum (by decide +kernel) (pa_cons (pe_lc (own := [("sort", 2)]) (g := gName 2) (tt := tYes) (te := tOp (rIxL K) (tFld K (tVar 0) "widths") (tVar 2)) rfl scWidth.nd (pi_list (pv 1)) (blkOk_by (own := [("sort", 2)]) (N := ["shop", "ring", "sort"]) (sc := defScope sWidth) (by decide +kernel))
      (fun _ _ _ _ _ => pg_name (i := 2) scWidth.nd rfl (Or.inl rfl)) (fun _ _ _ _ _ => pts_nil)
      (fun _ _ _ _ _ => pe_ix ix_list (pe_fld (pv 0) rfl) (pv 2) (fun _ _ => rfl))) pa_nil))), ?_⟩
  obtain ⟨a, r, s, l, rfl, SR, hl, hR, k⟩ := h
  obtain ⟨⟨dx, fs, aw, ap, ak, h1, h2, h3, h4, h5, h6, h7⟩, r1, r2, r3⟩ := SR
  have hlen : (Z l).length = l.length := List.length_map ..
  have h10 := hR.few
  refine ⟨_, rfl, r, rfl, ⟨_, hl⟩, fun D hD => lc_map (K := K) (a := r) (xs := Z l) (l.map fun n => V.int (Mu33.width s n : Nat)) hD hl (by simp) (by rw [hlen]; omega) (fun x => rfl) ?_ ?_⟩
  · intro i x y H' Q' hx hy s1 k'
    obtain ⟨n, hn, rfl⟩ := Z_get hx
    rw [List.getElem?_map, hn] at hy
    cases hy
    exact ⟨_, rfl, a, C, dx, _, _, rfl, s1 _ _ h1, T.cl, T.widths, h2, _, rfl, aw, _, _, _, rfl, rfl, SqL.of (s1 _ _ h5), atI_nat (Z_at (Wl_get (hR.there n (List.mem_of_getElem? hn)))), k' H' (Same.refl _)⟩
  · intro H2 s2 hD2
    refine ⟨D, l.map fun n => ((Mu33.width s n : Nat) : Int), rfl, ?_, ?_⟩
    · rw [List.map_map]
      exact SqL.of hD2
    · have e : (l.map fun n => ((Mu33.width s n : Nat) : Int)).sum = ((Mu33.weight s l : Nat) : Int) := by
        unfold Mu33.weight
        rw [total_sum, ← sum_cast, List.map_map]
        rfl
      rw [e]
      exact k H2 s2
end
end LR

/-! words that the layer lacks -/
namespace LR
open PySem PySem.Spec PyProof.Rows L2
section
variable {X : Cx}
/-- xs[i], for xs[i] op= e -/
theorem get_list : PGet X (rIxL X.K) := by
  intro pins s σ H o i ov iv Q I ro ri ⟨p, xs, k, z, eo, ei, hq, hat, hQ⟩
  subst eo ei
  cases ro
  obtain ⟨t, rfl⟩ := ri
  obtain ⟨its, hv, pl, hz⟩ := I.list hq
  obtain ⟨j, e1, e2, e3, e4, e5⟩ := atI_get hat
  obtain ⟨y, ey, ry⟩ := hv.get e2
  have ll := hv.length
  have l63 := line63
  have done : EP X pins σ Q y s := ⟨z, H, I, ry, hQ⟩
  by_cases c : 0 ≤ k
  · have hj : k.toNat = j := Option.some.inj ((seqIndex_of c e5).symm.trans e1)
    exact wpAny_getItem_list pl.isList c (by omega) (by rw [hj]; simpa using ey) done
  · have hj : (k + (its.toArray.size : Int)).toNat = j := by
      rw [List.size_toArray, ← ll]
      exact Option.some.inj ((seqIndex_neg (by omega) e4).symm.trans e1)
    exact wpAny_getItem_list_neg pl.isList (by omega) (by rw [List.size_toArray]; omega) (by omega) (by rw [hj]; simpa using ey) done
/-- min(xs) of alike data: the first of the least -/
def rMinD (K : PySem.W.Frag) : List V → Hp → VK → Prop := fun vs H Q => ∃ (a : Addr) (xs : List V) (d : PyData) (ds : List PyData), vs = [.ref a] ∧ SqL K H a xs ∧ DpAll K H xs (d :: ds) ∧ PySem.W.AlikeAll (d :: ds) ∧
  PyData.depthAll (d :: ds) ≤ 60 ∧ ∀ (i : Nat) (x : V), xs[i]? = some x → (d :: ds)[i]? = some (PySem.W.minD d ds) → Q x H
theorem cr_minD (hc : X.calm = true) (hu : X.A.units + 64 < cLine) : CallR X (.builtin "min") (rMinD X.K) := by
  intro pins s σ H vs us Q I r ⟨a, xs, d, ds, ev, hs, hd, ha, hdep, hQ⟩
  subst ev
  obtain ⟨its, rv, pl, _⟩ := I.list hs
  rw [Vals.ref1 r]
  obtain ⟨as, rds⟩ := Dp.readsAll I (d :: ds) xs its hd rv
  have hr : ReadsAll s.heap its.toArray.toList (d :: ds) as := by simpa using rds
  have hn : its.toArray.size = ds.length + 1 := PySem.W.readsAll_len hr
  refine call_min_walkH (PySem.W.iter_listW (A := X.A.in1) (I.ok.hd hc) pl.isList fun s2 e2 W st hfp hw hk => ⟨_, _, _, _, _, _, _, s.heap, _, rfl, W, st, hfp, by omega, hw, hk,
    PySem.W.cmpIn_lt (A := X.A.in1) hr ha (by show X.A.units + 1 + _ < _; omega), fun v s' hP mv => ?_⟩)
  obtain ⟨h', tk, rfl, hkeep⟩ := PySem.W.moved_old e2 rfl mv
  have e3 : its.toArray.size - 1 = ds.length := by omega
  obtain ⟨le, e4⟩ := PySem.W.argBest_fold PySem.W.dataLt PyData.none d ds ds.length (Nat.le_refl _)
  rw [List.take_length] at e4
  rw [e3] at hP
  generalize hi : argBest (fun i j => PySem.W.dataLt ((d :: ds).getD i PyData.none) ((d :: ds).getD j PyData.none)) ds.length = i at le e4 hP
  have hlt : i < (d :: ds).length := by simp; omega
  have hx : i < xs.length := by
    have e5 := rv.length
    have e6 : i < its.length := by
      have e7 : its.toArray.size = its.length := List.size_toArray
      omega
    omega
  obtain ⟨u, hu1, hu2⟩ := rv.get (List.getElem?_eq_getElem hx)
  have euv : u = v := by
    have e8 : its.toArray[i]? = some u := by simpa using hu1
    rw [e8] at hP
    exact Option.some.inj hP
  subst euv
  refine ⟨xs[i], H, I.kept hkeep, hu2, hQ i xs[i] (List.getElem?_eq_getElem hx) ?_⟩
  rw [List.getD_eq_getElem?_getD, List.getElem?_eq_getElem hlt] at e4
  rw [List.getElem?_eq_getElem hlt]
  exact congrArg some e4
end
end LR

/-! list(reversed(xs)); set(xs) of whole numbers -/
namespace LR
open PySem PySem.Spec PyProof.Rows L2
section
variable {pg : Program} {w : World} {A : Around} {E : Value → Shared → Prop} {s : Shared}
/-- the new list at S takes what the reversed walk at J gives -/
theorem ext_rev {R : Result → Shared → Prop} {J l S : Addr} {xs : Array Value} {c0 : Nat} {res : Value} (hh : A.in1.handled = none) (hJ : s.heap.IsRevIter J l ((xs.size : Int) - 1)) (hL : s.heap.IsList l xs) (nlJ : l ≠ J) (hz : xs.size ≤ sizeLine) (nSJ : S ≠ J) (nSl : S ≠ l)
    (hS : s.heap.get? S = some { cls := .type "list", data := .seq #[] c0 })
    (hR : ∀ s' acc c, Moved [S, J] (fun a b => b = a) s s' → s'.heap.get? S = some { cls := .type "list", dict := none, data := .seq acc c, slots := #[] } → ItemsOf (fun i v => xs[xs.size - 1 - i]? = some v) acc xs.size → R (.ok (.ret res)) s') :
    wpAny (model pg w) A.in1 (Builtin.List.listExtendWith (.ref S) (.ref J) res) (fun fin s' => match fin with | .done f => R (.ok f) s' | .again c' => c'.quiet = true ∧ codeAny (model pg w) A c' R s') (fun e s' => R (.error e) s') s := by
  have WK := (Walks.listRev (prog := pg) (w := w) (A := A.in1) hh J l nlJ xs).toS
  have ty : s.TypeIs (.ref J) "list_reverseiterator" := hJ.typeIs
  have nin : S ∉ [J, l] := by simp only [List.mem_cons, List.not_mem_nil, or_false, not_or]; exact ⟨nSJ, nSl⟩
  have sr : Builtin.List.listSameRef (.ref S) (.ref J) = false := by simp [Builtin.List.listSameRef, nSJ]
  unfold Builtin.List.listExtendWith
  refine wpAny_bind (wpAny_typeOf ty ?_)
  rw [if_neg (by rw [sr]; decide)]
  refine wpAny_bind (wpAny_pyIter_revIter hJ (wpAny_bind (wpAny_holding ?_)))
  unfold Builtin.List.listLengthHint
  refine wpAny_bind (wpAny_specialOf ty RT.nolen_lri ?_)
  show wpAny _ A.in1 (specialOf (Value.ref J) (Str.ofString "__length_hint__") >>= _) _ _ _
  refine wpAny_bind (wpAny_specialOf ty RT.hint_lri ?_)
  generalize hid : ("list_reverseiterator.__length_hint__" : String) = hint
  wp_delta
  rw [show splitId hint = some ("list_reverseiterator", "__length_hint__") from by subst hid; decide +kernel]
  subst hid
  refine wpAny_bind (wpAny_isInstance (b := true) ty (by rw [isSubtype_type]; kernel_rfl) (wpAny_pure ?_))
  rw [if_neg (by decide)]
  have z0 : ((xs.size : Nat) : Int) - 1 - ((0 : Nat) : Int) = (xs.size : Int) - 1 := by omega
  exact wpAny_pure ⟨plainId_quiet F.plain_extend_loop _, codeAny_extend_loopS WK hz S nin _ xs.size 0 _ _ _ rfl (Nat.zero_le _) ⟨Nat.zero_le _, by rw [z0]; exact hJ, hL⟩ hS (ItemsOf.nil _) fun s' acc c mv e1 e2 => hR s' acc c mv e1 e2⟩
/-- list(it), it a walk backwards over the list at l -/
theorem call_listRev {J l : Addr} {xs : Array Value} {Q : Value → Shared → Prop} (hh : A.handled = none) (hJ : s.heap.IsRevIter J l ((xs.size : Int) - 1)) (hL : s.heap.IsList l xs) (nlJ : l ≠ J) (hz : xs.size ≤ sizeLine)
    (hQ : ∀ (h' : Heap) (tk : Nat) (acc : Array Value) (c : Nat), (∀ b o, b ≠ J → s.heap.get? b = some o → h'.get? b = some o) → h'.get? s.heap.objs.size = some { cls := .type "list", dict := none, data := .seq acc c, slots := #[] } →
      ItemsOf (fun i v => xs[xs.size - 1 - i]? = some v) acc xs.size → Q (.ref s.heap.objs.size) { s with heap := h', toks := tk }) :
    wpAny (model pg w) A (call (.type "list") [.ref J]) Q E s := by
  obtain ⟨oJ, gJ, _⟩ := id hJ
  obtain ⟨oL, gL, _⟩ := id hL
  have nSJ : s.heap.objs.size ≠ J := Nat.ne_of_gt (Heap.lt_size gJ)
  have nSl : s.heap.objs.size ≠ l := Nat.ne_of_gt (Heap.lt_size gL)
  refine callType_codes (Q₁ := fun obj s1 => obj = .ref s.heap.objs.size ∧ s1 = { s with heap := s.heap.push { cls := .type "list", data := .seq #[] } }) F.called_list (F.typeCall_list_1 _) F.entry_list_init (code_list_new _ ⟨rfl, rfl⟩) fun obj s1 ⟨eo, es⟩ => ?_
  subst eo es
  have gS : (s.heap.push { cls := .type "list", data := .seq #[] }).get? s.heap.objs.size = some { cls := .type "list", data := .seq #[] } := Heap.get?_push_size _ rfl
  refine ⟨⟨_, gS, rfl⟩, F.args_list_init_2 _ _, ?_⟩
  show wpAny _ _ (do let old ← Builtin.List.listItems (.ref s.heap.objs.size); Builtin.List.listUpdate (.ref s.heap.objs.size) (fun _ => #[]); letGo old.toList.reverse; Builtin.List.listExtendWith (.ref s.heap.objs.size) (.ref J) .none) _ _ _
  unfold Builtin.List.listItems
  refine wpAny_bind (wpAny_bind (wpAny_seqItems gS rfl (wpAny_pure ?_)))
  refine wpAny_bind (m := updateSeq s.heap.objs.size (fun _ => #[])) (wpAny_updateSeq gS rfl (wpAny_bind (wpAny_letGo ?_)))
  have gS2 := Heap.get?_update_self (Obj.mapSeq (fun _ => (#[] : Array Value))) gS rfl
  have old : ∀ b o, b ≠ s.heap.objs.size → s.heap.get? b = some o → ((s.heap.push { cls := .type "list", data := .seq #[] }).update s.heap.objs.size (Obj.mapSeq (fun _ => (#[] : Array Value)))).get? b = some o := fun b o nb e =>
    (Heap.get?_update_other _ _ (Ne.symm nb)).trans (Heap.get?_push_of_some _ e)
  refine ext_rev (l := l) (xs := xs) hh (hJ.at fun o e => old J o (Ne.symm nSJ) e) (hL.at fun o e => old l o (Ne.symm nSl) e) nlJ hz nSJ nSl gS2 fun s' acc c mv e1 e2 => ⟨rfl, ?_⟩
  obtain ⟨hp, g, d, tk, os⟩ := s'
  have q1 : g = s.gens := mv.gens
  have q2 : d = s.drawn := mv.drawn
  have q3 : os = s.os := mv.os
  subst q1 q2 q3
  refine hQ hp tk acc c (fun b o nb e => ?_) e1 e2
  have nS : b ≠ s.heap.objs.size := Nat.ne_of_lt (Heap.lt_size e)
  exact mv.heap b o (by simp only [List.mem_cons, List.not_mem_nil, or_false, not_or]; exact ⟨nS, nb⟩) (old b o nS e)
end
section
variable {X : Cx}
/-- list(reversed(x)), x a list: a new list -/
def tLstRev (K : PySem.W.Frag) (te : TE) : TE := fun σ H Q => te σ H fun v H1 => ∃ (a : Addr) (xs : List V), v = .ref a ∧ SqL K H1 a xs ∧ ∀ q, H1 q = none → Q (.ref q) (upd H1 q (.lst xs.reverse))
theorem pe_lstRev {e : Expr} {te : TE} {p p2 pos pos2 : Pos} (hc : X.calm = true) (hg : Gl X "list") (hm : X.mg "list" = none) (hg2 : Gl X "reversed") (hm2 : X.mg "reversed" = none) (he : PE X e te)
    (hs : starEach [e] X.env = (false, eval e X.env) :: starEach [] X.env := by rfl)
    (hs2 : starEach [.Call (.Name "reversed" p2) [e] [] pos2] X.env = (false, eval (.Call (.Name "reversed" p2) [e] [] pos2) X.env) :: starEach [] X.env := by rfl) :
    PE X (.Call (.Name "list" p) [.Call (.Name "reversed" p2) [e] [] pos2] [] pos) (tLstRev X.K te) := by
  refine ⟨fun pins s σ H Q I h => Call_ (ld_blt I hg hm (show bootBuiltins "list" = some (.type "list") by decide +kernel) (PyProof.Rows.callWith_type1 (args_cons (Call_ (ld_blt I hg2 hm2 PyProof.Rows.boot_reversed (PyProof.Rows.callWith_type1 (args_cons (thn (he.run pins s σ H _ I h) fun u s1 ⟨v, H1, I1, r1, q1⟩ => args_nil ?_) hs) hs rfl))) hs2) hs2 rfl))⟩
  obtain ⟨a, xs, ev, hq, hQ⟩ := q1
  subst ev
  obtain rfl : u = Value.ref a := r1
  obtain ⟨its, rv, pl, hz⟩ := I1.list hq
  refine call_reversed_list pl.isList (args_nil ?_)
  obtain ⟨ol, gl, _⟩ := id pl.isList
  have ne : a ≠ s1.heap.objs.size := Nat.ne_of_lt (Heap.lt_size gl)
  have hn : its.toArray.size ≤ sizeLine := by rw [List.size_toArray, ← rv.length]; exact hz
  refine call_listRev (s := { s1 with heap := s1.heap.push (revObj a ((its.toArray.size : Int) - 1)) }) (I1.ok.hd hc) ⟨_, Heap.get?_push_size _ rfl, rfl, rfl⟩ (pl.isList.push _) ne hn fun h' tk acc c hk e1 e2 => ?_
  have sz : s1.heap.objs.size ≤ (s1.heap.push (revObj a ((its.toArray.size : Int) - 1))).objs.size := by rw [Heap.size_push]; exact Nat.le_succ _
  have kp : ∀ b o, s1.heap.get? b = some o → h'.get? b = some o := fun b o e => hk b o (Nat.ne_of_lt (Heap.lt_size e)) (Heap.get?_push_of_some _ e)
  refine ⟨.ref _, _, I1.laid (o := .lst xs.reverse) (t' := tk) kp sz ⟨by rw [List.length_reverse]; exact hz, acc.toList, c, RT.vals_rev rv e2, by simpa using e1⟩, rfl, hQ _ (I1.hok.fresh sz)⟩
end
end LR

/-! set(xs) of whole numbers -/
namespace LR
open PySem PySem.Spec PyProof.Rows L2
/-- an empty set as the model makes it -/
abbrev noSet (w : World) : Obj := { cls := .type "set", dict := none, data := .set #[] 0 (.fresh 0 0 (!w.params.followText "set-order")) }
section
variable {P : Program} {w : World} {A : Around} {E : Value → Shared → Prop} {s : Shared}
set_option maxHeartbeats 6400000 in
theorem call_setOfList {l : Addr} {xs : Array Value} (ns : List Int) {Q : Value → Shared → Prop} (hh : A.handled = none) (hL : s.heap.IsList l xs) (hi : IntsAre xs.toList ns) (hb : ns.length + 1 < scanBound)
    (h : ∀ (h' : Heap) (tk c : Nat), SetR w h' s.heap.objs.size (fun j => decide (j ∈ ns)) c → c ≤ ns.length → (∀ b o, s.heap.get? b = some o → h'.get? b = some o) → Q (.ref s.heap.objs.size) { s with heap := h', toks := tk }) :
    wpAny (model P w) A (call (.type "set") [.ref l]) Q E s := by
  have nsz : xs.size = ns.length := by simpa using IntsAre.length hi
  obtain ⟨cc, rest, hmro⟩ := F.called_set.mro
  have k1 := F.called_set.made
  have k2 := F.called_set.sub
  refine wpAny_call (codeAny_of_tree ?_)
  show wpAny _ _ (callAny (.type "set") _) _ _ _
  refine wpAny_pure ⟨Code.quiet_builtin _ (by decide +kernel), codeAny_builtin F.entry_type_call ?_⟩
  rw [Around.under_plain (weight_type_call_type "set" [.ref l] []) rfl]
  have k3 := F.called_set.notType
  have k4 := F.called_set.canCreate
  have k5 := F.typeCall_set_1 (.ref l)
  repeat (any_goals (first | assumption | wp_step))
  refine codeAny_mono (code_set_led1 (.ref l) (E := E) (Q₁ := fun obj s1 => obj = .ref s.heap.objs.size ∧ s1 = { s with heap := s.heap.push (noSet w) }) ⟨rfl, rfl⟩) fun r s1 hr => ?_
  cases r with
  | error e => exact hr
  | ok fl =>
    cases fl with
    | next => exact hr.elim
    | brk => exact hr.elim
    | cont => exact hr.elim
    | ret obj =>
      obtain ⟨rfl, rfl⟩ := hr
      have gS : (s.heap.push (noSet w)).get? s.heap.objs.size = some (noSet w) := Heap.get?_push_size _ rfl
      have tyS : Shared.TypeIs { s with heap := s.heap.push (noSet w) } (.ref s.heap.objs.size) "set" := ⟨_, gS, rfl⟩
      have k6 := F.called_set.init.lookup
      have k7 := F.called_set.init.bind (.ref s.heap.objs.size)
      repeat (any_goals (first | assumption | wp_step))
      refine codeAny_mono (codeAny_call_builtin (R := wants (fun r s2 => r = .none ∧ ∃ h' tk c, s2 = { s with heap := h', toks := tk } ∧ SetR w h' s.heap.objs.size (fun j => decide (j ∈ ns)) c ∧ c ≤ ns.length ∧ (∀ b o, s.heap.get? b = some o → h'.get? b = some o)) E)
        F.called_set.init.plain F.entry_set_init (check_set_init_1 tyS ?_)) fun r2 s2 hr2 => ?_
      · obtain ⟨⟨ocls, odict, odata, oslots⟩, gl, ecl, nl, edl⟩ := hL
        simp only at ecl edl
        subst ecl edl
        have gl2 : (s.heap.push (noSet w)).get? l = some { cls := .type "list", dict := odict, data := .seq xs nl, slots := oslots } := Heap.get?_push_of_some _ gl
        have k8 := F.sub_list_set
        have k9 := F.sub_list_frozenset
        have k10 : (Value.type "list" == Value.type "dict") = false := by decide
        have hL2 : (s.heap.push (noSet w)).IsList l xs := ⟨_, gl2, rfl, nl, rfl⟩
        unfold Builtin.«set.__init__» noKeywords Builtin.Frozenset.updateFrom
        generalize hPI : pyIter = PI
        wp_walk
        subst hPI
        refine wpAny_pyIter_list hL2 (wpAny_bind (wpAny_runValue ?_))
        have lt0 : l < s.heap.objs.size := Heap.lt_size gl
        have h3 : A.in1.in1.in1.handled = none := by simp [hh]
        have nI : l ≠ (s.heap.push (noSet w)).objs.size := by rw [Heap.size_push]; exact Nat.ne_of_lt (Nat.lt_succ_of_lt lt0)
        have nS : s.heap.objs.size ∉ [(s.heap.push (noSet w)).objs.size, l] := by
          rw [Heap.size_push]
          simp only [List.mem_cons, List.not_mem_nil, or_false, not_or]
          exact ⟨Nat.ne_of_lt (Nat.lt_succ_self _), Nat.ne_of_gt lt0⟩
        have vals : ∀ (i : Nat) (v : Value), xs[i]? = some v → ∃ k t, ns[i]? = some k ∧ v = .int k t := fun i v hv => by
          have hlt : i < ns.length := by rw [← nsz]; exact (Array.getElem?_eq_some_iff.mp hv).1
          obtain ⟨t, e⟩ := PyProof.Rows.IntsAre.int_at hi i v (by rw [Array.getElem?_toList]; exact hv)
          refine ⟨ns[i], t, List.getElem?_eq_getElem hlt, ?_⟩
          rw [e, List.getD_eq_getElem?_getD, List.getElem?_eq_getElem hlt] <;> rfl
        refine set_update_ints ((Walks.list h3 _ l nI xs).toS) s.heap.objs.size nS ns nsz hb vals (xs.size - 0) 0 _ (by omega) (Nat.zero_le _) ⟨⟨_, Heap.get?_push_size _ rfl, rfl, rfl⟩, hL2.push _⟩ ⟨0, Nat.le_refl 0, setR_new_at (Heap.get?_push_of_some _ gS)⟩ fun s' c' mv hc' hS' => ?_
        obtain ⟨h', g2, d2, tk', os2⟩ := s'
        have e1 : g2 = s.gens := mv.gens
        have e2 : d2 = s.drawn := mv.drawn
        have e3 : os2 = s.os := mv.os
        subst e1 e2 e3
        show wpAny _ _ _ _ _ _
        refine wpAny_pure ?_
        show wpAny _ _ (ret Value.none) _ _ _
        rw [nsz] at hc'
        refine wpAny_pure ⟨rfl, h', tk', c', rfl, hS', hc', fun b o e => mv.heap b o ?_ (Heap.get?_push_of_some _ (Heap.get?_push_of_some _ e))⟩
        have lb : b < s.heap.objs.size := Heap.lt_size e
        rw [Heap.size_push]
        simp only [List.mem_cons, List.not_mem_nil, or_false, not_or]
        exact ⟨Nat.ne_of_lt lb, Nat.ne_of_lt (Nat.lt_succ_of_lt lb)⟩
      · cases r2 with
        | error e => exact hr2
        | ok fl2 =>
          cases fl2 with
          | next => exact hr2.elim
          | brk => exact hr2.elim
          | cont => exact hr2.elim
          | ret r =>
            obtain ⟨rfl, h', tk, c', rfl, hS', hc', hk'⟩ := hr2
            repeat (any_goals (first | assumption | wp_step))
            exact h _ _ _ hS' hc' hk'
end
section
variable {X : Cx}
/-- set(xs), xs a list of few whole numbers -/
def rSetL (K : PySem.W.Frag) (w : World) : List V → Hp → VK → Prop := fun vs H Q => ∃ (a : Addr) (ns : List Int), vs = [.ref a] ∧ SqL K H a (ns.map V.int) ∧ ns.length ≤ 60 ∧
  ∀ (p : Addr) (n : Nat), H p = none → n ≤ ns.length → Q (.ref p) (upd H p (SetO w p (fun j => decide (j ∈ ns)) n))
theorem cr_setL (hc : X.calm = true) : CallR X (.type "set") (rSetL X.K X.w) := by
  intro pins s σ H vs us Q I r ⟨a, ns, ev, hs, h60, hQ⟩
  subst ev
  obtain ⟨its, rv, pl, _⟩ := I.list hs
  rw [Vals.ref1 r]
  refine call_setOfList ns (I.ok.hd hc) pl.isList (by simpa using rv.ints) (by unfold scanBound; omega) fun h' tk c hS hc' hk => ?_
  obtain ⟨o, e, _⟩ := id hS
  refine ⟨.ref _, _, I.laid (o := SetO X.w s.heap.objs.size (fun j => decide (j ∈ ns)) c) (t' := tk) hk (Nat.le_refl _) ⟨hS, ?_, ?_⟩, rfl, hQ _ c (I.hok.fresh (Nat.le_refl _)) hc'⟩
  · obtain ⟨o, es, ep, t, e, _⟩ := hS
    exact ⟨o, e⟩
  · intro h1 h2 hx st
    exact hx.at st
end
end LR

/-! min(xs, key=f, default=d), where what f makes is told by a ghost beside the state -/
namespace LR
open PySem PySem.Spec PyProof.Rows L2
/-- how the key goes: J g s: the state s lies under the ghost g; V g i k: under g the value k is the key of the i-th item -/
structure KeyG (γ : Type) (pg : Program) (w : World) (A : Around) (q S : Addr) (wr : List Addr) (G : Array GenState → Array GenState → Prop) (n : Nat) (P : Nat → Value → Prop) (St : Nat → Shared → Prop) (J : γ → Shared → Prop) (V : γ → Nat → Value → Prop) (bt : Nat → Nat → Bool) : Prop where
  keep : ∀ g s s', J g s → Moved (S :: wr) G s s' → J g s'
  turn : ∀ i v g (s : Shared) (o : Obj) (Q : Value → Shared → Prop) (E : Value → Shared → Prop), i < n → P i v → J g s → St (i + 1) s → s.heap.get? S = some o → (∃ xs c, o.data = .seq xs c) →
    (∀ k g' s', J g' s' → St (i + 1) s' → s'.heap.get? S = some o → V g' i k → (∀ j k', V g j k' → V g' j k') → Q k s') → wpAny (model pg w) A (call (.ref q) [v]) Q E s
  cmp : ∀ i j ki kj g (s : Shared) (Q : Value → Shared → Prop) (E : Value → Shared → Prop), J g s → V g i ki → V g j kj → Q (.bool (bt i j)) s → wpAny (model pg w) A (richCompare .Lt ki kj) Q E s
/-- the list in which min keeps the best item and its key -/
abbrev two (a b : Value) (c : Nat) : Obj := { cls := .type "list", dict := none, data := .seq #[a, b] c, slots := #[] }
section
variable {γ : Type} {pg : Program} {w : World} {A : Around} {R : Result → Shared → Prop} {I q S : Addr} {fp wr : List Addr} {G : Array GenState → Array GenState → Prop} {n : Nat} {P : Nat → Value → Prop} {St : Nat → Shared → Prop} {J : γ → Shared → Prop} {V : γ → Nat → Value → Prop} {bt : Nat → Nat → Bool}
theorem mloop (W : WalksS pg w A.in1 I fp wr G n P St) (nS : S ∉ fp) (KG : KeyG γ pg w A.in1 q S wr G n P St J V bt) (kw : List (Str × Value)) :
    ∀ (left j : Nat) (g : γ) (s : Shared) (vb kb : Value) (c : Nat), n - (j + 1) = left → j + 1 ≤ n → J g s → St (j + 1) s → P (argBest bt j) vb → V g (argBest bt j) kb → s.heap.get? S = some (two vb kb c) →
      (∀ v g' s', P (argBest bt (n - 1)) v → J g' s' → R (.ok (.ret v)) s') → codeAny (model pg w) A (.builtin "min.loop" ⟨[.ref I, .ref q, .ref S], kw⟩) R s := by
  have nSw : S ∉ wr := fun z => nS (W.sub _ z)
  have more : ∀ b ∈ wr, b ∈ S :: wr := fun b z => List.mem_cons_of_mem _ z
  have nm : (toString "min" ++ toString ".loop" : String) = "min.loop" := by decide
  have off : ∀ {b : Addr}, b ∉ S :: wr → S ≠ b := fun z e => z (e ▸ List.mem_cons_self)
  intro left
  induction left with
  | zero =>
    intro j g s vb kb c hl hj hJ hst hP hV hS hR
    have ej : j + 1 = n := by omega
    refine codeAny_builtin F.entry_min_loop ?_
    rw [Around.under_plainId F.plain_min_loop _]
    show wpAny _ A.in1 (seqItems? (.ref S) >>= _) _ _ _
    refine wpAny_bind (wpAny_seqItems hS rfl (wpAny_bind (wpAny_tryCatch (W.done s _ _ (ej ▸ hst) fun s1 mv => ?_))))
    refine wpAny_bind (wpAny_updateSeq (mv.heap S _ nSw hS) rfl (wpAny_bind (wpAny_letGo (wpAny_pure (hR vb g _ (by rw [← ej]; exact hP) (KG.keep g _ _ hJ ?_))))))
    exact (mv.mono more).then_heap (tk := s1.toks) (Nat.le_refl _) fun b o z e => (Heap.get?_update_other _ _ (off z)).trans e
  | succ left ih =>
    intro j g s vb kb c hl hj hJ hst hP hV hS hR
    have jn : j + 1 < n := by omega
    refine codeAny_builtin F.entry_min_loop ?_
    rw [Around.under_plainId F.plain_min_loop _]
    show wpAny _ A.in1 (seqItems? (.ref S) >>= _) _ _ _
    refine wpAny_bind (wpAny_seqItems hS rfl (wpAny_bind (wpAny_tryCatch (W.item (j + 1) s _ _ jn hst fun v s1 hv st1 mv => ?_))))
    refine wpAny_bind (wpAny_tryCatch (wpAny_holding (KG.turn (j + 1) v g s1 _ _ _ jn hv (KG.keep g _ _ hJ (mv.mono more)) st1 (mv.heap S _ nSw hS) ⟨_, _, rfl⟩ fun kx g2 s2 J2 st2 hS2 V2 old => ?_)))
    show wpAny _ A.in1 (tryCatch (holding [v, kx] (richCompare .Lt kx kb >>= _)) _ >>= _) _ _ _
    refine wpAny_bind (wpAny_tryCatch (wpAny_holding (wpAny_bind (KG.cmp (j + 1) (argBest bt j) kx kb g2 s2 _ _ J2 V2 (old _ _ hV) ?_))))
    refine wpAny_bind (wpAny_holding (wpAny_truthy_bool (wpAny_bind (wpAny_letGo (wpAny_pure ?_)))))
    cases hb : bt (j + 1) (argBest bt j) with
    | false =>
      simp only [Bool.false_eq_true, if_false]
      refine wpAny_bind (wpAny_letGo ?_)
      rw [nm]
      have ea : argBest bt (j + 1) = argBest bt j := by simp only [argBest, hb, Bool.false_eq_true, if_false]
      exact wpAny_pure ⟨plainId_quiet F.plain_min_loop _, ih (j + 1) g2 s2 vb kb c (by omega) jn J2 st2 (by rw [ea]; exact hP) (by rw [ea]; exact old _ _ hV) hS2 hR⟩
    | true =>
      simp only [if_true]
      refine wpAny_bind (wpAny_updateSeq hS2 rfl (wpAny_bind (wpAny_letGo ?_)))
      rw [nm]
      have ea : argBest bt (j + 1) = j + 1 := by simp only [argBest, hb, if_true]
      have mv2 : Moved (S :: wr) G s2 { s2 with heap := s2.heap.update S (Obj.mapSeq fun _ => #[v, kx]), toks := s2.toks } := (Moved.refl W.grefl).then_heap (tk := s2.toks) (Nat.le_refl _) fun b o z e => (Heap.get?_update_other _ _ (off z)).trans e
      refine wpAny_pure ⟨plainId_quiet F.plain_min_loop _, ih (j + 1) g2 _ v kx _ (by omega) jn (KG.keep g2 _ _ J2 mv2) (W.frame _ s2 _ s2.toks st2 (Nat.le_refl _) fun b z o e => ?_) (by rw [ea]; exact hv) (by rw [ea]; exact V2) (Heap.get?_update_self _ hS2 rfl) hR⟩
      exact (Heap.get?_update_other _ _ (fun e2 : S = b => nS (e2 ▸ z))).trans e
theorem mfirst (W : WalksS pg w A.in1 I fp wr G n P St) (nS : S ∉ fp) (KG : KeyG γ pg w A.in1 q S wr G n P St J V bt) (kw : List (Str × Value)) (hn : 0 < n) {g : γ} {s : Shared} {c : Nat} (hJ : J g s) (hst : St 0 s)
    (hS : s.heap.get? S = some { cls := .type "list", dict := none, data := .seq #[] c, slots := #[] }) (hR : ∀ v g' s', P (argBest bt (n - 1)) v → J g' s' → R (.ok (.ret v)) s') :
    codeAny (model pg w) A (.builtin "min.loop" ⟨[.ref I, .ref q, .ref S], kw⟩) R s := by
  have nSw : S ∉ wr := fun z => nS (W.sub _ z)
  have nm : (toString "min" ++ toString ".loop" : String) = "min.loop" := by decide
  have off : ∀ {b : Addr}, b ∉ S :: wr → S ≠ b := fun z e => z (e ▸ List.mem_cons_self)
  refine codeAny_builtin F.entry_min_loop ?_
  rw [Around.under_plainId F.plain_min_loop _]
  show wpAny _ A.in1 (seqItems? (.ref S) >>= _) _ _ _
  refine wpAny_bind (wpAny_seqItems hS rfl (wpAny_bind (wpAny_tryCatch (W.item 0 s _ _ hn hst fun v s1 hv st1 mv => ?_))))
  refine wpAny_bind (wpAny_tryCatch (wpAny_holding (KG.turn 0 v g s1 _ _ _ hn hv (KG.keep g _ _ hJ (mv.mono fun b z => List.mem_cons_of_mem _ z)) st1 (mv.heap S _ nSw hS) ⟨_, _, rfl⟩ fun kx g2 s2 J2 st2 hS2 V2 old => ?_)))
  refine wpAny_bind (m := updateSeq S (fun _ => #[v, kx])) (wpAny_updateSeq hS2 rfl ?_)
  rw [nm]
  have mv2 : Moved (S :: wr) G s2 { s2 with heap := s2.heap.update S (Obj.mapSeq fun _ => #[v, kx]), toks := s2.toks } := (Moved.refl W.grefl).then_heap (tk := s2.toks) (Nat.le_refl _) fun b o z e => (Heap.get?_update_other _ _ (off z)).trans e
  refine wpAny_pure ⟨plainId_quiet F.plain_min_loop _, mloop W nS KG kw _ 0 g2 _ v kx _ rfl hn (KG.keep g2 _ _ J2 mv2) (W.frame _ s2 _ s2.toks st2 (Nat.le_refl _) fun b z o e => ?_) hv V2 (Heap.get?_update_self _ hS2 rfl) hR⟩
  exact (Heap.get?_update_other _ _ (fun e2 : S = b => nS (e2 ▸ z))).trans e
end
section
variable {pg : Program} {w : World} {A : Around} {E : Value → Shared → Prop} {s : Shared}
/-- min(x, key=f, default=d) -/
theorem call_minKD {x d : Value} {q : Addr} {Q : Value → Shared → Prop} {γ : Type}
    (h : wpAny (model pg w) A.in1 (pyIter x) (fun it s2 => ∃ I fp wr G n P St, ∃ (J : γ → Shared → Prop) (V : γ → Nat → Value → Prop) (bt : Nat → Nat → Bool) (g : γ), it = .ref I ∧ WalksS pg w A.in1 I fp wr G n P St ∧ St 0 s2 ∧ (∀ b ∈ fp, b < s2.heap.objs.size) ∧
      KeyG γ pg w A.in1 q s2.heap.objs.size wr G n P St J V bt ∧ J g s2 ∧ (n = 0 → ∀ g' s', J g' s' → Q d s') ∧ (0 < n → ∀ v g' s', P (argBest bt (n - 1)) v → J g' s' → Q v s')) E s) :
    wpAny (model pg w) A (call (.builtin "min") [x] [(Str.ofString "key", .ref q), (Str.ofString "default", d)]) Q E s := by
  have nm : (toString "min" ++ toString ".loop" : String) = "min.loop" := by decide
  refine PyProof.Rows.kmk_tree F.kind_min F.plain_min F.entry_min (args_min_key_default _ _ _) ?_
  have bp : Builtin.Builtins.bindParams "min" ["key", "default"] 0 ⟨[], [(Str.ofString "key", .ref q), (Str.ofString "default", d)]⟩ = pure [some (.ref q), some d] := rfl
  refine wpAny_bind (m := Builtin.Builtins.bindParams "min" ["key", "default"] 0 ⟨[], [(Str.ofString "key", .ref q), (Str.ofString "default", d)]⟩) (wpAny_of_eq bp (wpAny_bind (wpAny_pure (wpAny_bind (wpAny_mono h (fun it s2 h2 => ?_) fun _ _ e => e)))))
  obtain ⟨I, fp, wr, G, n, P, St, J, V, bt, g, rfl, W, hst, lt, KG, hJ, h0, h1⟩ := h2
  refine wpAny_bind (wpAny_newObj_type ?_)
  have nS : s2.heap.objs.size ∉ fp := fun z => Nat.lt_irrefl _ (lt _ z)
  rw [nm]
  have mv : Moved (s2.heap.objs.size :: wr) G s2 { s2 with heap := s2.heap.push { cls := .type "list", data := .seq #[] 0 }, toks := s2.toks } := (Moved.refl W.grefl).then_heap (tk := s2.toks) (Nat.le_refl _) fun b o _ e => Heap.get?_push_of_some _ e
  have st1 := W.frame 0 s2 (s2.heap.push { cls := .type "list", data := .seq #[] 0 }) s2.toks hst (Nat.le_refl _) fun b _ o e => Heap.get?_push_of_some _ e
  refine wpAny_pure ⟨plainId_quiet F.plain_min_loop _, ?_⟩
  rcases Nat.eq_zero_or_pos n with z | z
  · subst z
    exact codeAny_min_loop_dflt (S := s2.heap.objs.size) W nS st1 (Heap.get?_push_size _ rfl) fun s3 m3 => h0 rfl g s3 (KG.keep g _ _ hJ (Moved.trans W.gtrans mv (m3.mono (fun b y => List.mem_cons_of_mem s2.heap.objs.size y))))
  · exact mfirst W nS KG _ z (KG.keep g _ _ hJ mv) st1 (Heap.get?_push_size _ rfl) (h1 z)
end
end LR

/-! a lambda of one parameter, handed to a built-in -/
namespace LR
open PySem PySem.Spec PyProof.Rows L2 LamX
/-- the lambda's names: its parameter p, captured ones, globals -/
structure Lam1 (sc scope : Scope) (p : Str) : Prop where
  kind : scope.kind = .function
  co : scope.isCoroutine = false
  gen : scope.isGenerator = false
  par : scope.names.lookup p = some .local
  own : ∀ y ∈ scope.names, y.2 ≠ .cell ∧ (y.2 = .local → y.1 = p)
  free : ∀ y ∈ scope.names, y.2 = .free → sc.names.lookup y.1 = some .cell ∨ sc.names.lookup y.1 = some .free
def lam1B (sc scope : Scope) (p : Str) : Bool :=
  decide (scope.kind = .function) && !scope.isCoroutine && !scope.isGenerator && decide (scope.names.lookup p = some .local) &&
    scope.names.all fun y => !decide (y.2 = .cell) && (!decide (y.2 = .local) || decide (y.1 = p)) && (!decide (y.2 = .free) || decide (sc.names.lookup y.1 = some .cell) || decide (sc.names.lookup y.1 = some .free))
theorem lam1_by {sc scope : Scope} {p : Str} (h : lam1B sc scope p = true) : Lam1 sc scope p := by
  unfold lam1B at h
  simp only [Bool.and_eq_true, Bool.or_eq_true, Bool.not_eq_true', decide_eq_true_eq, decide_eq_false_iff_not, List.all_eq_true] at h
  obtain ⟨⟨⟨⟨h1, h2⟩, h3⟩, h4⟩, h5⟩ := h
  refine ⟨h1, h2, h3, h4, fun y hy => ⟨(h5 y hy).1.1, fun e => ?_⟩, fun y hy e => ?_⟩
  · rcases (h5 y hy).1.2 with z | z
    · exact absurd e z
    · exact z
  · rcases (h5 y hy).2 with (z | z) | z
    · exact absurd e z
    · exact .inl z
    · exact .inr z
section
variable {X : Cx} {pins : List (Addr × Obj)} {σ : L2.St} {H : Hp} {s : Shared}
theorem Lam1.has {scope : Scope} {p : Str} (L : Lam1 X.env.scope scope p) (ok : X.Ok) : ∀ y ∈ scope.names, y.2 = .free → ∃ c, X.env.cells.lookup y.1 = some c := fun y hy e => by
  rcases L.free y hy e with k | k
  · exact ok.has _ (.inl k)
  · exact ok.has _ (.inr k)
/-- the context of the lambda's body -/
abbrev lmCx (X : Cx) (A : Around) (outer : List Env) (s : Shared) (H : Hp) (scope : Scope) (f c' : Addr) : Cx := (lamCx X A outer s H E0 scope f c').nox
theorem lam_enter {A : Around} {scope : Scope} {f c' : Addr} {h1 : Heap} {tk i : Nat} {p : Str} {v : V} {u : Value} (I : L2.Inv X pins σ H s) (L : Lam1 X.env.scope scope p) (hN : X.N.Nodup) (hi : X.N[i]? = some p) (rv : RelV v u)
    (e0 : Env0 X.prog X.w X.K X.mg X.base A X.stack s H) (hd : A.handled = none) (hns : h1.Ns s.heap.objs.size fun y => [(p, u)].reverse.lookup y) (kp : ∀ b o, s.heap.get? b = some o → h1.get? b = some o) :
    L2.Inv (lmCx X A X.stack s H scope f c') [] (σ.set i (some v)) H { s with heap := h1, toks := tk } := by
  have hfree := L.has I.ok
  have back : ∀ {y c}, (cloFrom X.env.cells scope.names []).lookup y = some c → X.env.cells.lookup y = some c := fun {y c} e => by
    rcases cloFrom_mem (PySem.mem_of_lookup e) with hm | ⟨q1, q2⟩
    · cases hm
    · obtain ⟨c1, hc⟩ := hfree _ q1 rfl
      have hc : X.env.cells.lookup y = some c1 := hc
      rw [q2, hc] <;> rfl
  have got : ∀ {y}, scope.names.lookup y = some .free → ∃ c, (cloFrom X.env.cells scope.names []).lookup y = some c := fun {y} hl => mem_lookup (cloFrom_has (cells := X.env.cells) (acc := []) (PySem.mem_of_lookup hl))
  have cellK : ∀ {c : Addr} {v : Option Value}, s.heap.IsCell c v → h1.IsCell c v := fun {c v} ⟨o, ho, hd⟩ => ⟨_, kp _ _ ho, hd⟩
  have noA : ∀ b : Addr, b ∉ (lmCx X A X.stack s H scope f c').ex := fun b z => absurd (show b ∈ ([] : List Addr) from z) (by simp)
  refine ⟨⟨e0.mod, L.kind, rfl, rfl, Nat.le_refl _, fun y z c e1 e2 => I.ok.inj y z c (back e1) (back e2), fun y hy => ?_, fun y c z _ => ?_, fun _ => hd, Around.frames_deeper e0.frames, .inr ⟨rfl, rfl⟩, fun b z => absurd z (noA b), e0.bs, e0.bsz, fun b _ _ => noA b,
      fun b z => absurd z (noA b), e0.funs, e0.frf⟩,
    rfl, e0.bare, Un.kept kp, ⟨_, hns, fun j y x e1 e2 e3 => ?_⟩, fun y c e => ?_, e0.hok.fresh (Nat.le_refl _), fun y c e => I.freeC y c (back e), fun q hq => absurd (show q ∈ ([] : List (Addr × Obj)) ++ [] from hq) (by simp), e0.hok.kept kp, ?_⟩
  · have hy : scope.names.lookup y = some .cell ∨ scope.names.lookup y = some .free := hy
    rcases hy with hy | hy
    · exact absurd rfl (L.own _ (PySem.mem_of_lookup hy)).1
    · exact got hy
  · have z : false = true := z
    cases z
  · have e3 : Vis scope y := e3
    rcases e3 with k | k | k
    · have ey : y = p := (L.own _ (PySem.mem_of_lookup k)).2 rfl
      subst ey
      have ej : j = i := nd_ix hN e1 hi
      subst ej
      have hlt : j < σ.length := by
        rw [I.len]
        exact (List.getElem?_eq_some_iff.mp hi).1
      rw [List.getElem?_set_self hlt] at e2
      have ex : v = x := Option.some.inj (Option.some.inj e2)
      subst ex
      refine ⟨u, rv, .inl ⟨k, ?_⟩⟩
      simp [List.lookup]
    · exact absurd rfl (L.own _ (PySem.mem_of_lookup k)).1
    · have nj : i ≠ j := fun z => by
        subst z
        have e4 : p = y := Option.some.inj (hi.symm.trans e1)
        subst e4
        rw [L.par] at k
        cases k
      rw [List.getElem?_set_ne nj] at e2
      obtain ⟨m, hn, hl⟩ := I.loc
      have hvis : Vis X.env.scope y := (L.free _ (PySem.mem_of_lookup k) rfl).elim (fun k => .inr (.inl k)) (fun k => .inr (.inr k))
      obtain ⟨w', r, q⟩ := hl j y x e1 e2 hvis
      obtain ⟨c2, h2⟩ := got k
      have c1 := back h2
      refine ⟨w', r, .inr ⟨.inr k, c2, h2, ?_⟩⟩
      rcases q with ⟨k', _⟩ | ⟨_, c3, e', z⟩
      · have k' : X.env.scope.names.lookup y = some .local := k'
        rcases L.free _ (PySem.mem_of_lookup k) rfl with k2 | k2 <;> rw [show X.env.scope.names.lookup y = _ from k2] at k' <;> cases k'
      · rw [c1] at e'
        cases e'
        exact cellK z
  · obtain ⟨w', z⟩ := I.cell y c (back e)
    exact ⟨w', cellK z⟩
  · show (σ.set i (some v)).length = X.N.length
    rw [List.length_set]
    exact I.len
/-- the object of the lambda -/
abbrev lamO (X : Cx) (params : Arguments) (body : Expr) (scope : Scope) (pm : Value) (c' : Addr) (ctv : Value) : Obj := PySem.W.kla_obj "<lambda>" (X.env.qual ++ "<lambda>") params body scope (cloFrom X.env.cells scope.names []) pm c' ctv
/-- f(u), f the lambda -/
theorem lam_run {A : Around} {params : Arguments} {body : Expr} {scope : Scope} {f c' : Addr} {pm ctv : Value} {i k : Nat} {p : Str} {v : V} {u : Value} {tb : TE} {Q : VK} {E : Value → Shared → Prop} (I : L2.Inv X pins σ H s) (L : Lam1 X.env.scope scope p) (hN : X.N.Nodup) (hi : X.N[i]? = some p) (rv : RelV v u)
    (e0 : Env0 X.prog X.w X.K X.mg X.base A X.stack s H) (hf : s.heap.get? f = some (lamO X params body scope pm c' ctv)) (hc : H c' = some (CodeO c' (X.env.qual ++ "<lambda>")))
    (hbind : bindArgs (PySem.W.kla_fn "<lambda>" (X.env.qual ++ "<lambda>") params body scope (cloFrom X.env.cells scope.names []) pm (.ref c') ctv) ⟨[u], []⟩ = pure [(p, u)]) (hr : Room (k + 1) A)
    (hbody : Room k (A.deeper (lamEnv X scope s.heap.objs.size f c')) → PE (lmCx X A X.stack s H scope f c') body tb) (ht : tb (σ.set i (some v)) H Q) :
    wpAny (model X.prog X.w) A (call (.ref f) [u]) (EP X pins σ Q) E s := by
  obtain ⟨⟨oc, vs, t, hoc, hdc, hvc⟩, _, _⟩ := I.hok c' _ hc
  have rc : codeAny (model X.prog X.w) A (.call (.ref f) ⟨[u], []⟩) (CR CX0 X.stack X.prog X.w H s Q E0) s := by
    refine PySem.W.kla_callFunE hr.depth hf rfl L.co L.gen rfl ⟨c', oc, vs, t, rfl, hoc, hdc, hvc⟩ ?_
    rw [hbind]
    refine wpAny_pure (wpAny_newFunctionEnv (fun y hy => (L.own y hy).1) (fun y hy => ?_) (fun h1 hns hsb => ⟨I.nolimit.fresh _ hsb, ?_⟩) L.kind)
    · rw [List.mem_singleton.mp hy]
      exact L.par
    show codeAny _ _ (.expr body (lamEnv X scope s.heap.objs.size f c')) _ _
    have kp : ∀ b o, s.heap.get? b = some o → h1.get? b = some o := fun b o e => hsb.extBut b o (Nat.ne_of_lt (Heap.lt_size e)) (Heap.get?_push_of_some _ e)
    have J : L2.Inv (lmCx X A X.stack s H scope f c') [] (σ.set i (some v)) H { s with heap := h1, toks := s.toks + [(p, u)].length } := lam_enter I L hN hi rv e0 hr.hd hns kp
    refine PySem.W.kla_codeExpr (wpAny_mono ((hbody (hr.deeper _)).run [] _ _ H Q J ht) (fun x s' hq => ?_) fun e s' hq => (show False from hq).elim)
    obtain ⟨w', H', J', rx, q⟩ := hq
    exact ⟨w', H', J'.os, J'.bare, J'.base, J'.hok, rx, q⟩
  refine wpAny_call (codeAny_mono rc fun r s' hq => ?_)
  cases r with
  | error e => exact (show False from hq).elim
  | ok fl =>
    cases fl with
    | ret x => exact I.after hq
    | next => exact False.elim hq
    | brk => exact False.elim hq
    | cont => exact False.elim hq
end
end LR

namespace LR
open PySem PySem.Spec PyProof.Rows L2 LamX
section
variable {X : Cx} {pins : List (Addr × Obj)} {σ : L2.St} {H : Hp} {s : Shared}
theorem pin_more {b : Addr} {o : Obj} (I : L2.Inv X pins σ H s) (h1 : s.heap.get? b = some o) (h2 : H b = none) (h3 : b ≠ X.env.locals) (h4 : b ∉ X.fs) (h5 : ∀ v, o.data ≠ .cell v) : L2.Inv X ((b, o) :: pins) σ H s := by
  refine ⟨I.ok, I.os, I.bare, I.base, I.loc, I.cell, I.free, I.freeC, fun p hp => ?_, I.hok, I.len⟩
  rcases List.mem_append.mp hp with z | z
  · exact I.pin p (List.mem_append_left _ z)
  · rcases List.mem_cons.mp z with z | z
    · subst z
      exact ⟨h1, h2, h3, h4, h5⟩
    · exact I.pin p (List.mem_append_right _ z)
theorem pin_less {q : Addr × Obj} (I : L2.Inv X (q :: pins) σ H s) : L2.Inv X pins σ H s := by
  refine ⟨I.ok, I.os, I.bare, I.base, I.loc, I.cell, I.free, I.freeC, fun p hp => ?_, I.hok, I.len⟩
  rcases List.mem_append.mp hp with z | z
  · exact I.pin p (List.mem_append_left _ z)
  · exact I.pin p (List.mem_append_right _ (List.mem_cons_of_mem _ z))
/-- what a place of ours has for good: it is no frame, no cell, no pin -/
structure Own (X : Cx) (pins : List (Addr × Obj)) (b : Addr) : Prop where
  loc : b ≠ X.env.locals
  fs : b ∉ X.fs
  new : b ∈ X.ex ∨ X.s_0.heap.objs.size ≤ b
  cells : ∀ x c, X.env.cells.lookup x = some c → c ≠ b
  pins : ∀ p ∈ X.pn ++ pins, p.1 ≠ b
theorem own_new {b : Addr} (I : L2.Inv X pins σ H s) (hb : s.heap.objs.size ≤ b) : Own X pins b ∧ H b = none := by
  obtain ⟨f0, f1, f2, f3, f4, f5⟩ := I.fpOk (H' := H) (b := b) hb (I.hok.fresh hb)
  exact ⟨⟨f1, f2, f3, f4, f5⟩, f0⟩
/-- two untracked records of ours have turned -/
theorem turned2 {s' : Shared} {a b : Addr} (I : L2.Inv X pins σ H s) (mv : Moved [a, b] (fun x y => y = x) s s') (oa : Own X pins a) (ob : Own X pins b) (ha : H a = none) (hb : H b = none) : L2.Inv X pins σ H s' := by
  have nt : ∀ c u, H c = some u → c ∉ [a, b] := fun c u e z => by
    rcases List.mem_cons.mp z with z | z
    · rw [z, ha] at e
      cases e
    · rw [List.mem_singleton.mp z, hb] at e
      cases e
  have R := I.step (h' := s'.heap) (H' := H) (g' := s'.gens) (d' := s'.drawn) (t' := s'.toks) (ch := [a, b]) (fun c hc => ?_) (fun c o _ _ hc e _ => mv.heap c o hc e) (fun c o _ _ hc e _ => ⟨o.slots, mv.heap c o hc e⟩) (fun _ _ _ _ n => n)
    (fun c o hc e => ⟨o, mv.heap c o hc e⟩) (fun _ _ e => e) (fun _ _ _ e => e) (fun c ps e => ⟨#[], by rw [e]; simp⟩) (fun m hm => ?_) (fun c u e => ?_) (by rw [mv.gens]; exact I.bare)
  · have es : s' = { s with heap := s'.heap, gens := s'.gens, drawn := s'.drawn, toks := s'.toks } := by
      have e3 := mv.os
      cases s'
      cases s
      cases e3
      rfl
    rw [es]
    exact R
  · rcases List.mem_cons.mp hc with z | z
    · rw [z]
      exact ⟨oa.new, oa.loc, oa.cells, oa.pins⟩
    · rw [List.mem_singleton.mp z]
      exact ⟨ob.new, ob.loc, ob.cells, ob.pins⟩
  · obtain ⟨o, es, ep, ho, r⟩ := hm
    refine ⟨o, es, ep, mv.heap _ o (fun z => ?_) ho, r⟩
    rcases List.mem_cons.mp z with z | z
    · exact oa.loc z.symm
    · exact ob.loc (List.mem_singleton.mp z).symm
  · refine (I.hok c u e).stay (fun d v hd q => mv.heap d v ?_ q) (fun _ q => q) fun _ _ q => q
    rcases hd with z | z
    · rw [z]
      exact nt c u e
    · exact nt d _ z
end
mutual
theorem dp_same {K : PySem.W.Frag} {H H' : Hp} (k : Same H H') : ∀ (d : PyData) (x : V), Dp K H x d → Dp K H' x d
  | .none, _, h => by cases h; exact .non
  | .bool b, _, h => by cases h; exact .bl b
  | .int i, _, h => by cases h; exact .int i
  | .str x, _, h => by cases h; exact .str x
  | .list ds, _, h => by
    cases h with
    | lst hs ha => exact .lst (k.seq hs) (dpAll_same k ds _ ha)
  | .tuple ds, _, h => by
    cases h with
    | tup hs ha =>
      refine .tup ?_ (dpAll_same k ds _ ha)
      rcases hs with (h | ⟨o, h⟩) | h
      · exact .inl (.inl (k _ _ h))
      · exact .inl (.inr ⟨o, k _ _ h⟩)
      · exact .inr h
  | .dict _, _, h => by cases h
theorem dpAll_same {K : PySem.W.Frag} {H H' : Hp} (k : Same H H') : ∀ (ds : List PyData) (xs : List V), DpAll K H xs ds → DpAll K H' xs ds
  | [], _, h => by cases h; exact .nil
  | d :: ds, _, h => by
    cases h with
    | cons h1 h2 => exact .cons (dp_same k d _ h1) (dpAll_same k ds _ h2)
end
theorem depth_le : ∀ {ds : List PyData} {d : PyData}, d ∈ ds → d.depth ≤ PyData.depthAll ds
  | e :: ds, d, h => by
    show d.depth ≤ max e.depth (PyData.depthAll ds)
    rcases List.mem_cons.mp h with z | z
    · rw [z]
      exact Nat.le_max_left ..
    · exact Nat.le_trans (depth_le z) (Nat.le_max_right ..)
theorem vals_refs : ∀ {as : List Addr} {its : List Value}, Vals (RF as) its → its = as.map Value.ref
  | [], _, h => by cases h; rfl
  | a :: as, _, h => by
    cases h with
    | cons r t =>
      have e := vals_refs t
      have r' : _ = Value.ref a := r
      rw [e, r']
      rfl
/-- min(e, key=lambda p: body, default=d) -/
def tMinKD (K : PySem.W.Frag) (T : List (Addr × Str)) (slot : Nat) (te tb td : TE) : TE := fun σ H Q => te σ H fun x H1 => ∃ (a : Addr) (as : List Addr) (ds : List PyData), x = .ref a ∧ as.length = ds.length ∧ PySem.W.AlikeAll ds ∧ PyData.depthAll ds ≤ 50 ∧ Tabs T H1 ∧
  ∀ H2, ExtN H1 H2 → Tabs T H2 → td σ H2 fun dv H3 => Same H2 H3 ∧ SqL K H3 a (RF as) ∧
    (∀ (i : Nat) (b : Addr) (d : PyData) (H' : Hp), as[i]? = some b → ds[i]? = some d → Same H3 H' → tb (σ.set slot (some (.ref b))) H' fun k H'' => Same H' H'' ∧ Dp K H'' k d) ∧
    (as = [] → ∀ H', Same H3 H' → Q dv H') ∧
    ∀ (i : Nat) (b : Addr) (d : PyData) (ds' : List PyData), ds = d :: ds' → as[i]? = some b → ds[i]? = some (PySem.W.minD d ds') → ∀ H', Same H3 H' → Q (.ref b) H'
section
variable {X : Cx}
theorem minKD_run {pins : List (Addr × Obj)} {σ : L2.St} {H3 : Hp} {s : Shared} {params : Arguments} {body : Expr} {scope : Scope} {f c' a : Addr} {pm ctv d : Value} {dv : V} {i k : Nat} {p : Str} {tb : TE} {as : List Addr} {ds : List PyData} {Q : VK} (hc : X.calm = true)
    (I : L2.Inv X ((f, lamO X params body scope pm c' ctv) :: pins) σ H3 s) (L : Lam1 X.env.scope scope p) (hN : X.N.Nodup) (hi : X.N[i]? = some p) (hco : H3 c' = some (CodeO c' (X.env.qual ++ "<lambda>"))) (hr : Room (k + 2) X.A)
    (hbind : ∀ u, bindArgs (PySem.W.kla_fn "<lambda>" (X.env.qual ++ "<lambda>") params body scope (cloFrom X.env.cells scope.names []) pm (.ref c') ctv) ⟨[u], []⟩ = pure [(p, u)])
    (hbody : ∀ (s : Shared) (H : Hp), Room k (X.A.in1.deeper (lamEnv X scope s.heap.objs.size f c')) → PE (lmCx X X.A.in1 X.stack s H scope f c') body tb)
    (hl : as.length = ds.length) (hal : PySem.W.AlikeAll ds) (hdep : PyData.depthAll ds ≤ 50) (hq : SqL X.K H3 a (RF as)) (rd : RelV dv d)
    (step : ∀ (j : Nat) (b : Addr) (d : PyData) (H' : Hp), as[j]? = some b → ds[j]? = some d → Same H3 H' → tb (σ.set i (some (.ref b))) H' fun k H'' => Same H' H'' ∧ Dp X.K H'' k d)
    (h0 : as = [] → ∀ H', Same H3 H' → Q dv H')
    (h1 : ∀ (j : Nat) (b : Addr) (d : PyData) (ds' : List PyData), ds = d :: ds' → as[j]? = some b → ds[j]? = some (PySem.W.minD d ds') → ∀ H', Same H3 H' → Q (.ref b) H') :
    wpAny (model X.prog X.w) X.A (call (.builtin "min") [.ref a] [(Str.ofString "key", .ref f), (Str.ofString "default", d)]) (EP X pins σ Q) X.xe s := by
  obtain ⟨its, rv, pl, _⟩ := I.list hq
  have eits := vals_refs rv
  have nsz : its.toArray.size = as.length := by rw [List.size_toArray, eits, List.length_map]
  refine call_minKD (γ := Hp) (PySem.W.iter_listW (A := X.A.in1) (I.ok.hd hc) pl.isList fun s2 e2 W st hfp hw hk => ?_)
  have lta : a < s.heap.objs.size := by
    obtain ⟨_, e, _⟩ := pl.isList
    exact Heap.lt_size e
  have sz2 : s2.heap.objs.size = s.heap.objs.size + 1 := by rw [e2]; exact Heap.size_push ..
  obtain ⟨oI, nI⟩ := own_new I (Nat.le_refl s.heap.objs.size)
  obtain ⟨oS, nS⟩ := own_new (b := s2.heap.objs.size) I (by rw [sz2]; exact Nat.le_succ _)
  have neIS : s.heap.objs.size ≠ s2.heap.objs.size := by rw [sz2]; exact Nat.ne_of_lt (Nat.lt_succ_self _)
  have pinF : (f, lamO X params body scope pm c' ctv) ∈ X.pn ++ ((f, lamO X params body scope pm c' ctv) :: pins) := List.mem_append_right _ List.mem_cons_self
  refine ⟨_, _, _, _, _, _, _, fun H s' => L2.Inv X ((f, lamO X params body scope pm c' ctv) :: pins) σ H s' ∧ Same H3 H ∧ H s.heap.objs.size = none ∧ H s2.heap.objs.size = none,
    fun H j v => ∃ (x : V) (dd : PyData), RelV x v ∧ ds[j]? = some dd ∧ Dp X.K H x dd, fun j l => PySem.W.dataLt (ds.getD j .none) (ds.getD l .none), H3, rfl, W, st, hfp, ⟨?_, ?_, ?_⟩, ⟨?_, Same.refl _, nI, nS⟩, ?_, ?_⟩
  · -- keep
    intro H s3 s4 ⟨J, sm, n1, n2⟩ mv
    exact ⟨turned2 J mv oS oI n2 n1, sm, n1, n2⟩
  · -- turn
    intro j v H s3 o Q' E' hj hv ⟨J, sm, n1, n2⟩ st3 hS ⟨xo, co, eo⟩ hQ'
    obtain ⟨⟨oit, git, git2, git3⟩, hL3⟩ := st3
    obtain ⟨b, hb, ev⟩ : ∃ b, as[j]? = some b ∧ v = .ref b := by
      have e : its[j]? = some v := by simpa using hv
      rw [eits, List.getElem?_map] at e
      cases q : as[j]? with
      | none =>
        rw [q] at e
        cases e
      | some b =>
        rw [q] at e
        exact ⟨b, rfl, (Option.some.inj e).symm⟩
    subst ev
    have hjd : j < ds.length := by
      rw [← hl]
      exact (List.getElem?_eq_some_iff.mp hb).1
    have J2 := pin_more J git n1 oI.loc oI.fs (fun v z => by rw [git3] at z; cases z)
    have hSo : ∀ v, o.data ≠ .cell v := fun v z => by
      rw [eo] at z
      cases z
    have J3 := pin_more J2 hS n2 oS.loc oS.fs hSo
    refine wpAny_mono (lam_run (E := E') (v := .ref b) J3 L hN hi rfl J3.env0.in1 (J.pin _ pinF).1 (sm _ _ hco) (hbind _) hr.in1 (fun hr2 => hbody s3 H hr2) (step j b ds[j] H hb (List.getElem?_eq_getElem hjd) sm)) (fun kx s4 ⟨x, H4, J4, rx, s34, hd4⟩ => ?_) fun _ _ z => z
    have pS := J4.pin (s2.heap.objs.size, o) (List.mem_append_right _ List.mem_cons_self)
    have pI := J4.pin (s.heap.objs.size, oit) (List.mem_append_right _ (List.mem_cons_of_mem _ List.mem_cons_self))
    obtain ⟨its4, rv4, pl4, _⟩ := J4.list ((sm.trans s34).seq hq)
    have e4 := vals_refs rv4
    refine hQ' kx H4 s4 ⟨pin_less (pin_less J4), sm.trans s34, pI.2.1, pS.2.1⟩ ⟨⟨oit, pI.1, git2, git3⟩, ?_⟩ pS.1 ⟨x, _, rx, List.getElem?_eq_getElem hjd, hd4⟩ fun l k' ⟨x', d', r', g', hd'⟩ => ⟨x', d', r', g', dp_same s34 d' x' hd'⟩
    have e5 : its4 = its := by rw [e4, eits]
    rw [← e5]
    exact pl4.isList
  · -- cmp
    intro j l kj kl H s3 Q' E' ⟨J, sm, n1, n2⟩ ⟨x, dx, rx, gx, hx⟩ ⟨y, dy, ry, gy, hy⟩ hQ'
    obtain ⟨as1, r1⟩ := Dp.reads J dx x kj hx rx
    obtain ⟨as2, r2⟩ := Dp.reads J dy y kl hy ry
    have ex : ds.getD j .none = dx := by rw [List.getD_eq_getElem?_getD, gx]; rfl
    have ey : ds.getD l .none = dy := by rw [List.getD_eq_getElem?_getD, gy]; rfl
    have m1 := List.mem_of_getElem? gx
    have m2 := List.mem_of_getElem? gy
    rw [ex, ey] at hQ'
    refine PySem.W.rcLt_alike dx dy X.A.in1 s3 kj kl _ _ r1 r2 (hal.1 _ m1 _ m2) (hal.2 _ m1) ?_ X.prog X.w E' Q' hQ'
    have u1 := hr.units
    have u2 : dx.depth ≤ 50 := Nat.le_trans (depth_le m1) hdep
    have u3 := Nat.min_le_left dx.depth dy.depth
    show X.A.units + 1 + _ < _
    omega
  · rw [e2]
    exact I.kept (t' := s.toks) fun b o e => Heap.get?_push_of_some _ e
  · intro hn H s3 ⟨J, sm, _, _⟩
    exact ⟨dv, H, pin_less J, rd, h0 (List.eq_nil_of_length_eq_zero (by omega)) H sm⟩
  · intro hn v H s3 hv ⟨J, sm, _, _⟩
    cases hds : ds with
    | nil =>
      rw [hds] at hl
      have z : as.length = 0 := hl
      omega
    | cons d0 dr =>
      have e3 : its.toArray.size - 1 = dr.length := by
        rw [nsz, hl, hds]
        rfl
      obtain ⟨le, e4⟩ := PySem.W.argBest_fold PySem.W.dataLt PyData.none d0 dr dr.length (Nat.le_refl _)
      rw [List.take_length] at e4
      rw [e3] at hv
      rw [hds] at hv
      generalize argBest (fun i j => PySem.W.dataLt ((d0 :: dr).getD i PyData.none) ((d0 :: dr).getD j PyData.none)) dr.length = m at le e4 hv
      have e : its[m]? = some v := by simpa using hv
      rw [eits, List.getElem?_map] at e
      cases q : as[m]? with
      | none =>
        rw [q] at e
        cases e
      | some b =>
        rw [q] at e
        have ev : Value.ref b = v := Option.some.inj e
        subst ev
        have hm : m < (d0 :: dr).length := by simp; omega
        refine ⟨.ref b, H, pin_less J, rfl, h1 m b d0 dr hds q ?_ H sm⟩
        rw [List.getD_eq_getElem?_getD, List.getElem?_eq_getElem hm] at e4
        rw [hds, List.getElem?_eq_getElem hm]
        exact congrArg some e4
end
end LR

namespace LR
open PySem PySem.Spec PyProof.Rows L2 LamX
section
variable {X : Cx}
/-- min(e, key=lambda p: body, default=d) -/
theorem pe_minKD {T : List (Addr × Str)} {c P : Addr} {k i : Nat} {p : Str} {e de : Expr} {params : Arguments} {body : Expr} {scope : Scope} {te tb td : TE} {np pos lpos kp1 kp2 : Pos} (hc : X.calm = true) (hg : Gl X "min") (hm : X.mg "min" = none) (he : PE X e te) (hde : PE X de td)
    (TB : TabB X.base X.mg c P) (hcode : X.env.code = .ref c) (hmT : (P, X.env.qual ++ "<lambda>") ∈ T) (hu : ∀ q ∈ T, q.1 = P → q.2 = X.env.qual ++ "<lambda>") (hr : Room (k + 2) X.A) (L : Lam1 X.env.scope scope p) (hN : X.N.Nodup) (hi : X.N[i]? = some p) (hdef : defaultsOf params X.env = ([], []))
    (hbind : ∀ (q : Str) (cl : List (Str × Addr)) (pm cv ctv u : Value), bindArgs (PySem.W.kla_fn "<lambda>" q params body scope cl pm cv ctv) ⟨[u], []⟩ = pure [(p, u)])
    (hbody : ∀ (s : Shared) (H : Hp) (f c' : Addr), Room k (X.A.in1.deeper (lamEnv X scope s.heap.objs.size f c')) → PE (lmCx X X.A.in1 X.stack s H scope f c') body tb)
    (hse : backTo pos (starEach [e] X.env) = (false, eval e X.env) :: backTo pos (starEach [] X.env) := by rfl) (hs1 : starEach [e] X.env = (false, eval e X.env) :: starEach [] X.env := by rfl) (hpl : (backTo pos (starEach [e] X.env)).any (·.1) = false := by rfl) :
    PE X (.Call (.Name "min" np) [e] [⟨some "key", .Lambda params body scope lpos, kp1⟩, ⟨some "default", de, kp2⟩] pos) (tMinKD X.K T i te tb td) := by
  refine ⟨fun pins s σ H Q I h => ?_⟩
  refine wpAny_Call_Name_kw (ld_blt I hg hm (show bootBuiltins "min" = some (.builtin "min") by decide +kernel) ?_)
  refine PyProof.Rows.callWith_kw ?_ hse hpl (by rfl) (by rfl)
  rw [hse]
  refine Calls.spliced_cons (thn (he.run pins s σ H _ I h) fun u s1 ⟨v, H1, I1, r1, q1⟩ => Calls.spliced_nil ?_)
  obtain ⟨a, as, ds, ev, hl, hal, hdep, hT, q2⟩ := q1
  subst ev
  obtain rfl : u = Value.ref a := r1
  refine PyProof.Rows.kws_cons (LamX.lam_make2 I1 TB hcode hmT hu hT hdef (L.has I1.ok) fun f c' pm ctv H2 s2 I2 eN T2 hf hfn hfr hco => ?_)
  have q3 := q2 H2 eN T2
  have fL : f ≠ X.env.locals := fun z => by
    obtain ⟨m, ⟨o, es, ep, ho, hd, _⟩, _⟩ := I2.loc
    rw [← z, hf] at ho
    cases ho
    cases hd
  have ffs : f ∉ X.fs := fun z => hfr (by
    rcases I2.ok.stk with e1 | ⟨e1, e2⟩
    · rw [e1]
      exact z
    · rw [e1]
      unfold frs
      rw [List.filterMap_cons, e2]
      exact List.mem_cons_of_mem _ z)
  have J2 := pin_more I2 hf hfn fL ffs (fun v z => by cases z)
  refine PyProof.Rows.kws_cons (thn (hde.run _ s2 σ H2 _ J2 q3) fun d s3 ⟨dv, H3, J3, rd, s23, hq3, step, h0, h1⟩ => PyProof.Rows.kws_nil ?_)
  exact minKD_run hc J3 L hN hi (s23 _ _ hco) hr (fun u => hbind _ _ _ _ _ u) (fun s H hr2 => hbody s H f c' hr2) hl hal hdep hq3 rd step h0 h1
end
/-! ### the end of the row where lambdas are made -/
open PySem.W (WData Codec OpenSpec)
mutual
theorem dw_same {K : PySem.W.Frag} {H H' : Hp} (k : Same H H') : ∀ {x : V} {d : WData}, Dw K H x d → Dw K H' x d
  | _, _, .non => .non
  | _, _, .bl b => .bl b
  | _, _, .int i => .int i
  | _, _, .str x => .str x
  | _, _, .byt b => .byt b
  | _, _, .lst hs ha => .lst (k.seq hs) (dwAll_same k ha)
  | _, _, .tup hs ha => .tup (by
      rcases hs with (h | ⟨o, h⟩) | h
      · exact .inl (.inl (k _ _ h))
      · exact .inl (.inr ⟨o, k _ _ h⟩)
      · exact .inr h) (dwAll_same k ha)
theorem dwAll_same {K : PySem.W.Frag} {H H' : Hp} (k : Same H H') : ∀ {xs : List V} {ds : List WData}, DwAll K H xs ds → DwAll K H' xs ds
  | _, _, .nil => .nil
  | _, _, .cons h1 h2 => .cons (dw_same k h1) (dwAll_same k h2)
end
theorem spec_callT {P : Program} {w : World} {K : PySem.W.Frag} {mg mb : Str → Option Value} {CX : CXT} {k : Nat} {fa : Addr} {fd : FuncData} {ps : List Str} {sp : Sp} {s1 : Shared} {vals : List Value} {ds : List WData} {R : PySem.W.WRecords} {cl : Str → Option Addr} {d0 : WData} {cs : List (Addr × Addr)}
    (KX : K.In s1.heap) (hns : s1.heap.Ns mainGlobals mg) (hb : s1.heap.Ns builtinsNs mb) (hbb : ∀ x : Str, x ≠ "__name__" → mb x = bootBuiltins x) (hlim : s1.heap.NoLimit) (hg : s1.gens = #[])
    (hT : ∀ p ∈ cs, s1.heap.get? p.2 = some { cls := .none, data := .fields #[] }) (nT : ∀ p ∈ cs, K.lookup p.2 = none) (hC : ∀ p ∈ cs, PySem.W.CodeHd s1.heap p.1 p.2)
    (hbm : ∃ (bm : Addr) (ob : Obj), mg "__builtins__" = some (.ref bm) ∧ bm ≠ builtinsNs ∧ s1.heap.get? bm = some ob ∧ ob.cls = .type "module" ∧ ob.dict = some builtinsNs ∧ ob.data = .plain)
    (hwl : PySem.W.WellAll w.params s1.heap vals ds) (hpl : plWs ds = true) (hwt : ∀ d ∈ ds, d.weight ≤ 1048576) (hr : Room k callerA)
    (F : ∀ base : Heap, K.In base → base.Ns mainGlobals mg → (∀ p ∈ cs, TabB base mg p.1 p.2) → FnOk P w K mg base CX k fa fd ps sp) (hbind : ∀ (s : Shared) (us : List Value), us.length = ps.length → BindsTo s fd ⟨us, []⟩ (ps.zip us)) (hlen : ds.length = ps.length)
    (hsp : ∀ (H : Hp) (xs : List V), (∀ p ∈ cs, H p.2 = some (.tbl #[])) → DwAll K H xs ds → sp xs H (fun v H' => Dw K H' v d0) fun _ _ _ => False)
    (hCX : ∀ H e s', CX [] H s1 (fun _ _ _ => False) e s' → False) :
    codeAny (model P w) callerA (.call (.ref fa) ⟨vals, []⟩) (fun r s' => ∃ u as, r = .ok (.ret u) ∧ PySem.W.ReadsW R cl s'.heap u d0 as ∧ OldK s1.heap s'.heap ∧ s'.os = s1.os ∧ AllBare s'.gens) s1 := by
  obtain ⟨A, ho, ar⟩ := area_all ds vals hwl hpl hwt
  have isT : ∀ b, b ∈ cs.map (·.2) → s1.heap.get? b = some { cls := .none, data := .fields #[] } := fun b z => by
    obtain ⟨p, hp, e⟩ := List.mem_map.mp z
    exact e ▸ hT p hp
  have memT : ∀ p ∈ cs, p.2 ∈ cs.map (·.2) := fun p hp => List.mem_map.mpr ⟨p, hp, rfl⟩
  -- the arguments and the tables
  have apart : ∀ b, b ∈ cs.map (·.2) → argH K s1.heap A b = none := fun b z => by
    cases q : argH K s1.heap A b with
    | none => rfl
    | some u =>
      obtain ⟨_, vs, _, _, ⟨e, _⟩ | ⟨e, _⟩⟩ := argH_is ar q
      · rw [isT b z] at e
        cases e
      · rw [isT b z] at e
        cases e
  obtain ⟨H, hH⟩ : ∃ H : Hp, H = fun b => if b ∈ cs.map (·.2) then some (.tbl #[]) else argH K s1.heap A b := ⟨_, rfl⟩
  have HT : ∀ b, b ∈ cs.map (·.2) → H b = some (.tbl #[]) := fun b z => by rw [hH]; exact if_pos z
  have HA : ∀ b, b ∉ cs.map (·.2) → H b = argH K s1.heap A b := fun b z => by rw [hH]; exact if_neg z
  have sub : Same (argH K s1.heap A) H := fun b o e => by
    rw [HA b fun z => by rw [apart b z] at e; cases e]
    exact e
  have okA : HOk P w (argH K s1.heap A) s1.heap := argH_ok ar
  have hok : HOk P w H s1.heap := fun b o e => by
    by_cases z : b ∈ cs.map (·.2)
    · rw [HT b z] at e
      cases e
      exact isT b z
    · rw [HA b z] at e
      exact (okA b o e).stay (fun _ _ _ q => q) (fun c q => sub _ _ q) fun c xs q => sub _ _ q
  have dw := dw_all KX ar ds vals hwl hpl ho
  have dwH : DwAll K H (vals.map toV) ds := dwAll_same sub dw
  have hV := vals_toV ho
  have none_of : ∀ {b : Addr} {o : Obj}, s1.heap.get? b = some o → (∀ vs n, o.data ≠ .seq vs n) → o.data ≠ .fields #[] → H b = none := fun {b o} e h1 h2 => by
    by_cases z : b ∈ cs.map (·.2)
    · rw [isT b z] at e
      cases e
      exact (h2 rfl).elim
    · rw [HA b z]
      cases q : argH K s1.heap A b with
      | none => rfl
      | some u =>
        obtain ⟨_, vs, _, _, ⟨e2, _⟩ | ⟨e2, _⟩⟩ := argH_is ar q
        · rw [e2] at e
          cases e
          exact (h1 _ _ rfl).elim
        · rw [e2] at e
          cases e
          exact (h1 _ _ rfl).elim
  have base_of : ∀ {b : Addr} {o : Obj}, s1.heap.get? b = some o → H b = none → (hidT s1.heap H).get? b = some o := fun e n => hidT_get e n
  have nsK : ∀ {b : Addr} {m : Str → Option Value}, s1.heap.Ns b m → (hidT s1.heap H).Ns b m := fun {b m} ⟨o, es, ep, e, d, r⟩ =>
    ⟨o, es, ep, base_of e (none_of e (fun vs n z => by rw [d] at z; cases z) fun z => by rw [d] at z; cases z), d, r⟩
  have hKb : K.In (hidT s1.heap H) := fun b o e => base_of (KX b o e) (by
    by_cases z : b ∈ cs.map (·.2)
    · obtain ⟨p, hp, ep⟩ := List.mem_map.mp z
      rw [← ep, nT p hp] at e
      cases e
    · rw [HA b z]
      cases q : argH K s1.heap A b with
      | none => rfl
      | some u =>
        rw [(argH_is ar q).1] at e
        cases e)
  have hM : L2.Mod K mg (hidT s1.heap H) := ⟨hKb, nsK hns, ⟨mb, nsK hb, hbb⟩, let ⟨mc, m1, m2⟩ := hlim; ⟨mc, nsK m1, m2⟩⟩
  have TB : ∀ p ∈ cs, TabB (hidT s1.heap H) mg p.1 p.2 := fun p hp => by
    refine ⟨?_, ?_, fun z => ?_⟩
    · obtain ⟨o, us, file, tf, flags, tg, inF, text, tt, e1, r1, r2, r3, rest⟩ := hC p hp
      refine ⟨o, us, file, tf, flags, tg, inF, text, tt, base_of e1 (none_of e1 (fun vs n z => ?_) fun z => ?_), r1, r2, r3, rest⟩
      · rw [r2] at z
        cases z
      · rw [r2] at z
        cases z
        simp at r3
    · obtain ⟨bm, ob, b1, b2, b3, b4, b5, b6⟩ := hbm
      have nG : bm ≠ mainGlobals := fun q => by
        obtain ⟨o, es, ep, e, hd, _⟩ := hns
        rw [q, e] at b3
        cases b3
        rw [hd] at b6
        cases b6
      have nP : bm ≠ p.2 := fun q => by
        rw [q, hT p hp] at b3
        cases b3
        cases b6
      exact ⟨bm, ob, b1, b2, nG, nP, base_of b3 (none_of b3 (fun vs n z => by rw [b6] at z; cases z) fun z => by rw [b6] at z; cases z), b4, b5, b6⟩
    · obtain ⟨o, es, ep, e, hd, _⟩ := hns
      rw [z, hT p hp] at e
      cases e
      cases hd
  have e0 : Env0 P w K mg (hidT s1.heap H) callerA [] s1 H := ⟨rfl, hM, fun b o e => of_hidT e, Nat.le_of_eq (hidT_size _ _), trivial, fun b hb => absurd (show b ∈ ([] : List Addr) from hb) (by simp), hok, .of_eq hg⟩
  have hl : vals.length = ps.length := by rw [wellAll_len hwl]; exact hlen
  refine codeAny_mono ((F _ hKb (nsK hns) TB).run callerA [] s1 H ⟨vals, []⟩ vals (vals.map toV) _ _ hr e0 (hbind s1 vals hl) hV (hsp H _ (fun p hp => HT _ (memT p hp)) dwH)) fun r s' x => ?_
  cases r with
  | error e => exact (hCX H e s' x).elim
  | ok fl =>
    cases fl with
    | next => exact False.elim x
    | brk => exact False.elim x
    | cont => exact False.elim x
    | ret u =>
      obtain ⟨v, H', os, bare, un, hok', r', q⟩ := x
      have only := argH_only (K := K) ar
      have key : ∀ b o, b ∉ cs.map (·.2) → s1.heap.get? b = some o → s'.heap.get? b = some o := fun b o nb e => by
        cases q2 : H b with
        | none => exact un.keep b o e q2 (by intro z; exact absurd (show b ∈ ([] : List Addr) from z) (by simp)) (by simp)
        | some u2 =>
          have q3 := q2
          rw [HA b nb] at q3
          rcases only b with z | ⟨ob, u3, z⟩
          · rw [z] at q3
            cases q3
          · rw [z] at q3
            cases q3
            obtain ⟨e1, _⟩ := hok b _ q2
            obtain ⟨e3, _⟩ := hok' b _ (un.frzs b ob _ q2)
            rw [e] at e1
            cases e1
            exact e3
      have grown : ∀ p ∈ cs, ∃ more : Array Value, s'.heap.get? p.2 = some { cls := .none, data := .fields more } := fun p hp => by
        obtain ⟨more, z⟩ := un.tbls p.2 #[] (HT _ (memT p hp))
        exact ⟨_, hok' p.2 _ z⟩
      have KX' : K.In s'.heap := fun b o e => key b o (fun z => by
        obtain ⟨p, hp, ep⟩ := List.mem_map.mp z
        rw [← ep, nT p hp] at e
        cases e) (KX b o e)
      obtain ⟨as, hrd⟩ := Dw.reads (R := R) (cl := cl) hok' KX' d0 v u q r'
      refine ⟨u, as, rfl, hrd, ⟨fun b o e => ?_, fun b o e => ?_⟩, os, bare⟩
      · by_cases z : b ∈ cs.map (·.2)
        · obtain ⟨p, hp, ep⟩ := List.mem_map.mp z
          obtain ⟨more, hm⟩ := grown p hp
          rw [← ep] at e ⊢
          rw [hT p hp] at e
          cases e
          exact .inr (.inl ⟨((hC p hp).tab (hT p hp)).isCodeTable, rfl, #[], more, rfl, by rw [Array.empty_append]; exact hm⟩)
        · exact .inl (key b o z e)
      · by_cases z : b ∈ cs.map (·.2)
        · obtain ⟨p, hp, ep⟩ := List.mem_map.mp z
          obtain ⟨more, hm⟩ := grown p hp
          rw [← ep]
          exact ⟨_, hm⟩
        · exact ⟨o, key b o z e⟩
/-- what k_headS leaves, where the def may make lambdas: cs, the code objects that do and their tables -/
theorem walk_specT {r : OpenSpec} {k : Nat} {q : Program} {loose : List Str} {XP : (Str → Option Value) → Heap → Prop} {YP : World → Heap → Prop} {d : DefRec} {K : Params → PySem.W.Frag} {CX : CXT} {ps : List Str}
    (hwell : r.wellSaid = true) (hlen : r.args.length = ps.length) (hr : Room k callerA) (hY : ∀ (w : World) (h : Heap), YP w h → (K w.params).In h)
    (F : ∀ (w : World) (mg mb : Str → Option Value) (mean : ExcName → Option Value) (fa : Addr) (h : Heap), YP w h → (K w.params).In h → PyProof.Rows.Top q (PySem.W.looseW q loose) mean mg mb h → mg d.name = some (.ref fa) →
      ∃ (fd : FuncData) (cs : List (Addr × Addr)) (sp : Sp), (∀ p ∈ cs, PySem.W.CodeHd h p.1 p.2 ∧ h.get? p.2 = some { cls := .none, data := .fields #[] }) ∧ (∀ p ∈ cs, (K w.params).lookup p.2 = none) ∧ (∀ (s : Shared) (us : List Value), us.length = ps.length → BindsTo s fd ⟨us, []⟩ (ps.zip us)) ∧
        (∀ (H : Hp) (xs : List V) (a : Codec.denoteAll r.args), (∀ p ∈ cs, H p.2 = some (.tbl #[])) → Codec.withinAll r.args a = true → Codec.app r.args r.asked a = true → DwAll (K w.params) H xs (Codec.encAll r.args a) →
          sp xs H (fun v H' => Dw (K w.params) H' v (r.ret.enc (Codec.app r.args r.f a))) fun _ _ _ => False) ∧
        ∀ base : Heap, (K w.params).In base → base.Ns mainGlobals mg → (∀ p ∈ cs, TabB base mg p.1 p.2) → FnOk r.prog w (K w.params) mg base CX k fa fd ps sp)
    (hCX : ∀ (H : Hp) (s : Shared) (e : Value) (s' : Shared), CX [] H s (fun _ _ _ => False) e s' → False) :
    PySem.W.WalkOS q loose XP YP r d [] (fun f vs => PySem.call f vs) := by
  intro w s0 s1 mg mb G Y fa o pm cd doc dV kV ho hd hcd hD hmg hg args vals as hpre hlay hrd hwl hlo
  obtain ⟨a, e1, e2⟩ := PySem.W.os_pre_some hpre
  obtain ⟨e3, hwi⟩ := Codec.encAll_of_decAll r.args args a e1
  subst e3
  have KX := hY w _ Y
  obtain ⟨fd, cs, sp, hT, nT, hb, hsp, hF⟩ := F w mg mb _ fa _ Y KX G.T hmg
  refine PySem.W.enter_call (codeAny_mono (spec_callT (R := []) (cl := classAt s0.heap) (d0 := r.ret.enc (Codec.app r.args r.f a)) KX G.T.g G.T.b G.T.builtins G.T.nolimit hg (fun p hp => (hT p hp).2) nT (fun p hp => (hT p hp).1) G.T.bmain hwl (pl_encAll _ _) (layable_weight hlay) hr hF hb (by rw [encAll_len]; exact hlen)
    (fun H xs hH hS => hsp H xs a hH hwi e2 hS) fun H e s' => hCX H s1 e s') fun r' s' hq => ?_)
  obtain ⟨u, as', rfl, h1, h2, h3, h4⟩ := hq
  exact ⟨.inl ⟨u, _, as', rfl, fun _ => rfl, h1, (OpenSpec.post_iff hwell hwi _ _).mpr rfl, fun z => Bool.noConfusion (show false = true from z)⟩, h2, h3, h4⟩
end LR

namespace LR
open PySem PySem.Spec PyProof.Rows L2
def oV : Option Nat → V
  | none => .non
  | some i => .int i
section
variable {P : Program} {w : World} {K : PySem.W.Frag} {mg : Str → Option Value} {base : Heap} {C : Addr}
/-! ### dark_place -/
abbrev sDark : Stmt := top 28
abbrev NDark : List Str := ["shop", "ring", "place", "behind"]
theorem scDark : FnScope NDark ["shop", "ring"] (defScope sDark) := ⟨rfl, rfl, rfl, by decide +kernel, rfl, by decide +kernel, by decide +kernel⟩
def spDark (K : PySem.W.Frag) (C : Addr) : Sp := fun vs H Q _ => ∃ (a r : Addr) (s : Mu33.State) (l : List Nat), vs = [.ref a, .ref r] ∧ ShopR C H a s ∧ SqL K H r (Z l) ∧ RingOk s l ∧ Q (oV (Mu33.dark s l)) H
def darkAt (s : Mu33.State) (l : List Nat) (i : Nat) : Bool := Mu33.painted s (l.getD i 0) && Mu33.painted s (l.getD ((i + 1) % l.length) 0)
theorem b01_one (b : Bool) : decide ((V.int ((b01 b : Nat) : Int)) = V.int 1) = b := by
  cases b <;> decide
theorem fmod_nat (a b : Nat) : Int.fmod (a : Int) (b : Int) = ((a % b : Nat) : Int) := by
  rw [Int.fmod_eq_emod_of_nonneg _ (by omega)]
  rfl
theorem getD_at {l : List Nat} {i : Nat} (h : i < l.length) : l[i]? = some (l.getD i 0) := by
  rw [List.getD_eq_getElem?_getD, List.getElem?_eq_getElem h]
  rfl
theorem cal_dark (B : Bl mg) (T : Txs K C) (D : Df K mg "dark_place" sDark) : Cal P w K mg base 1 "dark_place" ["shop", "ring"] (spDark K C) := by
  obtain ⟨f, fd, F, m⟩ := D
  refine ⟨f, fd, ?_, m, F.kp, F.binds fun _ _ _ _ _ _ us hl => match us, hl with | [_, _], _ => rfl⟩
  refine F.ok scDark (fun vs H Q E h => by obtain ⟨a, r, s, l, rfl, _⟩ := h; rfl) (fun cdv A outer s H vs Q E hr h => ?_)
  refine ⟨_, pss_cons (ps_for PassesOwn.never rfl (pi_range1 rfl B.range (pa_cons (pe_callB call_len_seq (by rfl) B.len PySem.boot_len (pa_cons (pv 1) pa_nil)) pa_nil)) (pg_name (i := 2) scDark.nd rfl (Or.inl rfl))
      (pss_cons (ps_set (i := 3) scDark.nd rfl (Or.inl rfl) (pe_op op_modN (pe_op op_add (pv 2) pe_int) (pe_callB call_len_seq (by rfl) B.len PySem.boot_len (pa_cons (pv 1) pa_nil))))
      (pss_one (ps_if (PW.pt (pw_and (pt_cmpR op_eq (pe_ix ix_list (pe_fld (pv 0) rfl) (pe_ix ix_list (pv 1) (pv 2) (fun _ _ => rfl)) (fun _ _ => rfl)) pe_int (nomark _)) (pw_and1 (pt_cmpR op_eq (pe_ix ix_list (pe_fld (pv 0) rfl) (pe_ix ix_list (pv 1) (pv 3) (fun _ _ => rfl)) (fun _ _ => rfl)) pe_int (nomark _)))))
        (pss_one (ps_ret (pv 2))) pss_nil))))
    (pss_one (ps_ret pe_non)), ?_⟩
  obtain ⟨a, r, s, l, rfl, SR, hl, hR, k⟩ := h
  obtain ⟨⟨dx, fs, aw, ap, ak, h1, h2, h3, h4, h5, h6, h7⟩, r1, r2, r3⟩ := SR
  have hlen : (Z l).length = l.length := List.length_map ..
  have h10 := hR.few
  have dk : Mu33.dark s l = (List.range l.length).find? (darkAt s l) := rfl
  refine ⟨_, rfl, r, _, rfl, .inl hl, _, rfl, by rw [hlen]; omega, by rw [hlen]; omega, ?_⟩
  have e0 : (((Z l).length : Nat) : Int).toNat = l.length := by rw [hlen]; rfl
  rw [e0]
  refine for_range (lo := 0) (n := l.length) (fun i σ H' => H' = H ∧ (∀ j, j < i → darkAt s l j = false) ∧ ∃ v2 v3 : Option V, σ = [some (.ref a), some (.ref r), v2, v3]) ⟨rfl, fun j hj => absurd hj (by omega), none, none, rfl⟩ ?_ ?_
  · rintro i σ H' hi ⟨rfl, no, v2, v3, rfl⟩
    have hm : (i + 1) % l.length < l.length := Nat.mod_lt _ (by omega)
    have g1 := getD_at hi
    have g2 := getD_at hm
    have p1 := Pl_get (hR.there _ (List.mem_of_getElem? g1))
    have p2 := Pl_get (hR.there _ (List.mem_of_getElem? g2))
    refine ⟨_, rfl, _, _, rfl, rfl, _, rfl, r, _, rfl, .inl hl, _, _, rfl, rfl, by rw [hlen]; omega, ?_⟩
    have ei : (0 : Int) + (i : Int) = ((i : Nat) : Int) := by omega
    have eb : Int.fmod (0 + (i : Int) + 1) (((Z l).length : Nat) : Int) = (((i + 1) % l.length : Nat) : Int) := by
      rw [hlen, ei, ← fmod_nat]
      rfl
    refine ⟨_, rfl, a, C, dx, _, _, rfl, h1, T.cl, T.painted, h3, _, rfl, _, rfl, r, _, _, _, rfl, rfl, hl, at_of ei (Z_at g1), ap, _, _, _, rfl, rfl, SqL.of h6, atI_nat (Z_at p1), rfl, _, rfl, ?_⟩
    rw [b01_one]
    cases c1 : Mu33.painted s (l.getD i 0) with
    | false => exact iteF (iteF ⟨rfl, fun j hj => by
        by_cases e : j = i
        · subst e
          unfold darkAt
          rw [c1]
          rfl
        · exact no j (by omega), _, _, rfl⟩)
    | true =>
      refine iteT ⟨_, rfl, a, C, dx, _, _, rfl, h1, T.cl, T.painted, h3, _, rfl, _, rfl, r, _, _, _, rfl, rfl, hl, at_of eb (Z_at g2), ap, _, _, _, rfl, rfl, SqL.of h6, atI_nat (Z_at p2), rfl, _, rfl, ?_⟩
      rw [b01_one]
      cases c2 : Mu33.painted s (l.getD ((i + 1) % l.length) 0) with
      | false => exact iteF ⟨rfl, fun j hj => by
          by_cases e : j = i
          · subst e
            unfold darkAt
            rw [c2, Bool.and_false]
          · exact no j (by omega), _, _, rfl⟩
      | true =>
        refine iteT ⟨_, rfl, ?_⟩
        have e : Mu33.dark s l = some i := dk.trans (find_range_some hi (by unfold darkAt; rw [c1, c2]; rfl) no)
        rw [e] at k
        exact qeq (congrArg V.int ei) k
  · rintro σ H' ⟨rfl, no, v2, v3, rfl⟩
    have e : Mu33.dark s l = none := dk.trans (find_range_none no)
    rw [e] at k
    exact k
/-! ### short_sort -/
abbrev sShort : Stmt := top 29
abbrev NShort : List Str := ["shop", "ring", "sort", "there"]
theorem scShort : FnScope NShort ["shop", "ring"] (defScope sShort) := ⟨rfl, rfl, rfl, by decide +kernel, rfl, by decide +kernel, by decide +kernel⟩
def spShort (K : PySem.W.Frag) (C : Addr) : Sp := fun vs H Q _ => ∃ (a r : Addr) (s : Mu33.State) (l : List Nat), vs = [.ref a, .ref r] ∧ ShopR C H a s ∧ SqL K H r (Z l) ∧ RingOk s l ∧ ∀ H', Same H H' → Q (oV (Mu33.lacks s l)) H'
def lackAt (s : Mu33.State) (l : List Nat) (k : Nat) : Bool := decide (s.stock.getD k 0 < Mu33.count k l)
theorem count_ZI (l : List Nat) (k : Nat) : (ZI l).count (k : Int) = Mu33.count k l := by
  rw [count_eq]
  induction l with
  | nil => rfl
  | cons x l ih =>
    show ((x : Int) :: ZI l).count (k : Int) = (x :: l).count k
    rw [List.count_cons, List.count_cons, ih]
    congr 1
    by_cases c : x = k
    · subst c
      simp
    · have c' : ¬ (x : Int) = (k : Int) := by omega
      simp [c, c']
theorem cal_short (B : Bl mg) (T : Txs K C) (D : Df K mg "short_sort" sShort) : Cal P w K mg base 1 "short_sort" ["shop", "ring"] (spShort K C) := by
  obtain ⟨f, fd, F, m⟩ := D
  refine ⟨f, fd, ?_, m, F.kp, F.binds fun _ _ _ _ _ _ us hl => match us, hl with | [_, _], _ => rfl⟩
  refine F.ok scShort (fun vs H Q E h => by obtain ⟨a, r, s, l, rfl, _⟩ := h; rfl) (fun cdv A outer s H vs Q E hr h => ?_)
  refine ⟨_, pss_cons (ps_for PassesOwn.never rfl (pi_enum (by rfl) B.enumerate (pa_cons (pe_fld (pv 0) rfl) pa_nil)) (pg_tup rfl (pgs_cons (pg_name (i := 2) scShort.nd rfl (Or.inl rfl)) (pgs_cons (pg_name (i := 3) scShort.nd rfl (Or.inl rfl)) pgs_nil)))
      (pss_one (ps_if (pt_cmpR op_gt (pe_bm PySem.F.plainAttrs_list PySem.F.slot_list_count PySem.F.type_list_count mt_lcount (pv 1) (pa_cons (pv 2) pa_nil)) (pv 3) (nomark _)) (pss_one (ps_ret (pv 2))) pss_nil)))
    (pss_one (ps_ret pe_non)), ?_⟩
  obtain ⟨a, r, s, l, rfl, SR, hl, hR, k⟩ := h
  obtain ⟨⟨dx, fs, aw, ap, ak, h1, h2, h3, h4, h5, h6, h7⟩, r1, r2, r3⟩ := SR
  have hlen : (Z s.stock).length = s.sorts.length := by rw [List.length_map, r1]
  have lk : Mu33.lacks s l = (List.range s.sorts.length).find? (lackAt s l) := rfl
  refine ⟨_, rfl, a, C, dx, _, _, rfl, h1, T.cl, T.stock, h4, ak, _, rfl, SqL.of h7, for_it (walk_enum (K := K) (a := ak) (xs := Z s.stock)) (fun i σ H' => Same H H' ∧ (∀ j, j < i → lackAt s l j = false) ∧ ∃ v2 v3 : Option V, σ = [some (.ref a), some (.ref r), v2, v3]) ⟨Same.refl _, fun j hj => absurd hj (by omega), none, none, rfl⟩ ?_ ?_ ?_⟩
  · rintro i σ H' hi ⟨s1, _⟩
    exact SqL.of (s1 _ _ h7)
  · rintro i x σ H1 H2 hi ⟨s1, no, v2, v3, rfl⟩ ⟨t, y, z, rfl, ht, rfl, ey, ez⟩
    cases ey
    obtain ⟨q, hq, rfl⟩ := Z_get ez
    have s2 : Same H (upd H1 t (.tup [.int (i : Nat), .int q])) := s1.trans (same_upd ht)
    refine ⟨t, _, rfl, .inl (.inl upd_same), rfl, _, _, rfl, _, _, rfl, rfl, ?_⟩
    have hl2 := s2.seq hl
    refine ⟨_, rfl, .inl ⟨rfl, _, hl2⟩, _, rfl, r, ZI l, _, rfl, rfl, by rw [← Z_ZI]; exact hl2, _, rfl, _, _, rfl, rfl, _, rfl, ?_⟩
    have eq : s.stock.getD i 0 = q := by rw [List.getD_eq_getElem?_getD, hq]; rfl
    have ed : decide ((q : Int) < (((ZI l).count ((i : Nat) : Int) : Nat) : Int)) = lackAt s l i := by
      unfold lackAt
      rw [count_ZI, eq]
      exact decide_eq_decide.mpr (by omega)
    show if decide ((q : Int) < (((ZI l).count ((i : Nat) : Int) : Nat) : Int)) = true then _ else _
    rw [ed]
    cases c : lackAt s l i with
    | false => exact iteF ⟨s2, fun j hj => by
        by_cases e : j = i
        · subst e
          exact c
        · exact no j (by omega), _, _, rfl⟩
    | true =>
      refine iteT ⟨_, rfl, ?_⟩
      have e : Mu33.lacks s l = some i := lk.trans (find_range_some (by omega) c no)
      rw [e] at k
      exact k _ s2
  · rintro σ H' ⟨s1, no, v2, v3, rfl⟩
    rw [hlen] at no
    have e : Mu33.lacks s l = none := lk.trans (find_range_none no)
    rw [e] at k
    exact k _ s1
end
end LR

namespace LR
open PySem PySem.Spec PyProof.Rows L2
theorem cut_from (xs : List V) {k : Nat} (h : k ≤ xs.length) : cutV xs (some (k : Int)) none = xs.drop k := by
  unfold cutV
  rw [HT.sIx_nat]
  have e : HT.sIx xs.length xs.length none = xs.length := rfl
  rw [e, Nat.min_eq_left h]
  exact List.take_of_length_le (by rw [List.length_drop]; exact Nat.le_refl _)
theorem cut_to (xs : List V) {k : Nat} (h : k ≤ xs.length) : cutV xs none (some (k : Int)) = xs.take k := by
  unfold cutV
  rw [HT.sIx_nat]
  have e : HT.sIx xs.length 0 none = 0 := rfl
  rw [e, Nat.min_eq_left h, List.drop_zero, Nat.sub_zero]
theorem RowsAt.base {H0 H1 H : Hp} {as : List Addr} {rs : List (List Nat)} (x : RowsAt H1 H as rs) (k : Same H0 H1) : RowsAt H0 H as rs :=
  ⟨x.len, fun i a r h1 h2 => ⟨(x.at_ i a r h1 h2).1, k.free (x.at_ i a r h1 h2).2⟩⟩
section
variable {P : Program} {w : World} {K : PySem.W.Frag} {mg : Str → Option Value} {base : Heap} {C : Addr}
/-! ### may_be_set -/
abbrev sMayB : Stmt := top 30
theorem scMayB : FnScope ["shop", "girth", "ring"] ["shop", "girth", "ring"] (defScope sMayB) := ⟨rfl, rfl, rfl, by decide +kernel, rfl, by decide +kernel, by decide +kernel⟩
def spMayB (K : PySem.W.Frag) (C : Addr) : Sp := fun vs H Q _ => ∃ (a r : Addr) (s : Mu33.State) (g : Nat) (l : List Nat), vs = [.ref a, .int g, .ref r] ∧ ShopR C H a s ∧ SqL K H r (Z l) ∧ RingOk s l ∧ ∀ H', Same H H' → Q (.bl (Mu33.fits s g l)) H'
theorem oV_non (o : Option Nat) : decide (oV o = .non) = o.isNone := by
  cases o with
  | none => rfl
  | some i => exact decide_eq_false (fun z => by cases z)
theorem cal_mayB (D : Df K mg "may_be_set" sMayB) (c1 : Cal P w K mg base 1 "width_of" ["shop", "ring"] (spWidth K C)) (c2 : Cal P w K mg base 1 "dark_place" ["shop", "ring"] (spDark K C)) (c3 : Cal P w K mg base 1 "short_sort" ["shop", "ring"] (spShort K C)) :
    Cal P w K mg base 2 "may_be_set" ["shop", "girth", "ring"] (spMayB K C) := by
  obtain ⟨f, fd, F, m⟩ := D
  refine ⟨f, fd, ?_, m, F.kp, F.binds fun _ _ _ _ _ _ us hl => match us, hl with | [_, _, _], _ => rfl⟩
  refine F.ok scMayB (fun vs H Q E h => by obtain ⟨a, r, s, g, l, rfl, _⟩ := h; rfl) (fun cdv A outer s H vs Q E hr h => ?_)
  refine ⟨_, pss_cons (ps_if (pt_cmpR op_ne (pe_cal c1 hr rfl (pa_cons (pv 0) (pa_cons (pv 2) pa_nil))) (pv 1) (nomark _)) (pss_one (ps_ret pe_bl)) pss_nil)
    (pss_one (ps_ret (pe_and (pe_cmp (pc_isN (pe_cal c2 hr rfl (pa_cons (pv 0) (pa_cons (pv 2) pa_nil)))) rfl) (pe_one (pe_cmp (pc_isN (pe_cal c3 hr rfl (pa_cons (pv 0) (pa_cons (pv 2) pa_nil)))) rfl))))), ?_⟩
  obtain ⟨a, r, s, g, l, rfl, SR, hl, hR, k⟩ := h
  refine ⟨_, rfl, _, rfl, a, r, s, l, rfl, SR, hl, hR, fun H1 s1 => ⟨_, rfl, rfl, _, rfl, ?_⟩⟩
  by_cases c : Mu33.weight s l = g
  · have e : decide (V.int ((Mu33.weight s l : Nat) : Int) = V.int (g : Int)) = true := by rw [c]; exact decide_eq_true rfl
    rw [e]
    refine iteF ⟨_, rfl, _, rfl, a, r, s, l, rfl, SR.same s1, s1.seq hl, hR, ?_⟩
    refine ⟨(Mu33.dark s l).isNone, congrArg V.bl (oV_non _), ?_⟩
    cases d : Mu33.dark s l with
    | some i =>
      refine iteF ?_
      have e2 : Mu33.fits s g l = false := by
        cases q : Mu33.fits s g l with
        | false => rfl
        | true =>
          rw [(fits_iff.mp q).2.1] at d
          cases d
      rw [e2] at k
      exact k H1 s1
    | none =>
      refine iteT ⟨_, rfl, _, rfl, a, r, s, l, rfl, SR.same s1, s1.seq hl, hR, fun H2 s2 => ?_⟩
      have e2 : Mu33.fits s g l = (Mu33.lacks s l).isNone := by
        unfold Mu33.fits
        rw [c, d]
        simp
      exact qeq (congrArg V.bl ((oV_non _).trans e2.symm)) (k H2 (s1.trans s2))
  · have e : decide (V.int ((Mu33.weight s l : Nat) : Int) = V.int (g : Int)) = false := decide_eq_false fun z => by
      injection z with z
      omega
    rw [e]
    refine iteT ?_
    have e2 : Mu33.fits s g l = false := by
      cases q : Mu33.fits s g l with
      | false => rfl
      | true => exact absurd (fits_iff.mp q).1 c
    rw [e2] at k
    exact k H1 s1
/-! ### spellings -/
abbrev sSpell : Stmt := top 26
abbrev NSpell : List Str := ["ring", "rows", "way", "start"]
theorem scSpell : FnScope NSpell ["ring"] (defScope sSpell) := ⟨rfl, rfl, rfl, by decide +kernel, rfl, by decide +kernel, by decide +kernel⟩
def spSpell (K : PySem.W.Frag) : Sp := fun vs H Q _ => ∃ (r : Addr) (l : List Nat), vs = [.ref r] ∧ SqL K H r (Z l) ∧ l.length ≤ 10 ∧
  ∀ (H' : Hp) (p : Addr) (as : List Addr), Same H H' → H p = none → H' p = some (.lst (RF as)) → RowsAt H H' as (Mu33.spellings l) → Q (.ref p) H'
def turnK (l : List Nat) (i : Nat) : List Nat := l.drop i ++ l.take i
theorem cal_spell (B : Bl mg) (D : Df K mg "spellings" sSpell) : Cal P w K mg base 1 "spellings" ["ring"] (spSpell K) := by
  obtain ⟨f, fd, F, m⟩ := D
  refine ⟨f, fd, ?_, m, F.kp, F.binds fun _ _ _ _ _ _ us hl => match us, hl with | [_], _ => rfl⟩
  refine F.ok scSpell (fun vs H Q E h => by obtain ⟨r, l, rfl, _⟩ := h; rfl) (fun cdv A outer s H vs Q E hr h => ?_)
  refine ⟨_, pss_cons (ps_set (i := 1) scSpell.nd rfl (Or.inl rfl) (pe_lst pa_nil))
    (pss_cons (ps_for PassesOwn.never rfl (pi_tup (pe_tup (pa_cons (pv 0) (pa_cons (pe_lstRev rfl rfl B.list rfl B.reversed (pv 0)) pa_nil)))) (pg_name (i := 2) scSpell.nd rfl (Or.inl rfl))
      (pss_one (ps_for PassesOwn.never rfl (pi_range1 rfl B.range (pa_cons (pe_callB call_len_seq (by rfl) B.len PySem.boot_len (pa_cons (pv 2) pa_nil)) pa_nil)) (pg_name (i := 3) scSpell.nd rfl (Or.inl rfl))
        (pss_one (ps_expr (pe_bm PySem.F.plainAttrs_list PySem.F.slot_list_append PySem.F.type_list_append mt_append (pv 1) (pa_cons (pe_op op_cat (pe_slice sl_list (pv 2) (po_some (pv 3)) po_none) (pe_slice sl_list (pv 2) po_none (po_some (pv 3)))) pa_nil)))))))
    (pss_one (ps_ret (pv 1)))), ?_⟩
  obtain ⟨r, l, rfl, hl, h10, k⟩ := h
  refine ⟨by decide, fun p hp => ⟨_, rfl, _, rfl, r, _, rfl, (same_upd hp).seq hl, fun q hq => ⟨by show 2 ≤ sizeLine; decide, fun t ht => ⟨t, rfl, ⟨_, .inl (.inl upd_same)⟩, ?_⟩⟩⟩⟩
  have npq : p ≠ q := ne_of_none (upd_same (H := H) (a := p)) hq
  have hq0 : H q = none := (same_upd hp).free hq
  have hH2 : Same H (upd (upd (upd H p (.lst [])) q (.lst (Z l).reverse)) t (.tup [.ref r, .ref q])) := ((same_upd hp).trans (same_upd hq)).trans (same_upd ht)
  have ntp : t ≠ p := fun z => by
    rw [z, upd_ne npq, upd_same] at ht
    cases ht
  have ntq : t ≠ q := fun z => by
    rw [z, upd_same] at ht
    cases ht
  have hp2 : (upd (upd (upd H p (.lst [])) q (.lst (Z l).reverse)) t (.tup [.ref r, .ref q])) p = some (.lst []) := by
    rw [upd_ne (Ne.symm ntp), upd_ne npq, upd_same]
  have hq2 : (upd (upd (upd H p (.lst [])) q (.lst (Z l).reverse)) t (.tup [.ref r, .ref q])) q = some (.lst (Z l.reverse)) := by
    rw [upd_ne (Ne.symm ntq), upd_same]
    simp [Z]
  have ht2 : (upd (upd (upd H p (.lst [])) q (.lst (Z l).reverse)) t (.tup [.ref r, .ref q])) t = some (.tup [.ref r, .ref q]) := upd_same
  generalize upd (upd (upd H p (.lst [])) q (.lst (Z l).reverse)) t (.tup [.ref r, .ref q]) = H2 at hH2 hp2 hq2 ht2
  -- all but the list at p stay
  refine for_tup (K := K) (a := t) (xs := [.ref r, .ref q]) (fun j σ H3 => ∃ (as : List Addr) (v2 v3 : Option V), σ = [some (.ref r), some (.ref p), v2, v3] ∧ (∀ b o, b ≠ p → H2 b = some o → H3 b = some o) ∧ H3 p = some (.lst (RF as)) ∧ (∀ b ∈ as, b ≠ p) ∧
      RowsAt H H3 as (([l, l.reverse].take j).flatMap Mu33.turned)) ⟨[], none, none, rfl, fun b o _ e => e, hp2, fun b z => absurd z (by simp), by simpa using RowsAt.nil⟩ ?_ ?_ ?_
  · rintro j σ H3 hj ⟨as, v2, v3, rfl, kp, _⟩
    exact .inl (.inl (kp t _ ntp ht2))
  · rintro j x σ H3 hx ⟨as, v2, v3, rfl, kp, hp3, na, RA⟩
    obtain ⟨b, wl, eb, ew, wlen, hb⟩ : ∃ (b : Addr) (wl : List Nat), x = .ref b ∧ [l, l.reverse][j]? = some wl ∧ wl.length = l.length ∧ ∀ H4 : Hp, (∀ b o, b ≠ p → H2 b = some o → H4 b = some o) → SqL K H4 b (Z wl) := by
      match j, hx with
      | 0, hx =>
        simp at hx
        refine ⟨r, l, hx.symm, rfl, rfl, fun H4 k4 => ?_⟩
        have hl2 := hH2.seq hl
        have nrp : ∀ o, H r = some o → r ≠ p := fun o e z => by rw [z, hp] at e; cases e
        rcases hl with (hl | ⟨o, hl⟩) | hl
        · exact .inl (.inl (k4 r _ (nrp _ hl) (hH2 _ _ hl)))
        · exact .inl (.inr ⟨o, k4 r _ (nrp _ hl) (hH2 _ _ hl)⟩)
        · exact .inr hl
      | 1, hx =>
        simp at hx
        exact ⟨q, l.reverse, hx.symm, rfl, List.length_reverse, fun H4 k4 => SqL.of (k4 q _ (Ne.symm npq) hq2)⟩
      | j + 2, hx => simp at hx
    subst eb
    have zlen : (Z wl).length = wl.length := List.length_map ..
    refine ⟨_, rfl, b, _, rfl, .inl (hb H3 kp), _, rfl, by rw [zlen]; omega, by rw [zlen]; omega, ?_⟩
    have e0 : (((Z wl).length : Nat) : Int).toNat = wl.length := by rw [zlen]; rfl
    rw [e0]
    refine for_range (lo := 0) (n := wl.length) (fun i σ H4 => ∃ (as : List Addr) (v3 : Option V), σ = [some (.ref r), some (.ref p), some (.ref b), v3] ∧ (∀ b o, b ≠ p → H2 b = some o → H4 b = some o) ∧ H4 p = some (.lst (RF as)) ∧ (∀ b ∈ as, b ≠ p) ∧
        RowsAt H H4 as ((([l, l.reverse].take j).flatMap Mu33.turned) ++ (List.range i).map (turnK wl))) ⟨as, v3, rfl, kp, hp3, na, by simpa using RA⟩ ?_ ?_
    · rintro i σ H4 hi ⟨as, v3, rfl, kp4, hp4, na4, RA4⟩
      have ei : (0 : Int) + (i : Int) = ((i : Nat) : Int) := by omega
      refine ⟨_, rfl, .inl ⟨rfl, _, SqL.of hp4⟩, _, rfl, _, rfl, _, rfl, b, _, rfl, hb H4 kp4, fun u hu => ⟨_, rfl, _, rfl, _, rfl, b, _, rfl, (same_upd hu).seq (hb H4 kp4), fun y hy => ?_⟩⟩
      rw [ei] at hy ⊢
      rw [cut_from (Z wl) (by rw [zlen]; omega)] at hy ⊢
      rw [cut_to (Z wl) (by rw [zlen]; omega)]
      have nuy : u ≠ y := ne_of_none (upd_same (H := H4) (a := u)) hy
      refine ⟨u, y, _, _, rfl, rfl, (by rw [upd_ne nuy]; exact upd_same), upd_same, ?_, fun x hx => ?_⟩
      · rw [List.length_drop, List.length_take, zlen, sizeLine_eq]
        omega
      have sA : Same H4 (upd (upd (upd H4 u (.lst ((Z wl).drop i))) y (.lst ((Z wl).take i))) x (.lst ((Z wl).drop i ++ (Z wl).take i))) := ((same_upd hu).trans (same_upd hy)).trans (same_upd hx)
      have hxx : (upd (upd (upd H4 u (.lst ((Z wl).drop i))) y (.lst ((Z wl).take i))) x (.lst ((Z wl).drop i ++ (Z wl).take i))) x = some (.lst ((Z wl).drop i ++ (Z wl).take i)) := upd_same
      have hx4 : H4 x = none := ((same_upd hu).trans (same_upd hy)).free hx
      have nxp : x ≠ p := fun z => by rw [z, hp4] at hx4; cases hx4
      have hx0 : H x = none := by
        cases z : H x with
        | none => rfl
        | some o =>
          rw [kp4 x o nxp (hH2 _ _ z)] at hx4
          cases hx4
      generalize upd (upd (upd H4 u (.lst ((Z wl).drop i))) y (.lst ((Z wl).take i))) x (.lst ((Z wl).drop i ++ (Z wl).take i)) = H5 at sA hxx
      have alen : as.length ≤ 40 := by
        rw [RA4.len, List.length_append, List.length_map, List.length_range, List.length_flatMap]
        have z : (([l, l.reverse].take j).map fun a => (Mu33.turned a).length).sum ≤ 20 := by
          match j with
          | 0 => simp
          | 1 => simp [Mu33.turned]; omega
          | j + 2 => simp [Mu33.turned]; omega
        omega
      refine ⟨p, _, _, rfl, rfl, sA _ _ hp4, by rw [List.length_map, sizeLine_eq]; omega, as ++ [x], some (.int (i : Nat)), rfl, fun c o nc e => ?_, ?_, fun c hc => ?_, ?_⟩
      · rw [upd_ne nc]
        exact sA _ _ (kp4 c o nc e)
      · rw [upd_same]
        simp
      · rcases List.mem_append.mp hc with hc | hc
        · exact na4 c hc
        · rw [List.mem_singleton.mp hc]
          exact nxp
      · have RC := RA4.mono (H' := upd H5 p (.lst (RF as ++ [.ref x]))) fun c hc o e => by
          rw [upd_ne (na4 c hc)]
          exact sA _ _ e
        have e9 : (([l, l.reverse].take j).flatMap Mu33.turned) ++ (List.range (i + 1)).map (turnK wl) = ((([l, l.reverse].take j).flatMap Mu33.turned) ++ (List.range i).map (turnK wl)) ++ [turnK wl i] := by
          rw [List.range_succ, List.map_append, List.append_assoc]
          rfl
        rw [e9]
        refine RC.snoc ?_ hx0
        rw [upd_ne nxp, hxx]
        simp [turnK, Z]
    · rintro σ H4 ⟨as, v3, rfl, kp4, hp4, na4, RA4⟩
      refine ⟨as, some (.ref b), v3, rfl, kp4, hp4, na4, ?_⟩
      rw [flatMap_take_more _ ew]
      exact RA4
  · rintro σ H3 ⟨as, v2, v3, rfl, kp, hp3, na, RA⟩
    refine ⟨_, rfl, k H3 p as (fun c o e => kp c o (fun z => by rw [z, hp] at e; cases e) (hH2 _ _ e)) hp hp3 ?_⟩
    have e : ([l, l.reverse].take [V.ref r, V.ref q].length).flatMap Mu33.turned = Mu33.spellings l := by
      simp [Mu33.spellings]
    rw [e] at RA
    exact RA
end
end LR

namespace LR
open PySem PySem.Spec PyProof.Rows L2
/-! ### rows as data -/
def dRow (l : List Nat) : PyData := .list (l.map fun (n : Nat) => .int n)
theorem dRow_dp {K : PySem.W.Frag} {H : Hp} : ∀ l : List Nat, DpAll K H (Z l) (l.map fun (n : Nat) => .int n)
  | [] => .nil
  | n :: l => .cons (.int n) (dRow_dp l)
theorem dp_row {K : PySem.W.Frag} {H : Hp} {a : Addr} {l : List Nat} (h : SqL K H a (Z l)) : Dp K H (.ref a) (dRow l) := .lst h (dRow_dp l)
theorem RowsAt.tail {H0 H : Hp} {a : Addr} {as : List Addr} {r : List Nat} {rs : List (List Nat)} (x : RowsAt H0 H (a :: as) (r :: rs)) : RowsAt H0 H as rs :=
  ⟨by simpa using x.len, fun i b q h1 h2 => x.at_ (i + 1) b q (by simpa using h1) (by simpa using h2)⟩
theorem dpAll_rows {K : PySem.W.Frag} {H0 H : Hp} : ∀ {as : List Addr} {rs : List (List Nat)}, RowsAt H0 H as rs → DpAll K H (RF as) (rs.map dRow)
  | [], [], _ => .nil
  | [], _ :: _, x => by simpa using x.len
  | _ :: _, [], x => by simpa using x.len
  | a :: as, r :: rs, x => .cons (dp_row (SqL.of (x.at_ 0 a r rfl rfl).1)) (dpAll_rows x.tail)
theorem alike_ints : ∀ a b : List Nat, PySem.W.alikeAll (a.map fun (n : Nat) => PyData.int n) (b.map fun (n : Nat) => PyData.int n) = true
  | [], b => by cases b <;> rfl
  | x :: a, [] => rfl
  | x :: a, y :: b => by
    show (PySem.W.alike (.int x) (.int y) && PySem.W.alikeAll (a.map fun (n : Nat) => PyData.int n) (b.map fun (n : Nat) => PyData.int n)) = true
    rw [alike_ints a b]
    rfl
theorem alike_rows (rs : List (List Nat)) : PySem.W.AlikeAll (rs.map dRow) := by
  refine ⟨fun x hx y hy => ?_, fun x hx z => ?_⟩
  · obtain ⟨a, _, rfl⟩ := List.mem_map.mp hx
    obtain ⟨b, _, rfl⟩ := List.mem_map.mp hy
    exact alike_ints a b
  · obtain ⟨a, _, rfl⟩ := List.mem_map.mp hx
    cases z
theorem depth_ints : ∀ l : List Nat, PyData.depthAll (l.map fun (n : Nat) => PyData.int n) = 0
  | [] => rfl
  | x :: l => by
    show max 0 (PyData.depthAll (l.map fun (n : Nat) => PyData.int n)) = 0
    rw [depth_ints l]
    rfl
theorem depth_row (l : List Nat) : (dRow l).depth = 1 := by
  show PyData.depthAll (l.map fun (n : Nat) => PyData.int n) + 1 = 1
  rw [depth_ints]
theorem depth_rows : ∀ rs : List (List Nat), PyData.depthAll (rs.map dRow) ≤ 1
  | [] => by show 0 ≤ 1; decide
  | r :: rs => by
    show max (dRow r).depth (PyData.depthAll (rs.map dRow)) ≤ 1
    rw [depth_row]
    have := depth_rows rs
    omega
theorem lex_rows : ∀ {a b : List Nat}, a.length = b.length →
    PyProof.Rows.lexLt PyProof.Rows.itemOrd (PySem.W.keyToksAll (a.map fun (n : Nat) => PyData.int n)) (PySem.W.keyToksAll (b.map fun (n : Nat) => PyData.int n)) = Mu33.before a b
  | [], [], _ => rfl
  | [], _ :: _, h => by simp at h
  | _ :: _, [], h => by simp at h
  | x :: a, y :: b, h => by
    have ih := lex_rows (a := a) (b := b) (by simpa using h)
    show ((false : Bool) || (!false && (decide ((x : Int) < y) || (!decide ((y : Int) < x) && PyProof.Rows.lexLt PyProof.Rows.itemOrd (PySem.W.keyToksAll (a.map fun (n : Nat) => PyData.int n)) (PySem.W.keyToksAll (b.map fun (n : Nat) => PyData.int n)))))) = (decide (x < y) || (x == y && Mu33.before a b))
    rw [ih]
    by_cases c1 : x < y
    · have c1' : (x : Int) < y := by omega
      simp [c1, c1']
    · have c1' : ¬ (x : Int) < y := by omega
      by_cases c2 : y < x
      · have c2' : (y : Int) < x := by omega
        have c3 : ¬ x = y := by omega
        simp [c1, c2, c3]
      · have c2' : ¬ (y : Int) < x := by omega
        have c3 : x = y := by omega
        simp [c1, c2, c3]
theorem lt_rows {a b : List Nat} (h : a.length = b.length) : PySem.W.dataLt (dRow a) (dRow b) = Mu33.before a b := by
  unfold dRow
  rw [PySem.W.dataLt_list]
  exact lex_rows h
theorem minD_rows : ∀ (xs : List (List Nat)) (x : List Nat), (∀ y ∈ xs, y.length = x.length) → PySem.W.minD (dRow x) (xs.map dRow) = dRow (mn x xs)
  | [], x, _ => rfl
  | y :: xs, x, h => by
    have hy := h y List.mem_cons_self
    show (xs.map dRow).foldl (fun a y => if PySem.W.dataLt y a = true then y else a) (if PySem.W.dataLt (dRow y) (dRow x) = true then dRow y else dRow x) = dRow (mn (if Mu33.before y x = true then y else x) xs)
    rw [lt_rows hy]
    by_cases c : Mu33.before y x = true
    · rw [if_pos c, if_pos c]
      exact minD_rows xs y fun z hz => by rw [h z (List.mem_cons_of_mem _ hz), hy]
    · rw [if_neg c, if_neg c]
      exact minD_rows xs x fun z hz => h z (List.mem_cons_of_mem _ hz)
theorem eqv_ints : ∀ a b : List Nat, PyData.eqvAll (a.map fun (n : Nat) => PyData.int n) (b.map fun (n : Nat) => PyData.int n) = decide (a = b)
  | [], [] => rfl
  | [], _ :: _ => rfl
  | _ :: _, [] => rfl
  | x :: a, y :: b => by
    show ((x : Int) == (y : Int) && PyData.eqvAll (a.map fun (n : Nat) => PyData.int n) (b.map fun (n : Nat) => PyData.int n)) = decide (x :: a = y :: b)
    rw [eqv_ints a b]
    by_cases c : x = y
    · subst c
      simp
    · have c' : ¬ (x : Int) = (y : Int) := by omega
      simp [c, c']
theorem eqv_rows (a b : List Nat) : PyData.eqv (dRow a) (dRow b) = decide (a = b) := eqv_ints a b
theorem lay_ints : ∀ l : List Nat, PyData.canLayAll0 (l.map fun (n : Nat) => PyData.int n) = true
  | [] => rfl
  | x :: l => by
    show (PyData.canLay0 (.int x) && PyData.canLayAll0 (l.map fun (n : Nat) => PyData.int n)) = true
    rw [lay_ints l]
    rfl
theorem shaped_row (l : List Nat) : SeqAt.shaped (dRow l) = true := by
  unfold SeqAt.shaped
  rw [depth_row]
  have e : PyData.canLay0 (dRow l) = true := lay_ints l
  rw [e]
  rfl
theorem lay_rows : ∀ rs : List (List Nat), PyData.canLayAll0 (rs.map dRow) = true
  | [] => rfl
  | r :: rs => by
    have e : PyData.canLay0 (dRow r) = true := lay_ints r
    show (PyData.canLay0 (dRow r) && PyData.canLayAll0 (rs.map dRow)) = true
    rw [lay_rows rs, e]
    rfl
theorem shaped_rows (rs : List (List Nat)) : SeqAt.shaped (.list (rs.map dRow)) = true := by
  unfold SeqAt.shaped
  have e : PyData.canLay0 (.list (rs.map dRow)) = true := lay_rows rs
  have d : (PyData.list (rs.map dRow)).depth ≤ 64 := by
    show PyData.depthAll (rs.map dRow) + 1 ≤ 64
    have := depth_rows rs
    omega
  rw [e, decide_eq_true d]
  rfl
end LR

namespace LR
open PySem PySem.Spec PyProof.Rows L2
theorem filter_take_more {α : Type} {l : List α} {i : Nat} {x : α} (p : α → Bool) (h : l[i]? = some x) : (l.take (i + 1)).filter p = (l.take i).filter p ++ (if p x = true then [x] else []) := by
  rw [take_more h, List.filter_append]
  by_cases c : p x = true
  · simp [c]
  · simp [c]
section
variable {P : Program} {w : World} {K : PySem.W.Frag} {mg : Str → Option Value} {base : Heap} {C : Addr}
/-! ### rings_to_set -/
abbrev sRings : Stmt := top 31
abbrev NRings : List Str := ["shop", "girth", "panes", "rings", "row"]
theorem scRings : FnScope NRings ["shop", "girth", "panes"] (defScope sRings) := ⟨rfl, rfl, rfl, by decide +kernel, rfl, by decide +kernel, by decide +kernel⟩
def spRings (C : Addr) : Sp := fun vs H Q _ => ∃ (a : Addr) (s : Mu33.State) (g n : Nat), vs = [.ref a, .int g, .int n] ∧ ShopR C H a s ∧ 3 ≤ n ∧ n ≤ 6 ∧
  ∀ (H' : Hp) (p : Addr) (as : List Addr), Same H H' → H p = none → H' p = some (.lst (RF as)) → RowsAt H H' as (Mu33.rings s g n) → Q (.ref p) H'
theorem told_first {l : List Nat} (h : Mu33.isTold l = true) {m : Int} (hm : m ∈ ZI l) (hle : ∀ y, y ∈ ZI l → m ≤ y) {x : Nat} (hx : l[0]? = some x) : (x : Int) = m := by
  obtain ⟨k, hk, rfl⟩ := List.mem_map.mp hm
  obtain ⟨i, hi⟩ := List.getElem?_of_mem hk
  have hlt : i < l.length := (List.getElem?_eq_some_iff.mp hi).1
  have h1 := told_head hlt h
  have e0 : l.getD 0 0 = x := by rw [List.getD_eq_getElem?_getD, hx]; rfl
  have ei : l.getD i 0 = k := by rw [List.getD_eq_getElem?_getD, hi]; rfl
  have h2 := hle (x : Int) (List.mem_map.mpr ⟨x, List.mem_of_getElem? hx, rfl⟩)
  rw [e0, ei] at h1
  omega
theorem cal_rings (B : Bl mg) (T : Txs K C) (D : Df K mg "rings_to_set" sRings) (c1 : Cal P w K mg base 1 "all_rows" ["below", "length"] spRows) (c2 : Cal P w K mg base 2 "may_be_set" ["shop", "girth", "ring"] (spMayB K C)) (c3 : Cal P w K mg base 1 "spellings" ["ring"] (spSpell K)) :
    Cal P w K mg base 3 "rings_to_set" ["shop", "girth", "panes"] (spRings C) := by
  obtain ⟨f, fd, F, m⟩ := D
  refine ⟨f, fd, ?_, m, F.kp, F.binds fun _ _ _ _ _ _ us hl => match us, hl with | [_, _, _], _ => rfl⟩
  refine F.ok scRings (fun vs H Q E h => by obtain ⟨a, s, g, n, rfl, _⟩ := h; rfl) (fun cdv A outer s H vs Q E hr h => ?_)
  have hr1 : Room 1 (A.deeper (envOfC "rings_to_set" (defScope sRings) s.heap.objs.size f cdv)) := hr.mono (by decide)
  refine ⟨_, pss_cons (ps_set (i := 3) scRings.nd rfl (Or.inl rfl) (pe_lst pa_nil))
    (pss_cons (ps_for PassesOwn.never rfl (pi_list (pe_cal c1 hr1 rfl (pa_cons (pe_callB call_len_seq (by rfl) B.len PySem.boot_len (pa_cons (pe_fld (pv 0) rfl) pa_nil)) (pa_cons (pv 2) pa_nil)))) (pg_name (i := 4) scRings.nd rfl (Or.inl rfl))
      (pss_one (ps_if (PW.pt (pw_and (pt_cmpR op_eq (pe_ix ix_list (pv 4) pe_int (fun _ _ => rfl)) (pe_callB (cr_min rfl) (by rfl) B.min (by decide +kernel) (pa_cons (pv 4) pa_nil)) (nomark _))
          (pw_and (pt_val (pe_cal c2 hr rfl (pa_cons (pv 0) (pa_cons (pv 1) (pa_cons (pv 4) pa_nil)))))
          (pw_and1 (pt_cmpR (op_eqD hr.units) (pv 4) (pe_callB (cr_minD rfl hr.units) (by rfl) B.min (by decide +kernel) (pa_cons (pe_cal c3 hr1 rfl (pa_cons (pv 4) pa_nil)) pa_nil)) (nomark _))))))
        (pss_one (ps_expr (pe_bm PySem.F.plainAttrs_list PySem.F.slot_list_append PySem.F.type_list_append mt_append (pv 3) (pa_cons (pv 4) pa_nil)))) pss_nil)))
    (pss_one (ps_ret (pv 3)))), ?_⟩
  obtain ⟨a, s, g, n, rfl, SR, hn3, hn6, k⟩ := h
  obtain ⟨dx, fs, aw, ap, ak, h1, h2, h3, h4, h5, h6, h7⟩ := SR.ex
  refine ⟨by decide, fun p hp => ?_⟩
  have s0 := same_upd (o := .lst []) hp
  have wl : (Z (Wl s)).length = s.sorts.length := by simp [Wl]
  refine ⟨_, rfl, a, C, dx, _, _, rfl, s0 _ _ h1, T.cl, T.widths, h2, aw, _, rfl, .inl (SqL.of (s0 _ _ h5)), _, rfl, s.sorts.length, n, by rw [wl]; rfl, by have := SR.few; omega, hn6, fun H1 pr as s1 hpr hpr1 R1 => ⟨pr, rfl, ⟨_, SqL.of hpr1⟩, ?_⟩⟩
  have hp0 : (upd H p (.lst [])) p = some (.lst []) := upd_same
  have npr : pr ≠ p := fun z => by rw [z, hp0] at hpr; cases hpr
  have nas : ∀ b ∈ as, b ≠ p := fun b hb z => by
    obtain ⟨_, _, _, e⟩ := R1.some_at hb
    rw [z, hp0] at e
    cases e
  have R1' : RowsAt H H1 as (Mu33.rows s.sorts.length n) := R1.base s0
  have smallN : (Mu33.rows s.sorts.length n).length ≤ 262144 := rows_small (by have := SR.few; omega) hn6
  refine for_list (K := K) (a := pr) (xs := RF as) (fun i σ H2 => ∃ (cs : List Addr) (v4 : Option V), σ = [some (.ref a), some (.int g), some (.int n), some (.ref p), v4] ∧ (∀ b o, b ≠ p → H1 b = some o → H2 b = some o) ∧ H2 p = some (.lst (RF cs)) ∧ (∀ b ∈ cs, b ≠ p) ∧
      RowsAt H H2 cs (((Mu33.rows s.sorts.length n).take i).filter fun l => Mu33.fits s g l && Mu33.isTold l)) ⟨[], none, rfl, fun b o _ e => e, s1 _ _ hp0, fun b z => absurd z (by simp), by simpa using RowsAt.nil⟩ ?_ ?_ ?_
  · rintro i σ H2 hi ⟨cs, v4, rfl, kp, _⟩
    exact SqL.of (kp pr _ npr hpr1)
  · rintro i x σ H2 hx ⟨cs, v4, rfl, kp, hp2, nc, RC⟩
    obtain ⟨b, hb, rfl⟩ := RF_get hx
    obtain ⟨l, hl, hl1, hl0⟩ := R1'.get hb
    have nb := nas b (List.mem_of_getElem? hb)
    obtain ⟨llen, lth⟩ := rows_mem (List.mem_of_getElem? hl)
    have sH2 : Same H H2 := fun c o e => kp c o (fun z => by rw [z, hp] at e; cases e) (s1 _ _ (s0 _ _ e))
    have hlb : SqL K H2 b (Z l) := SqL.of (kp b _ nb hl1)
    have hR : RingOk s l := ⟨by omega, lth⟩
    obtain ⟨x0, hx0⟩ : ∃ x0, l[0]? = some x0 := ⟨l[0]'(by omega), List.getElem?_eq_getElem (by omega)⟩
    have iN := filter_take_more (fun l => Mu33.fits s g l && Mu33.isTold l) hl
    -- the row is left out, the heap may have grown
    have out : ∀ H3 : Hp, Same H2 H3 → (Mu33.fits s g l && Mu33.isTold l) = false → ∃ (cs : List Addr) (v4 : Option V), [some (V.ref a), some (.int g), some (.int n), some (.ref p), some (.ref b)] = [some (V.ref a), some (.int g), some (.int n), some (.ref p), v4] ∧ (∀ b o, b ≠ p → H1 b = some o → H3 b = some o) ∧ H3 p = some (.lst (RF cs)) ∧ (∀ b ∈ cs, b ≠ p) ∧
        RowsAt H H3 cs (((Mu33.rows s.sorts.length n).take (i + 1)).filter fun l => Mu33.fits s g l && Mu33.isTold l) := fun H3 s3 hf => by
      refine ⟨cs, _, rfl, fun c o hc e => s3 _ _ (kp c o hc e), s3 _ _ hp2, nc, ?_⟩
      rw [iN, hf]
      simpa using RC.mono fun c _ o e => s3 _ _ e
    refine ⟨_, rfl, b, _, _, _, rfl, rfl, hlb, at_of (j := 0) rfl (Z_at hx0), _, rfl, b, ZI l, rfl, by rw [← Z_ZI]; exact hlb, by simp; omega, fun mm hm hle => ⟨rfl, _, rfl, ?_⟩⟩
    by_cases c0 : (x0 : Int) = mm
    · rw [decide_eq_true (show V.int (x0 : Int) = V.int mm by rw [c0])]
      refine iteT ⟨_, rfl, _, rfl, _, rfl, a, b, s, g, l, rfl, SR.same sH2, hlb, hR, fun H3 s3 => ⟨_, rfl, ?_⟩⟩
      cases cf : Mu33.fits s g l with
      | false => exact iteF (iteF (out H3 s3 (by rw [cf]; rfl)))
      | true =>
        refine iteT ⟨_, rfl, _, rfl, b, l, rfl, s3.seq hlb, by omega, fun H4 q ws s4 hq hq1 RW => ?_⟩
        have self := spell_self (l := l) (by omega)
        cases hsp : Mu33.spellings l with
        | nil =>
          rw [hsp] at self
          cases self
        | cons y0 ys =>
          rw [hsp] at RW
          have same_len : ∀ y ∈ ys, y.length = y0.length := fun y hy => by
            rw [spell_len (l := l) (x := y) (by rw [hsp]; exact List.mem_cons_of_mem _ hy), spell_len (l := l) (x := y0) (by rw [hsp]; exact List.mem_cons_self)]
          have dpa := dpAll_rows (K := K) RW
          refine ⟨q, RF ws, dRow y0, ys.map dRow, rfl, SqL.of hq1, dpa, alike_rows (y0 :: ys), Nat.le_trans (depth_rows (y0 :: ys)) (by decide), fun j xj hxj hdj => ?_⟩
          obtain ⟨wa, hwa, rfl⟩ := RF_get hxj
          obtain ⟨rj, hrj, hrj1, _⟩ := RW.get hwa
          rw [minD_rows ys y0 same_len] at hdj
          have erj : rj = mn y0 ys := by
            have e1 : ((y0 :: ys).map dRow)[j]? = some (dRow rj) := by rw [List.getElem?_map, hrj]; rfl
            have e2 : ((y0 :: ys).map dRow)[j]? = some (dRow (mn y0 ys)) := hdj
            rw [e1] at e2
            have e3 := eqv_rows rj (mn y0 ys)
            rw [Option.some.inj e2, eqv_rows] at e3
            simpa using e3
          subst erj
          refine ⟨dRow l, dRow (mn y0 ys), dp_row ((s3.trans s4).seq hlb), dp_row (SqL.of hrj1), shaped_row _, shaped_row _, _, rfl, ?_⟩
          rw [eqv_rows]
          have ti := told_iff (l := l) (by omega) hsp
          by_cases ct : l = mn y0 ys
          · rw [decide_eq_true ct]
            have ht := ti.mpr ct
            have s24 := s3.trans s4
            refine iteT ⟨_, rfl, .inl ⟨rfl, _, SqL.of (s24 _ _ hp2)⟩, _, rfl, p, _, _, rfl, rfl, s24 _ _ hp2, ?_, cs ++ [b], _, rfl, fun c o hc e => ?_, ?_, fun c hc => ?_, ?_⟩
            · rw [List.length_map, RC.len, sizeLine_eq]
              have z := List.length_filter_le (fun l => Mu33.fits s g l && Mu33.isTold l) ((Mu33.rows s.sorts.length n).take i)
              rw [List.length_take] at z
              omega
            · rw [upd_ne hc]
              exact s24 _ _ (kp c o hc e)
            · rw [upd_same]
              simp
            · rcases List.mem_append.mp hc with hc | hc
              · exact nc c hc
              · rw [List.mem_singleton.mp hc]
                exact nb
            · rw [iN, cf, ht]
              have RC2 := RC.mono (H' := upd H4 p (.lst (RF cs ++ [.ref b]))) fun c hc o e => by
                rw [upd_ne (nc c hc)]
                exact s24 _ _ e
              refine RC2.snoc ?_ hl0
              rw [upd_ne nb]
              exact s24 _ _ (kp b _ nb hl1)
          · rw [decide_eq_false ct]
            have ht : Mu33.isTold l = false := by
              cases z : Mu33.isTold l with
              | false => rfl
              | true => exact absurd (ti.mp z) ct
            exact iteF (out H4 (s3.trans s4) (by rw [ht, Bool.and_false]))
    · rw [decide_eq_false (show ¬ V.int (x0 : Int) = V.int mm from fun z => c0 (by injection z))]
      have ht : Mu33.isTold l = false := by
        cases z : Mu33.isTold l with
        | false => rfl
        | true => exact absurd (told_first z hm hle hx0) c0
      exact iteF (iteF (out H2 (Same.refl _) (by rw [ht, Bool.and_false])))
  · rintro σ H2 ⟨cs, v4, rfl, kp, hp2, nc, RC⟩
    rw [List.length_map, R1'.len, List.take_length] at RC
    exact ⟨_, rfl, k H2 p cs (fun c o e => kp c o (fun z => by rw [z, hp] at e; cases e) (s1 _ _ (s0 _ _ e))) hp hp2 RC⟩
end
end LR

namespace LR
open PySem PySem.Spec PyProof.Rows L2
/-- whole numbers of any sign in a list -/
abbrev ZV (l : List Int) : List V := l.map V.int
theorem Z_ZV (l : List Nat) : Z l = ZV (Mu33.nums l) := by
  unfold Z ZV Mu33.nums
  rw [List.map_map]
  rfl
section
variable {slot : Nat} {te : TE} {σ : L2.St} {H1 : Hp} {D : Addr} {Qd : Hp → Prop} {lo : Int} {n : Nat}
/-- [e for x in range(lo, lo + n)] -/
theorem lc_mapR (ys : List V) (hD : H1 D = none) (hl : ys.length = n) (hsz : n ≤ 300000) (hw : ∀ x, wipe ((wipe σ [slot]).set slot (some x)) [slot] = wipe σ [slot])
    (elem : ∀ (i : Nat) (y : V) (H' : Hp) (Q : VK), i < n → ys[i]? = some y → Same H1 H' → (∀ H'', Same H' H'' → Q y H'') → te ((wipe σ [slot]).set slot (some (.int (lo + i)))) H' Q)
    (hd : ∀ H, Same H1 H → H D = some (.lst ys) → Qd H) :
    ∃ W : Nat → Nat → Hp → Prop, (∃ m, W 0 m (upd H1 D (.lst []))) ∧ ∀ i m H, W i m H →
      ((Itr lo n).stop i H ∧ Qd H) ∨ ((Itr lo n).go i H ∧ ∃ Nx : Hp → Prop, (∀ H', Nx H' → ∃ m', m' < m ∧ W (i + 1) m' H') ∧ ∀ x H', (Itr lo n).yld i H x H' → gName slot x (wipe σ [slot]) H' fun σ2 H2 => wipe σ2 [slot] = wipe σ [slot] ∧ tYes σ2 H2 fun b H3 =>
        if b = true then te σ2 H3 fun y H4 => ∃ acc, H4 D = some (.lst acc) ∧ acc.length < sizeLine ∧ Nx (upd H4 D (.lst (acc ++ [y]))) else Nx H3) := by
  refine lc_range (lo := lo) (n := n) (g := gName slot) (fun i H => Same H1 H ∧ H D = some (.lst (ys.take i))) ⟨same_upd hD, by rw [upd_same]; rfl⟩ ?_ (fun H p => hd H p.1 (by rw [← hl, List.take_length] at p; exact p.2))
  rintro i H hi ⟨s1, hD1⟩
  have h2 : i < ys.length := by omega
  refine ⟨hw _, ?_⟩
  unfold tYes
  refine iteT (elem i ys[i] H _ hi (List.getElem?_eq_getElem h2) s1 fun H2 s2 => ⟨ys.take i, s2 _ _ hD1, sl (by rw [List.length_take]; omega), fun c o q => ?_, ?_⟩)
  · rw [upd_ne (ne_of_none q hD)]
    exact s2 _ _ (s1 _ _ q)
  · rw [upd_same, take_more (List.getElem?_eq_getElem h2)]
end
section
variable {P : Program} {w : World} {K : PySem.W.Frag} {mg : Str → Option Value} {base : Heap} {C : Addr}
/-! ### first_ring -/
abbrev sFirst : Stmt := top 32
abbrev NFirst : List Str := ["shop", "girth", "panes", "rings"]
theorem scFirst : FnScope NFirst ["shop", "girth"] (defScope sFirst) := ⟨rfl, rfl, rfl, by decide +kernel, rfl, by decide +kernel, by decide +kernel⟩
def spFirst (C : Addr) : Sp := fun vs H Q _ => ∃ (a : Addr) (s : Mu33.State) (g : Nat), vs = [.ref a, .int g] ∧ ShopR C H a s ∧
  ∀ (H' : Hp) (p : Addr), Same H H' → H p = none → H' p = some (.lst (Z ((Mu33.first s g).getD []))) → Q (.ref p) H'
theorem first_none {s : Mu33.State} {g : Nat} (h : ∀ j, j < 4 → Mu33.rings s g (3 + j) = []) : Mu33.first s g = none := by
  rw [first_walk, show Mu33.rings s g 3 = [] from h 0 (by decide), show Mu33.rings s g 4 = [] from h 1 (by decide), show Mu33.rings s g 5 = [] from h 2 (by decide), show Mu33.rings s g 6 = [] from h 3 (by decide)]
theorem first_some {s : Mu33.State} {g i : Nat} {r : List Nat} {t : List (List Nat)} (hi : i < 4) (h : ∀ j, j < i → Mu33.rings s g (3 + j) = []) (e : Mu33.rings s g (3 + i) = r :: t) : Mu33.first s g = some r := by
  rw [first_walk]
  match i, hi with
  | 0, _ => rw [show Mu33.rings s g 3 = r :: t from e]
  | 1, _ => rw [show Mu33.rings s g 3 = [] from h 0 (by decide), show Mu33.rings s g 4 = r :: t from e]
  | 2, _ => rw [show Mu33.rings s g 3 = [] from h 0 (by decide), show Mu33.rings s g 4 = [] from h 1 (by decide), show Mu33.rings s g 5 = r :: t from e]
  | 3, _ => rw [show Mu33.rings s g 3 = [] from h 0 (by decide), show Mu33.rings s g 4 = [] from h 1 (by decide), show Mu33.rings s g 5 = [] from h 2 (by decide), show Mu33.rings s g 6 = r :: t from e]
theorem cal_first (B : Bl mg) (D : Df K mg "first_ring" sFirst) (g1 : Gn mg "FEWEST_PANES" 3) (g2 : Gn mg "MOST_PANES" 6) (c1 : Cal P w K mg base 3 "rings_to_set" ["shop", "girth", "panes"] (spRings C)) : Cal P w K mg base 4 "first_ring" ["shop", "girth"] (spFirst C) := by
  obtain ⟨f, fd, F, m⟩ := D
  refine ⟨f, fd, ?_, m, F.kp, F.binds fun _ _ _ _ _ _ us hl => match us, hl with | [_, _], _ => rfl⟩
  refine F.ok scFirst (fun vs H Q E h => by obtain ⟨a, s, g, rfl, _⟩ := h; rfl) (fun cdv A outer s H vs Q E hr h => ?_)
  refine ⟨_, pss_cons (ps_for PassesOwn.never rfl (pi_range2 rfl B.range (pa_cons (pe_gn g1 rfl) (pa_cons (pe_op op_add (pe_gn g2 rfl) pe_int) pa_nil))) (pg_name (i := 2) scFirst.nd rfl (Or.inl rfl))
      (pss_cons (ps_set (i := 3) scFirst.nd rfl (Or.inl rfl) (pe_cal c1 hr rfl (pa_cons (pv 0) (pa_cons (pv 1) (pa_cons (pv 2) pa_nil)))))
      (pss_one (ps_if (pt_cmpR op_gt (pe_callB call_len_seq (by rfl) B.len PySem.boot_len (pa_cons (pv 3) pa_nil)) pe_int (nomark _)) (pss_one (ps_ret (pe_ix ix_list (pv 3) pe_int (fun _ _ => rfl)))) pss_nil))))
    (pss_one (ps_ret (pe_lst pa_nil))), ?_⟩
  obtain ⟨a, s, g, rfl, SR, k⟩ := h
  refine ⟨_, _, rfl, rfl, 3, 7, rfl, ⟨by decide, by decide, by decide, by decide⟩, for_range (lo := 3) (n := 4) (fun i σ H' => Same H H' ∧ (∀ j, j < i → Mu33.rings s g (3 + j) = []) ∧ ∃ v2 v3 : Option V, σ = [some (.ref a), some (.int g), v2, v3]) ⟨Same.refl _, fun j hj => absurd hj (by omega), none, none, rfl⟩ ?_ ?_⟩
  · rintro i σ H1 hi ⟨s1, no, v2, v3, rfl⟩
    have ei : (3 : Int) + (i : Int) = ((3 + i : Nat) : Int) := by omega
    refine ⟨_, rfl, _, rfl, _, rfl, a, s, g, 3 + i, by rw [← ei]; rfl, SR.same s1, by omega, by omega, fun H2 p as s2 hp hp2 R2 => ⟨_, rfl, p, _, rfl, .inl (SqL.of hp2), _, _, rfl, rfl, _, rfl, ?_⟩⟩
    have elen : (RF as).length = (Mu33.rings s g (3 + i)).length := by rw [List.length_map, R2.len]
    rw [elen]
    cases hrg : Mu33.rings s g (3 + i) with
    | nil =>
      refine iteF ⟨s1.trans s2, fun j hj => ?_, _, _, rfl⟩
      by_cases e : j = i
      · subst e
        exact hrg
      · exact no j (by omega)
    | cons r t =>
      rw [hrg] at R2
      obtain ⟨b, hb⟩ : ∃ b, as[0]? = some b := by
        cases as with
        | nil => simpa using R2.len
        | cons b bs => exact ⟨b, rfl⟩
      obtain ⟨hb1, hb0⟩ := R2.at_ 0 b r hb rfl
      have hd : decide ((0 : Int) < (((r :: t).length : Nat) : Int)) = true := decide_eq_true (by simp)
      show if decide ((0 : Int) < (((r :: t).length : Nat) : Int)) = true then _ else _
      rw [hd]
      refine iteT ⟨_, rfl, p, _, _, _, rfl, rfl, SqL.of hp2, at_of (j := 0) (v := .ref b) rfl (by rw [List.getElem?_map, hb]; rfl), ?_⟩
      refine k H2 b (s1.trans s2) (s1.free hb0) ?_
      rw [first_some hi no hrg]
      exact hb1
  · rintro σ H1 ⟨s1, no, v2, v3, rfl⟩
    refine ⟨by decide, fun p hp => k _ p (s1.trans (same_upd hp)) (s1.free hp) ?_⟩
    rw [first_none no]
    exact upd_same
/-! ### count_rings -/
/-- a call's answer: a new list -/
abbrev Ans (H : Hp) (Q : VK) (l : List Int) : Prop := ∀ (H' : Hp) (p : Addr), Same H H' → H p = none → H' p = some (.lst (ZV l)) → Q (.ref p) H'
theorem Ans.at {H H1 : Hp} {Q : VK} {l : List Int} (k : Ans H Q l) (s : Same H H1) : Ans H1 Q l := fun H' p s1 h1 h2 => k H' p (s.trans s1) (s.free h1) h2
abbrev sCount : Stmt := top 33
theorem scCount : FnScope ["shop", "girth", "panes"] ["shop", "girth"] (defScope sCount) := ⟨rfl, rfl, rfl, by decide +kernel, rfl, by decide +kernel, by decide +kernel⟩
def countA (s : Mu33.State) (g : Nat) : List Int := if Mu33.isGirth g = false then [-1] else Mu33.nums (Mu33.SIZES.map fun n => (Mu33.rings s g n).length)
def spCount (C : Addr) : Sp := fun vs H Q _ => ∃ (a : Addr) (s : Mu33.State) (g : Nat), vs = [.ref a, .int g] ∧ ShopR C H a s ∧ Ans H Q (countA s g)
theorem pe_neg {X : Cx} {n j : Nat} {pos pos' : Pos} : PE X (.UnaryOp .USub (.Constant (.int n) j pos') pos) (tUn (rU fun i => .int (-i)) (tC (.int n))) := pe_un un_neg pe_int
theorem ans1 {H : Hp} {Q : VK} {z : Int} (k : Ans H Q [z]) : ∀ p, H p = none → Q (.ref p) (upd H p (.lst [V.int z])) := fun p hp => k _ p (same_upd hp) hp upd_same
theorem cal_count (B : Bl mg) (D : Df K mg "count_rings" sCount) (g1 : Gn mg "FEWEST_PANES" 3) (g2 : Gn mg "MOST_PANES" 6) (c0 : Cal P w K mg base 1 "is_girth" ["girth"] spGirth) (c1 : Cal P w K mg base 3 "rings_to_set" ["shop", "girth", "panes"] (spRings C)) : Cal P w K mg base 4 "count_rings" ["shop", "girth"] (spCount C) := by
  obtain ⟨f, fd, F, m⟩ := D
  refine ⟨f, fd, ?_, m, F.kp, F.binds fun _ _ _ _ _ _ us hl => match us, hl with | [_, _], _ => rfl⟩
  refine F.ok scCount (fun vs H Q E h => by obtain ⟨a, s, g, rfl, _⟩ := h; rfl) (fun cdv A outer s H vs Q E hr h => ?_)
  refine ⟨_, pss_cons (ps_if (pt_not (pt_val (pe_cal c0 (hr.mono (by decide)) rfl (pa_cons (pv 1) pa_nil)))) (pss_one (ps_ret (pe_lst (pa_cons (pe_un un_neg pe_int) pa_nil)))) pss_nil)
    (pss_one (ps_ret (pe_lc (own := [("panes", 2)]) (g := gName 2) (tt := tYes) (te := tCB (rLen K) (tCons (tCall (spRings C) [] E0 (tCons (tVar 0) (tCons (tVar 1) (tCons (tVar 2) tNil)))) tNil)) rfl scCount.nd (pi_range2 rfl B.range (pa_cons (pe_gn g1 rfl) (pa_cons (pe_op op_add (pe_gn g2 rfl) pe_int) pa_nil)))
      (blkOk_by (own := [("panes", 2)]) (N := ["shop", "girth", "panes"]) (sc := defScope sCount) (by decide +kernel)) (fun _ _ _ _ _ => pg_name (i := 2) scCount.nd rfl (Or.inl rfl)) (fun _ _ _ _ _ => pts_nil)
      (fun _ _ _ _ _ => pe_callB call_len_seq (by rfl) B.len PySem.boot_len (pa_cons (pe_cal c1 hr rfl (pa_cons (pv 0) (pa_cons (pv 1) (pa_cons (pv 2) pa_nil)))) pa_nil))))), ?_⟩
  obtain ⟨a, s, g, rfl, SR, k⟩ := h
  refine ⟨_, rfl, g, rfl, _, rfl, ?_⟩
  cases hg : Mu33.isGirth g with
  | false =>
    have ek : countA s g = [-1] := by unfold countA; rw [hg]; rfl
    rw [ek] at k
    exact iteT ⟨_, rfl, by show 1 ≤ sizeLine; decide, ans1 k⟩
  | true =>
    have ek : countA s g = Mu33.nums (Mu33.SIZES.map fun n => (Mu33.rings s g n).length) := by unfold countA; rw [hg]; rfl
    rw [ek] at k
    refine iteF ⟨_, _, rfl, rfl, 3, 7, rfl, ⟨by decide, by decide, by decide, by decide⟩, fun D hD => lc_mapR (lo := 3) (n := 4) (Z (Mu33.SIZES.map fun n => (Mu33.rings s g n).length)) hD rfl (by decide) (fun x => rfl) ?_ ?_⟩
    · intro i y H' Q' hi hy s1 k'
      have ei : (3 : Int) + (i : Int) = ((3 + i : Nat) : Int) := by omega
      have hy2 : y = .int ((Mu33.rings s g (3 + i)).length : Nat) := by
        match i, hi, hy with
        | 0, _, hy => exact (Option.some.inj hy).symm
        | 1, _, hy => exact (Option.some.inj hy).symm
        | 2, _, hy => exact (Option.some.inj hy).symm
        | 3, _, hy => exact (Option.some.inj hy).symm
      refine ⟨_, rfl, _, rfl, _, rfl, a, s, g, 3 + i, by rw [← ei]; rfl, SR.same s1, by omega, by omega, fun H2 p as s2 hp hp2 R2 => ⟨p, _, rfl, .inl (SqL.of hp2), ?_⟩⟩
      have e : V.int (((RF as).length : Nat) : Int) = y := by rw [hy2, List.length_map, R2.len]
      exact qeq e (k' H2 s2)
    · intro H2 s2 hD2
      exact k H2 D s2 hD (by rw [hD2, Z_ZV])
end
end LR

namespace LR
open PySem PySem.Spec PyProof.Rows L2
section
variable {P : Program} {w : World} {K : PySem.W.Frag} {mg : Str → Option Value} {base : Heap} {C : Addr}
/-! ### tell_first -/
abbrev sTFirst : Stmt := top 34
theorem scTFirst : FnScope ["shop", "girth", "ring"] ["shop", "girth"] (defScope sTFirst) := ⟨rfl, rfl, rfl, by decide +kernel, rfl, by decide +kernel, by decide +kernel⟩
def firstA (s : Mu33.State) (g : Nat) : List Int := if Mu33.isGirth g = false then [-1] else match Mu33.first s g with
  | none => [-6]
  | some r => Mu33.nums (r.length :: r)
def spTFirst (C : Addr) : Sp := fun vs H Q _ => ∃ (a : Addr) (s : Mu33.State) (g : Nat), vs = [.ref a, .int g] ∧ ShopR C H a s ∧ Ans H Q (firstA s g)
theorem cal_tfirst (B : Bl mg) (D : Df K mg "tell_first" sTFirst) (c0 : Cal P w K mg base 1 "is_girth" ["girth"] spGirth) (c1 : Cal P w K mg base 4 "first_ring" ["shop", "girth"] (spFirst C)) : Cal P w K mg base 5 "tell_first" ["shop", "girth"] (spTFirst C) := by
  obtain ⟨f, fd, F, m⟩ := D
  refine ⟨f, fd, ?_, m, F.kp, F.binds fun _ _ _ _ _ _ us hl => match us, hl with | [_, _], _ => rfl⟩
  refine F.ok scTFirst (fun vs H Q E h => by obtain ⟨a, s, g, rfl, _⟩ := h; rfl) (fun cdv A outer s H vs Q E hr h => ?_)
  refine ⟨_, pss_cons (ps_if (pt_not (pt_val (pe_cal c0 (hr.mono (by decide)) rfl (pa_cons (pv 1) pa_nil)))) (pss_one (ps_ret (pe_lst (pa_cons (pe_un un_neg pe_int) pa_nil)))) pss_nil)
    (pss_cons (ps_set (i := 2) scTFirst.nd rfl (Or.inl rfl) (pe_cal c1 hr rfl (pa_cons (pv 0) (pa_cons (pv 1) pa_nil))))
    (pss_cons (ps_if (pt_cmpR op_eq (pe_callB call_len_seq (by rfl) B.len PySem.boot_len (pa_cons (pv 2) pa_nil)) pe_int (nomark _)) (pss_one (ps_ret (pe_lst (pa_cons (pe_un un_neg pe_int) pa_nil)))) pss_nil)
    (pss_one (ps_ret (pe_op op_cat (pe_lst (pa_cons (pe_callB call_len_seq (by rfl) B.len PySem.boot_len (pa_cons (pv 2) pa_nil)) pa_nil)) (pv 2)))))), ?_⟩
  obtain ⟨a, s, g, rfl, SR, k⟩ := h
  refine ⟨_, rfl, g, rfl, _, rfl, ?_⟩
  cases hg : Mu33.isGirth g with
  | false =>
    have ek : firstA s g = [-1] := by unfold firstA; rw [hg]; rfl
    rw [ek] at k
    exact iteT ⟨_, rfl, by show 1 ≤ sizeLine; decide, ans1 k⟩
  | true =>
    refine iteF ⟨_, rfl, _, rfl, a, s, g, rfl, SR, fun H1 p s1 hp hp1 => ⟨_, rfl, p, _, rfl, .inl (SqL.of hp1), rfl, _, rfl, ?_⟩⟩
    cases hf : Mu33.first s g with
    | none =>
      have ek : firstA s g = [-6] := by unfold firstA; rw [hg, hf]; rfl
      rw [ek] at k
      exact iteT ⟨_, rfl, by show 1 ≤ sizeLine; decide, ans1 (k.at s1)⟩
    | some r =>
      have ek : firstA s g = Mu33.nums (r.length :: r) := by unfold firstA; rw [hg, hf]; rfl
      rw [ek] at k
      rw [hf] at hp1
      have hp1 : H1 p = some (.lst (Z r)) := hp1
      obtain ⟨l3, l6, _⟩ := first_mem hf
      have zl : (Z r).length = r.length := List.length_map ..
      have hd : decide (V.int (((Z r).length : Nat) : Int) = V.int 0) = false := decide_eq_false fun z => by
        injection z with z
        omega
      show if decide (V.int (((Z r).length : Nat) : Int) = V.int 0) = true then _ else _
      rw [hd]
      refine iteF ⟨_, rfl, p, _, rfl, .inl (SqL.of hp1), by show 1 ≤ sizeLine; decide, fun q hq => ⟨_, rfl, q, p, _, Z r, rfl, rfl, upd_same, ?_, ?_, fun u hu => ?_⟩⟩
      · rw [upd_ne (ne_of_none hp1 hq)]
        exact hp1
      · rw [zl]
        show 1 + r.length ≤ sizeLine
        rw [sizeLine_eq]
        omega
      · refine k _ u ((s1.trans (same_upd hq)).trans (same_upd hu)) ((s1.trans (same_upd hq)).free hu) ?_
        rw [upd_same, ← Z_ZV]
        simp [Z]
/-! ### tell_may -/
abbrev sTMay : Stmt := top 35
abbrev NTMay : List Str := ["shop", "girth", "ring", "place", "sort"]
theorem scTMay : FnScope NTMay ["shop", "girth", "ring"] (defScope sTMay) := ⟨rfl, rfl, rfl, by decide +kernel, rfl, by decide +kernel, by decide +kernel⟩
def spTMay (K : PySem.W.Frag) (C : Addr) : Sp := fun vs H Q _ => ∃ (a r : Addr) (s : Mu33.State) (g : Nat) (l : List Nat), vs = [.ref a, .int g, .ref r] ∧ ShopR C H a s ∧ SqL K H r (Z l) ∧ l.length ≤ 10 ∧ Ans H Q (Mu33.why s g l)
theorem ring_ok {s : Mu33.State} {l : List Nat} (h : Mu33.isRing s l = true) (h10 : l.length ≤ 10) : RingOk s l := by
  unfold Mu33.isRing at h
  simp only [Bool.and_eq_true, decide_eq_true_eq, List.all_eq_true] at h
  exact ⟨h10, h.2.2⟩
theorem notN_oV (o : Option Nat) : (!decide (oV o = .non)) = o.isSome := by
  rw [oV_non]
  cases o <;> rfl
theorem cal_tmay (D : Df K mg "tell_may" sTMay) (c0 : Cal P w K mg base 1 "is_girth" ["girth"] spGirth) (c1 : Cal P w K mg base 1 "is_ring" ["shop", "ring"] (spIsRing K C)) (c2 : Cal P w K mg base 1 "width_of" ["shop", "ring"] (spWidth K C)) (c3 : Cal P w K mg base 1 "dark_place" ["shop", "ring"] (spDark K C)) (c4 : Cal P w K mg base 1 "short_sort" ["shop", "ring"] (spShort K C)) :
    Cal P w K mg base 2 "tell_may" ["shop", "girth", "ring"] (spTMay K C) := by
  obtain ⟨f, fd, F, m⟩ := D
  refine ⟨f, fd, ?_, m, F.kp, F.binds fun _ _ _ _ _ _ us hl => match us, hl with | [_, _, _], _ => rfl⟩
  refine F.ok scTMay (fun vs H Q E h => by obtain ⟨a, r, s, g, l, rfl, _⟩ := h; rfl) (fun cdv A outer s H vs Q E hr h => ?_)
  refine ⟨_, pss_cons (ps_if (PW.pt (pw_or (pt_not (pt_val (pe_cal c0 hr rfl (pa_cons (pv 1) pa_nil)))) (pw_or1 (pt_not (pt_val (pe_cal c1 hr rfl (pa_cons (pv 0) (pa_cons (pv 2) pa_nil)))))))) (pss_one (ps_ret (pe_lst (pa_cons (pe_un un_neg pe_int) pa_nil)))) pss_nil)
    (pss_cons (ps_if (pt_cmpR op_ne (pe_cal c2 hr rfl (pa_cons (pv 0) (pa_cons (pv 2) pa_nil))) (pv 1) (nomark _)) (pss_one (ps_ret (pe_lst (pa_cons (pe_un un_neg pe_int) pa_nil)))) pss_nil)
    (pss_cons (ps_set (i := 3) scTMay.nd rfl (Or.inl rfl) (pe_cal c3 hr rfl (pa_cons (pv 0) (pa_cons (pv 2) pa_nil))))
    (pss_cons (ps_if (pt_cmp (pc_notN (pv 3))) (pss_one (ps_ret (pe_lst (pa_cons (pe_un un_neg pe_int) (pa_cons (pv 3) pa_nil))))) pss_nil)
    (pss_cons (ps_set (i := 4) scTMay.nd rfl (Or.inl rfl) (pe_cal c4 hr rfl (pa_cons (pv 0) (pa_cons (pv 2) pa_nil))))
    (pss_cons (ps_if (pt_cmp (pc_notN (pv 4))) (pss_one (ps_ret (pe_lst (pa_cons (pe_un un_neg pe_int) (pa_cons (pv 4) pa_nil))))) pss_nil)
    (pss_one (ps_ret (pe_lst (pa_cons pe_int pa_nil))))))))), ?_⟩
  obtain ⟨a, r, s, g, l, rfl, SR, hl, h10, k⟩ := h
  have bad : ∀ H1 : Hp, Same H H1 → (Mu33.isGirth g && Mu33.isRing s l) = false → ∀ p, H1 p = none → Q (.ref p) (upd H1 p (.lst [V.int (-1)])) := fun H1 s1 hb => by
    have ek : Mu33.why s g l = [-1] := by unfold Mu33.why; rw [hb]; rfl
    rw [ek] at k
    exact ans1 (k.at s1)
  refine ⟨_, rfl, g, rfl, _, rfl, ?_⟩
  cases hg : Mu33.isGirth g with
  | false => exact iteT (iteT ⟨_, rfl, by show 1 ≤ sizeLine; decide, bad H (Same.refl _) (by rw [hg]; rfl)⟩)
  | true =>
    refine iteF ⟨_, rfl, _, rfl, a, r, s, l, rfl, SR, hl, h10, fun H1 s1 => ⟨_, rfl, ?_⟩⟩
    cases hri : Mu33.isRing s l with
    | false => exact iteT ⟨_, rfl, by show 1 ≤ sizeLine; decide, bad H1 s1 (by rw [hri, Bool.and_false])⟩
    | true =>
      have hR := ring_ok hri h10
      have hgr : (Mu33.isGirth g && Mu33.isRing s l) = true := by rw [hg, hri]; rfl
      refine iteF ⟨_, rfl, _, rfl, a, r, s, l, rfl, SR.same s1, s1.seq hl, hR, fun H2 s2 => ⟨_, rfl, rfl, _, rfl, ?_⟩⟩
      by_cases c : Mu33.weight s l = g
      · have e : decide (V.int ((Mu33.weight s l : Nat) : Int) = V.int (g : Int)) = true := by rw [c]; exact decide_eq_true rfl
        rw [e]
        have s12 := s1.trans s2
        refine iteF ⟨_, rfl, _, rfl, a, r, s, l, rfl, SR.same s12, s12.seq hl, hR, _, rfl, (Mu33.dark s l).isSome, congrArg V.bl (notN_oV _), ?_⟩
        cases hd : Mu33.dark s l with
        | some i =>
          have ek : Mu33.why s g l = [-3, (i : Int)] := by
            unfold Mu33.why
            rw [hgr, if_neg (by decide), if_neg (by simp [c]), hd]
          rw [ek] at k
          exact iteT ⟨_, rfl, _, rfl, by show 2 ≤ sizeLine; decide, fun p hp => k _ p (s12.trans (same_upd hp)) (s12.free hp) upd_same⟩
        | none =>
          refine iteF ⟨_, rfl, _, rfl, a, r, s, l, rfl, SR.same s12, s12.seq hl, hR, fun H3 s3 => ⟨_, rfl, (Mu33.lacks s l).isSome, congrArg V.bl (notN_oV _), ?_⟩⟩
          have s13 := s12.trans s3
          cases hk : Mu33.lacks s l with
          | some i =>
            have ek : Mu33.why s g l = [-4, (i : Int)] := by
              unfold Mu33.why
              rw [hgr, if_neg (by decide), if_neg (by simp [c]), hd]
              simp only
              rw [hk]
            rw [ek] at k
            exact iteT ⟨_, rfl, _, rfl, by show 2 ≤ sizeLine; decide, fun p hp => k _ p (s13.trans (same_upd hp)) (s13.free hp) upd_same⟩
          | none =>
            have ek : Mu33.why s g l = [0] := by
              unfold Mu33.why
              rw [hgr, if_neg (by decide), if_neg (by simp [c]), hd]
              simp only
              rw [hk]
            rw [ek] at k
            exact iteF ⟨by show 1 ≤ sizeLine; decide, ans1 (k.at s13)⟩
      · have e : decide (V.int ((Mu33.weight s l : Nat) : Int) = V.int (g : Int)) = false := decide_eq_false fun z => by
          injection z with z
          omega
        rw [e]
        have ek : Mu33.why s g l = [-2] := by
          unfold Mu33.why
          rw [hgr, if_neg (by decide), if_pos c]
        rw [ek] at k
        exact iteT ⟨_, rfl, by show 1 ≤ sizeLine; decide, ans1 (k.at (s1.trans s2))⟩
/-! ### tell_same -/
abbrev sTSame : Stmt := top 36
theorem scTSame : FnScope ["shop", "ring", "other"] ["shop", "ring", "other"] (defScope sTSame) := ⟨rfl, rfl, rfl, by decide +kernel, rfl, by decide +kernel, by decide +kernel⟩
def sameA (s : Mu33.State) (a b : List Nat) : List Int := if (Mu33.isRing s a && Mu33.isRing s b) = false then [-1] else if (Mu33.spellings a).contains b = true then [1] else [0]
def spTSame (K : PySem.W.Frag) (C : Addr) : Sp := fun vs H Q _ => ∃ (a r q : Addr) (s : Mu33.State) (l o : List Nat), vs = [.ref a, .ref r, .ref q] ∧ ShopR C H a s ∧ SqL K H r (Z l) ∧ l.length ≤ 10 ∧ SqL K H q (Z o) ∧ o.length ≤ 10 ∧ Ans H Q (sameA s l o)
theorem any_rows (rs : List (List Nat)) (b : List Nat) : ((rs.map dRow).any fun z => PyData.eqv z (dRow b)) = rs.contains b := by
  induction rs with
  | nil => rfl
  | cons r rs ih =>
    rw [List.map_cons, List.any_cons, ih, eqv_rows, List.contains_cons]
    congr 1
    by_cases c : r = b
    · subst c
      simp
    · have c' : ¬ b = r := fun z => c z.symm
      simp [c, c']
theorem cal_tsame (D : Df K mg "tell_same" sTSame) (c1 : Cal P w K mg base 1 "is_ring" ["shop", "ring"] (spIsRing K C)) (c2 : Cal P w K mg base 1 "spellings" ["ring"] (spSpell K)) : Cal P w K mg base 2 "tell_same" ["shop", "ring", "other"] (spTSame K C) := by
  obtain ⟨f, fd, F, m⟩ := D
  refine ⟨f, fd, ?_, m, F.kp, F.binds fun _ _ _ _ _ _ us hl => match us, hl with | [_, _, _], _ => rfl⟩
  refine F.ok scTSame (fun vs H Q E h => by obtain ⟨a, r, q, s, l, o, rfl, _⟩ := h; rfl) (fun cdv A outer s H vs Q E hr h => ?_)
  have hu : (A.deeper (envOfC "tell_same" (defScope sTSame) s.heap.objs.size f cdv)).units + 65 < cLine := by
    have := hr.un
    omega
  refine ⟨_, pss_cons (ps_if (PW.pt (pw_or (pt_not (pt_val (pe_cal c1 hr rfl (pa_cons (pv 0) (pa_cons (pv 1) pa_nil))))) (pw_or1 (pt_not (pt_val (pe_cal c1 hr rfl (pa_cons (pv 0) (pa_cons (pv 2) pa_nil)))))))) (pss_one (ps_ret (pe_lst (pa_cons (pe_un un_neg pe_int) pa_nil)))) pss_nil)
    (pss_one (ps_ret (pe_lst (pa_cons (pe_ifExp (pt_cmpR (op_inD hu) (pv 2) (pe_cal c2 hr rfl (pa_cons (pv 1) pa_nil)) (by rfl)) pe_int pe_int) pa_nil)))), ?_⟩
  obtain ⟨a, r, q, s, l, o, rfl, SR, hl, hl10, ho, ho10, k⟩ := h
  have bad : ∀ H1 : Hp, Same H H1 → (Mu33.isRing s l && Mu33.isRing s o) = false → ∀ p, H1 p = none → Q (.ref p) (upd H1 p (.lst [V.int (-1)])) := fun H1 s1 hb => by
    have ek : sameA s l o = [-1] := by unfold sameA; rw [hb]; rfl
    rw [ek] at k
    exact ans1 (k.at s1)
  refine ⟨_, rfl, _, rfl, a, r, s, l, rfl, SR, hl, hl10, fun H1 s1 => ⟨_, rfl, ?_⟩⟩
  cases h1 : Mu33.isRing s l with
  | false => exact iteT (iteT ⟨_, rfl, by show 1 ≤ sizeLine; decide, bad H1 s1 (by rw [h1]; rfl)⟩)
  | true =>
    refine iteF ⟨_, rfl, _, rfl, a, q, s, o, rfl, SR.same s1, s1.seq ho, ho10, fun H2 s2 => ⟨_, rfl, ?_⟩⟩
    have s12 := s1.trans s2
    cases h2 : Mu33.isRing s o with
    | false => exact iteT ⟨_, rfl, by show 1 ≤ sizeLine; decide, bad H2 s12 (by rw [h2, Bool.and_false])⟩
    | true =>
      refine iteF ⟨_, rfl, _, rfl, r, l, rfl, s12.seq hl, hl10, fun H3 p as s3 hp hp3 R3 => ?_⟩
      have s13 := s12.trans s3
      refine ⟨dRow o, (Mu33.spellings l).map dRow, dp_row (s13.seq ho), .lst (SqL.of hp3) (dpAll_rows R3), shaped_row _, shaped_rows _, _, rfl, ?_⟩
      rw [any_rows]
      cases hc : (Mu33.spellings l).contains o with
      | true =>
        have ek : sameA s l o = [1] := by unfold sameA; rw [h1, h2, hc]; rfl
        rw [ek] at k
        exact iteT ⟨by show 1 ≤ sizeLine; decide, ans1 (k.at s13)⟩
      | false =>
        have ek : sameA s l o = [0] := by unfold sameA; rw [h1, h2, hc]; rfl
        rw [ek] at k
        exact iteF ⟨by show 1 ≤ sizeLine; decide, ans1 (k.at s13)⟩
end
end LR

namespace LR
open PySem PySem.Spec PyProof.Rows L2
theorem ZV_get {l : List Int} {i : Nat} {v : V} (h : (ZV l)[i]? = some v) : ∃ n, l[i]? = some n ∧ v = .int n := by
  rw [List.getElem?_map] at h
  cases e : l[i]? with
  | none =>
    rw [e] at h
    cases h
  | some n =>
    rw [e] at h
    exact ⟨n, rfl, (Option.some.inj h).symm⟩
theorem ZV_at {l : List Int} {i : Nat} {n : Int} (h : l[i]? = some n) : (ZV l)[i]? = some (.int n) := by
  rw [List.getElem?_map, h]
  rfl
theorem getDI {l : List Int} {i : Nat} (h : i < l.length) : l[i]? = some (l.getD i 0) := by
  rw [List.getD_eq_getElem?_getD, List.getElem?_eq_getElem h]
  rfl
theorem ixN_nat {n i : Nat} (h : i < n) : ixN n (i : Int) = some i := by
  unfold ixN
  rw [if_pos (by omega), if_pos (by omega)]
  rfl
section
variable {P : Program} {w : World} {K : PySem.W.Frag} {mg : Str → Option Value} {base : Heap}
/-! ### bands_of -/
abbrev sBands : Stmt := top 4
theorem scBands : FnScope ["girth"] ["girth"] (defScope sBands) := ⟨rfl, rfl, rfl, by decide +kernel, rfl, by decide +kernel, by decide +kernel⟩
def spBands : Sp := fun vs H Q _ => ∃ g : Nat, vs = [.int g] ∧ ∀ (H' : Hp) (p : Addr), Same H H' → H p = none → H' p = some (.lst (Z (Mu33.bands g))) → Q (.ref p) H'
theorem cal_bands (D : Df K mg "bands_of" sBands) : Cal P w K mg base 1 "bands_of" ["girth"] spBands := by
  obtain ⟨f, fd, F, m⟩ := D
  refine ⟨f, fd, ?_, m, F.kp, F.binds fun _ _ _ _ _ _ us hl => match us, hl with | [_], _ => rfl⟩
  refine F.ok scBands (fun vs H Q E h => by obtain ⟨g, rfl, _⟩ := h; rfl) (fun cdv A outer s H vs Q E hr h => ?_)
  refine ⟨_, pss_one (ps_ret (pe_lst (pa_cons (pe_op op_add (pv 0) pe_int) (pa_cons (pe_op op_add (pv 0) pe_int) (pa_cons (pe_op op_add (pv 0) pe_int) pa_nil))))), ?_⟩
  obtain ⟨g, rfl, k⟩ := h
  exact ⟨_, rfl, _, _, rfl, rfl, _, rfl, _, _, rfl, rfl, _, rfl, _, _, rfl, rfl, by show 3 ≤ sizeLine; decide, fun p hp => k _ p (same_upd hp) hp upd_same⟩
/-! ### lengths_left -/
abbrev sLeft : Stmt := top 5
abbrev NLeft : List Str := ["strips", "bands", "cutting", "lengths", "strip", "band"]
theorem scLeft : FnScope NLeft ["strips", "bands", "cutting"] (defScope sLeft) := ⟨rfl, rfl, rfl, by decide +kernel, rfl, by decide +kernel, by decide +kernel⟩
/-- strips, bands and a row that cuts them -/
structure CutAt (K : PySem.W.Frag) (H : Hp) (a b c : Addr) (l h p : List Nat) : Prop where
  strips : SqL K H a (Z l)
  bands : SqL K H b (Z h)
  cutting : SqL K H c (Z p)
  len : p.length = h.length
  few : h.length ≤ 3
  low : l.length ≤ 8
  there : ∀ j ∈ p, j < l.length
  pos : ∀ x ∈ h, 0 < x
theorem CutAt.same {H H' : Hp} {a b c : Addr} {l h p : List Nat} (x : CutAt K H a b c l h p) (k : Same H H') : CutAt K H' a b c l h p := ⟨k.seq x.strips, k.seq x.bands, k.seq x.cutting, x.len, x.few, x.low, x.there, x.pos⟩
def spLeft (K : PySem.W.Frag) : Sp := fun vs H Q _ => ∃ (a b c : Addr) (l h p : List Nat), vs = [.ref a, .ref b, .ref c] ∧ CutAt K H a b c l h p ∧ Ans H Q (lleft l h p)
theorem lleft_take {l h p : List Nat} {i x y : Nat} (hx : p[i]? = some x) (hy : h[i]? = some y) : ((p.zip h).take (i + 1)).foldl lstep (ZI l) = lstep (((p.zip h).take i).foldl lstep (ZI l)) (x, y) := by
  have e : (p.zip h)[i]? = some (x, y) := by
    rw [List.getElem?_zip_eq_some]
    exact ⟨hx, hy⟩
  rw [take_more e, List.foldl_append]
  rfl
theorem cal_left (B : Bl mg) (D : Df K mg "lengths_left" sLeft) : Cal P w K mg base 1 "lengths_left" ["strips", "bands", "cutting"] (spLeft K) := by
  obtain ⟨f, fd, F, m⟩ := D
  refine ⟨f, fd, ?_, m, F.kp, F.binds fun _ _ _ _ _ _ us hl => match us, hl with | [_, _, _], _ => rfl⟩
  refine F.ok scLeft (fun vs H Q E h => by obtain ⟨a, b, c, l, h, p, rfl, _⟩ := h; rfl) (fun cdv A outer s H vs Q E hr h => ?_)
  refine ⟨_, pss_cons (ps_set (i := 3) scLeft.nd rfl (Or.inl rfl) (pe_callTy call_list_of (by rfl) B.list (by decide +kernel) (pa_cons (pv 0) pa_nil)))
    (pss_cons (ps_for PassesOwn.never rfl (pi_zip (by rfl) B.zip (pa_cons (pv 2) (pa_cons (pv 1) pa_nil))) (pg_tup rfl (pgs_cons (pg_name (i := 4) scLeft.nd rfl (Or.inl rfl)) (pgs_cons (pg_name (i := 5) scLeft.nd rfl (Or.inl rfl)) pgs_nil)))
      (pss_one (ps_augS (pv 3) (pv 4) get_list (pv 5) ip_sub set_list)))
    (pss_one (ps_ret (pv 3)))), ?_⟩
  obtain ⟨a, b, c, l, h, p, rfl, CA, k⟩ := h
  refine ⟨_, rfl, a, _, rfl, .inl CA.strips, fun q hq => ?_⟩
  have s0 := same_upd (o := .lst (Z l)) hq
  have lp := CA.len
  refine ⟨_, rfl, _, rfl, c, b, _, _, rfl, s0.seq CA.cutting, s0.seq CA.bands, for_it (walk_zip (K := K) (a := c) (b := b) (xs := Z p) (ys := Z h) (n := p.length) (by simp; omega)) (fun i σ H' => ∃ v4 v5 : Option V, σ = [some (.ref a), some (.ref b), some (.ref c), some (.ref q), v4, v5] ∧ Same H H' ∧
      H' q = some (.lst (ZV (((p.zip h).take i).foldl lstep (ZI l))))) ⟨none, none, rfl, s0, by rw [upd_same]; exact congrArg (fun z => some (HO.lst z)) (Z_ZI l)⟩ ?_ ?_ ?_⟩
  · rintro i σ H1 hi ⟨v4, v5, rfl, s1, _⟩
    exact ⟨s1.seq CA.cutting, s1.seq CA.bands⟩
  · rintro i x σ H1 H2 hi ⟨v4, v5, rfl, s1, hq1⟩ ⟨t, y, z, rfl, ht, rfl, ey, ez⟩
    obtain ⟨j, hj, rfl⟩ := Z_get ey
    obtain ⟨u, hu, rfl⟩ := Z_get ez
    have nqt : q ≠ t := ne_of_none hq1 ht
    have hjl := CA.there j (List.mem_of_getElem? hj)
    have flen : (((p.zip h).take i).foldl lstep (ZI l)).length = l.length := by rw [lfold_len, List.length_map]
    have hq2 : upd H1 t (.tup [.int j, .int u]) q = some (.lst (ZV (((p.zip h).take i).foldl lstep (ZI l)))) := by rw [upd_ne nqt]; exact hq1
    refine ⟨t, _, rfl, .inl (.inl upd_same), rfl, _, _, rfl, _, _, rfl, rfl, ?_⟩
    refine ⟨_, rfl, _, rfl, q, _, _, _, rfl, rfl, SqL.of hq2, atI_nat (ZV_at (getDI (i := j) (by rw [flen]; exact hjl))), _, rfl, _, _, rfl, rfl, q, _, _, j, rfl, rfl, hq2, ixN_nat (by rw [List.length_map, flen]; exact hjl), ?_⟩
    refine ⟨_, _, rfl, fun d o e => ?_, ?_⟩
    · rw [upd_ne (ne_of_none e hq)]
      exact (s1.trans (same_upd ht)) d o e
    · rw [upd_same, lleft_take hj hu]
      generalize ((p.zip h).take i).foldl lstep (ZI l) = cur
      show some (HO.lst ((ZV cur).set j (V.int (cur.getD j 0 - (u : Int))))) = some (HO.lst (ZV (cur.set j (cur.getD j 0 - (u : Int)))))
      rw [← List.map_set]
  · rintro σ H1 ⟨v4, v5, rfl, s1, hq1⟩
    have e : (p.zip h).take p.length = p.zip h := List.take_of_length_le (by rw [List.length_zip]; omega)
    rw [e] at hq1
    exact ⟨_, rfl, k H1 q s1 hq hq1⟩
/-! ### can_be_cut -/
abbrev sCan : Stmt := top 6
abbrev NCan : List Str := ["strips", "bands", "cutting", "length"]
theorem scCan : FnScope NCan ["strips", "bands", "cutting"] (defScope sCan) := ⟨rfl, rfl, rfl, by decide +kernel, rfl, by decide +kernel, by decide +kernel⟩
def spCan (K : PySem.W.Frag) : Sp := fun vs H Q _ => ∃ (a b c : Addr) (l h p : List Nat), vs = [.ref a, .ref b, .ref c] ∧ CutAt K H a b c l h p ∧ ∀ H', Same H H' → Q (.bl (Mu33.able l h p)) H'
theorem cal_can (B : Bl mg) (D : Df K mg "can_be_cut" sCan) (c1 : Cal P w K mg base 1 "lengths_left" ["strips", "bands", "cutting"] (spLeft K)) : Cal P w K mg base 2 "can_be_cut" ["strips", "bands", "cutting"] (spCan K) := by
  obtain ⟨f, fd, F, m⟩ := D
  refine ⟨f, fd, ?_, m, F.kp, F.binds fun _ _ _ _ _ _ us hl => match us, hl with | [_, _, _], _ => rfl⟩
  refine F.ok scCan (fun vs H Q E h => by obtain ⟨a, b, c, l, h, p, rfl, _⟩ := h; rfl) (fun cdv A outer s H vs Q E hr h => ?_)
  refine ⟨_, pss_one (ps_ret (pe_callB (cr_all rfl) (by rfl) B.all (by decide +kernel) (pa_cons (pe_lc (own := [("length", 3)]) (g := gName 3) (tt := tYes) rfl scCan.nd (pi_list (pe_cal c1 hr rfl (pa_cons (pv 0) (pa_cons (pv 1) (pa_cons (pv 2) pa_nil))))) (blkOk_by (own := [("length", 3)]) (N := NCan) (sc := defScope sCan) (by decide +kernel))
      (fun _ _ _ _ _ => pg_name (i := 3) scCan.nd rfl (Or.inl rfl)) (fun _ _ _ _ _ => pts_nil) (fun _ _ _ _ _ => pe_cmpR op_ge (pv 3) pe_int (nomark _))) pa_nil))), ?_⟩
  obtain ⟨a, b, c, l, h, p, rfl, CA, k⟩ := h
  have z : (lleft l h p).length ≤ 8 := by rw [lleft_len]; exact CA.low
  refine ⟨_, rfl, _, rfl, _, rfl, a, b, c, l, h, p, rfl, CA, fun H1 q s1 hq hq1 => ⟨q, rfl, ⟨_, SqL.of hq1⟩, fun D hD => lc_map (K := K) (a := q) (xs := ZV (lleft l h p)) ((lleft l h p).map fun x => V.bl (decide (0 ≤ x))) hD (SqL.of hq1) (by simp) (by rw [List.length_map]; omega) (fun x => rfl) ?_ ?_⟩⟩
  · intro i x y H' Q' hx hy s2 k'
    obtain ⟨n, hn, rfl⟩ := ZV_get hx
    rw [List.getElem?_map, hn] at hy
    cases hy
    exact ⟨_, rfl, _, _, rfl, rfl, k' H' (Same.refl _)⟩
  · intro H2 s2 hD2
    refine ⟨D, (lleft l h p).map fun x => decide (0 ≤ x), rfl, by rw [List.map_map]; exact SqL.of hD2, ?_⟩
    have e : ((lleft l h p).map fun x => decide (0 ≤ x)).all id = Mu33.able l h p := by
      rw [able_iff, List.all_map]
      rfl
    rw [e]
    exact k H2 (s1.trans s2)
/-! ### strips_after -/
abbrev sAfter : Stmt := top 9
theorem scAfter : FnScope NCan ["strips", "bands", "cutting"] (defScope sAfter) := ⟨rfl, rfl, rfl, by decide +kernel, rfl, by decide +kernel, by decide +kernel⟩
def spAfter (K : PySem.W.Frag) : Sp := fun vs H Q _ => ∃ (a b c : Addr) (l h p : List Nat), vs = [.ref a, .ref b, .ref c] ∧ CutAt K H a b c l h p ∧ Mu33.able l h p = true ∧ (∀ x ∈ l, 5 ≤ x) ∧
  ∀ (H' : Hp) (q : Addr), Same H H' → H q = none → H' q = some (.lst (Z (Mu33.kept l h p))) → Q (.ref q) H'
theorem cal_after (B : Bl mg) (D : Df K mg "strips_after" sAfter) (g1 : Gn mg "SHORTEST_STRIP" 5) (c1 : Cal P w K mg base 1 "lengths_left" ["strips", "bands", "cutting"] (spLeft K)) : Cal P w K mg base 2 "strips_after" ["strips", "bands", "cutting"] (spAfter K) := by
  obtain ⟨f, fd, F, m⟩ := D
  refine ⟨f, fd, ?_, m, F.kp, F.binds fun _ _ _ _ _ _ us hl => match us, hl with | [_, _, _], _ => rfl⟩
  refine F.ok scAfter (fun vs H Q E h => by obtain ⟨a, b, c, l, h, p, rfl, _⟩ := h; rfl) (fun cdv A outer s H vs Q E hr h => ?_)
  refine ⟨_, pss_one (ps_ret (pe_lc (own := [("length", 3)]) (g := gName 3) (tt := tTest (tOp (rI0 fun i j => .bl (decide (j ≤ i))) (tVar 3) (tC (.int 5)))) (te := tVar 3) rfl scAfter.nd (pi_list (pe_cal c1 hr rfl (pa_cons (pv 0) (pa_cons (pv 1) (pa_cons (pv 2) pa_nil))))) (blkOk_by (own := [("length", 3)]) (N := NCan) (sc := defScope sAfter) (by decide +kernel))
      (fun _ _ _ _ _ => pg_name (i := 3) scAfter.nd rfl (Or.inl rfl)) (fun _ _ _ _ _ => pts_one (pt_cmpR op_ge (pv 3) (pe_gn g1 rfl) (nomark _))) (fun _ _ _ _ _ => pv 3))), ?_⟩
  obtain ⟨a, b, c, l, h, p, rfl, CA, hab, h5, k⟩ := h
  have z : (lleft l h p).length ≤ 8 := by rw [lleft_len]; exact CA.low
  refine ⟨_, rfl, _, rfl, _, rfl, a, b, c, l, h, p, rfl, CA, fun H1 q s1 hq hq1 => ⟨q, rfl, ⟨_, SqL.of hq1⟩, fun D hD => lc_acc (K := K) (a := q) (xs := ZV (lleft l h p)) (fun i => ZV (((lleft l h p).take i).filter fun x => decide (5 ≤ x))) (fun i => decide (5 ≤ (lleft l h p).getD i 0)) (fun i => .int ((lleft l h p).getD i 0)) hD (SqL.of hq1) rfl (fun i _ => ?_) (fun i hi => ?_) (fun x => rfl) ?_ ?_ ?_⟩⟩
  · rw [List.length_map]
    have z2 := List.length_filter_le (fun x : Int => decide (5 ≤ x)) ((lleft l h p).take i)
    rw [List.length_take] at z2
    omega
  · have hi' : i < (lleft l h p).length := by simpa using hi
    rw [filter_take_more _ (getDI hi')]
    by_cases c5 : decide (5 ≤ (lleft l h p).getD i 0) = true
    · rw [if_pos c5, if_pos c5]
      exact List.map_append
    · rw [if_neg c5, if_neg c5, List.append_nil]
  · intro i x H' Q' hx s2 k'
    obtain ⟨n, hn, rfl⟩ := ZV_get hx
    have e : (lleft l h p).getD i 0 = n := by rw [List.getD_eq_getElem?_getD, hn]; rfl
    have k2 := k' H' (Same.refl _)
    rw [e] at k2
    exact ⟨_, rfl, _, _, rfl, rfl, _, rfl, k2⟩
  · intro i x H' Q' hx _ s2 k'
    obtain ⟨n, hn, rfl⟩ := ZV_get hx
    have e : (lleft l h p).getD i 0 = n := by rw [List.getD_eq_getElem?_getD, hn]; rfl
    have k2 := k' H' (Same.refl _)
    rw [e] at k2
    exact ⟨_, rfl, k2⟩
  · intro H2 s2 hD2
    rw [List.length_map, List.take_length, ← kept_eq h5 hab] at hD2
    exact k H2 D (s1.trans s2) (s1.free hD) (by rw [hD2, Z_ZI])
end
end LR

namespace LR
open PySem PySem.Spec PyProof.Rows L2
theorem rising_eq : ∀ {l k : List Int}, l.Pairwise (· < ·) → k.Pairwise (· < ·) → (∀ x, x ∈ l ↔ x ∈ k) → l = k
  | [], [], _, _, _ => rfl
  | [], y :: k, _, _, h => absurd ((h y).mpr List.mem_cons_self) (by simp)
  | x :: l, [], _, _, h => absurd ((h x).mp List.mem_cons_self) (by simp)
  | x :: l, y :: k, hl, hk, h => by
    rw [List.pairwise_cons] at hl hk
    have e : x = y := by
      rcases List.mem_cons.mp ((h x).mp List.mem_cons_self) with z | z
      · exact z
      · rcases List.mem_cons.mp ((h y).mpr List.mem_cons_self) with u | u
        · exact u.symm
        · have a1 := hk.1 x z
          have a2 := hl.1 y u
          omega
    subst e
    rw [rising_eq hl.2 hk.2 fun z => ?_]
    constructor
    · intro hz
      rcases List.mem_cons.mp ((h z).mp (List.mem_cons_of_mem _ hz)) with u | u
      · have := hl.1 z hz
        omega
      · exact u
    · intro hz
      rcases List.mem_cons.mp ((h z).mpr (List.mem_cons_of_mem _ hz)) with u | u
      · have := hk.1 z hz
        omega
      · exact u
theorem bset_rising (m : Nat) (p : List Nat) : (ZI (bset m p)).Pairwise (· < ·) := by
  rw [List.pairwise_map]
  have h : (bset m p).Pairwise (· < ·) := List.pairwise_lt_range.filter _
  exact h.imp fun {a b} z => by omega
theorem bset_mem {m : Nat} {p : List Nat} (h : ∀ j ∈ p, j < m) (k : Int) : k ∈ ZI (bset m p) ↔ k ∈ ZI p := by
  constructor
  · intro z
    obtain ⟨n, hn, rfl⟩ := List.mem_map.mp z
    have := (List.mem_filter.mp hn).2
    exact List.mem_map.mpr ⟨n, by simpa using this, rfl⟩
  · intro z
    obtain ⟨n, hn, rfl⟩ := List.mem_map.mp z
    exact List.mem_map.mpr ⟨n, List.mem_filter.mpr ⟨List.mem_range.mpr (h n hn), by simpa using hn⟩, rfl⟩
section
variable {P : Program} {w : World} {K : PySem.W.Frag} {mg : Str → Option Value} {base : Heap}
/-! ### rank_of -/
abbrev sRank : Stmt := top 7
abbrev NRank : List Str := ["strips", "bands", "cutting", "begun", "lengths", "left_over", "strip"]
theorem scRank : FnScope NRank ["strips", "bands", "cutting"] (defScope sRank) := ⟨rfl, rfl, rfl, by decide +kernel, rfl, by decide +kernel, by decide +kernel⟩
def dRank (l h p : List Nat) : PyData := .tuple [.int (Mu33.begun l h p : Nat), .int (Mu33.left l h p : Nat), dRow p]
def spRank (K : PySem.W.Frag) : Sp := fun vs H Q _ => ∃ (a b c : Addr) (l h p : List Nat), vs = [.ref a, .ref b, .ref c] ∧ CutAt K H a b c l h p ∧ Mu33.able l h p = true ∧ ∀ (H' : Hp) (x : V), Same H H' → Dp K H' x (dRank l h p) → Q x H'
theorem cal_rank (B : Bl mg) (D : Df K mg "rank_of" sRank) (c1 : Cal P w K mg base 1 "lengths_left" ["strips", "bands", "cutting"] (spLeft K)) : Cal P w K mg base 2 "rank_of" ["strips", "bands", "cutting"] (spRank K) := by
  obtain ⟨f, fd, F, m⟩ := D
  refine ⟨f, fd, ?_, m, F.kp, F.binds fun _ _ _ _ _ _ us hl => match us, hl with | [_, _, _], _ => rfl⟩
  refine F.ok scRank (fun vs H Q E h => by obtain ⟨a, b, c, l, h, p, rfl, _⟩ := h; rfl) (fun cdv A outer s H vs Q E hr h => ?_)
  refine ⟨_, pss_cons (ps_set (i := 3) scRank.nd rfl (Or.inl rfl) (pe_callB (cr_sortedSet rfl) (by rfl) B.sorted (by decide +kernel) (pa_cons (pe_callTy (cr_setL rfl) (by rfl) B.set (by decide +kernel) (pa_cons (pv 2) pa_nil)) pa_nil)))
    (pss_cons (ps_set (i := 4) scRank.nd rfl (Or.inr rfl) (pe_cal c1 hr rfl (pa_cons (pv 0) (pa_cons (pv 1) (pa_cons (pv 2) pa_nil)))))
    (pss_cons (ps_set (i := 5) scRank.nd rfl (Or.inl rfl) (pe_callB (cr_sum rfl) (by rfl) B.sum (by decide +kernel) (pa_cons (pe_lc (own := [("strip", 6)]) (g := gName 6) (tt := tYes) (te := tOp (rIxL K) (tVar 4) (tVar 6)) rfl scRank.nd (pi_list (pv 3)) (blkOk_by (own := [("strip", 6)]) (N := NRank) (sc := defScope sRank) (by decide +kernel))
      (fun _ _ _ _ _ => pg_name (i := 6) scRank.nd rfl (Or.inl rfl)) (fun _ _ _ _ _ => pts_nil) (fun _ _ _ _ _ => pe_ix ix_list (pv 4) (pv 6) (fun _ _ => rfl))) pa_nil)))
    (pss_one (ps_ret (pe_tup (pa_cons (pe_callB call_len_seq (by rfl) B.len PySem.boot_len (pa_cons (pv 3) pa_nil)) (pa_cons (pv 5) (pa_cons (pv 2) pa_nil)))))))), ?_⟩
  obtain ⟨a, b, c, l, h, p, rfl, CA, hab, k⟩ := h
  have pl : (ZI p).length ≤ 3 := by rw [List.length_map, CA.len]; exact CA.few
  refine ⟨_, rfl, c, ZI p, rfl, by rw [← Z_ZI]; exact CA.cutting, by omega, fun q n hq hn => ⟨q, _, n, rfl, upd_same, by omega, fun ns r hris hmem hnn hr0 => ?_⟩⟩
  have ens : ns = ZI (bset l.length p) := rising_eq hris (bset_rising _ _) fun x => by
    rw [hmem x, bset_mem CA.there]
    simp
  subst ens
  have s1 : Same H (upd (upd H q (SetO w q (fun j => decide (j ∈ ZI p)) n)) r (.lst (ZV (ZI (bset l.length p))))) := (same_upd hq).trans (same_upd hr0)
  have hr1 : upd (upd H q (SetO w q (fun j => decide (j ∈ ZI p)) n)) r (.lst (ZV (ZI (bset l.length p)))) r = some (.lst (Z (bset l.length p))) := by rw [upd_same, Z_ZI]
  refine ⟨_, rfl, _, rfl, _, rfl, a, b, c, l, h, p, rfl, CA.same s1, fun H2 u s2 hu hu2 => ⟨_, rfl, r, rfl, ⟨_, SqL.of (s2 _ _ hr1)⟩, fun D hD => ?_⟩⟩
  have blen : (bset l.length p).length ≤ 8 := by
    have z := List.length_filter_le (fun i => p.contains i) (List.range l.length)
    rw [List.length_range] at z
    have := CA.low
    unfold bset
    omega
  refine lc_map (K := K) (a := r) (xs := Z (bset l.length p)) (ZV ((bset l.length p).map fun i => (lleft l h p).getD i 0)) hD (SqL.of (s2 _ _ hr1)) (by simp) (by rw [List.length_map]; omega) (fun x => rfl) ?_ ?_
  · intro i x y H' Q' hx hy s3 k'
    obtain ⟨j, hj, rfl⟩ := Z_get hx
    rw [List.getElem?_map, List.getElem?_map, hj] at hy
    cases hy
    have hjl : j < l.length := List.mem_range.mp (List.mem_filter.mp (List.mem_of_getElem? hj)).1
    exact ⟨_, rfl, _, rfl, u, _, _, _, rfl, rfl, SqL.of (s3 _ _ hu2), atI_nat (ZV_at (getDI (i := j) (by rw [lleft_len]; exact hjl))), k' H' (Same.refl _)⟩
  · intro H3 s3 hD3
    refine ⟨D, _, rfl, SqL.of hD3, _, rfl, r, _, rfl, .inl (SqL.of (s3 _ _ (s2 _ _ hr1))), _, rfl, _, rfl, by show 3 ≤ sizeLine; decide, fun t ht => ?_⟩
    have s4 := ((s1.trans s2).trans s3).trans (same_upd (o := .tup [V.int (((Z (bset l.length p)).length : Nat) : Int), V.int (((bset l.length p).map fun i => (lleft l h p).getD i 0).sum), V.ref c]) ht)
    refine k _ _ s4 (.tup (.inl (.inl upd_same)) (.cons ?_ (.cons ?_ (.cons (dp_row (s4.seq CA.cutting)) .nil))))
    · rw [List.length_map, bset_len CA.len CA.pos]
      exact .int _
    · rw [bset_sum CA.len CA.pos hab]
      exact .int _
end
end LR

namespace LR
open PySem PySem.Spec PyProof.Rows L2 LamX
/-! ### ranks as data -/
theorem lt_rank {l h a b : List Nat} (e : a.length = b.length) : PySem.W.dataLt (dRank l h a) (dRank l h b) = klt l h a b := by
  unfold dRank
  rw [PySem.W.dataLt_tuple]
  have hrow := lt_rows e
  unfold dRow at hrow
  rw [PySem.W.dataLt_list] at hrow
  unfold dRow
  show ((false : Bool) || (!false && (decide (((Mu33.begun l h a : Nat) : Int) < (Mu33.begun l h b : Nat)) || (!decide (((Mu33.begun l h b : Nat) : Int) < (Mu33.begun l h a : Nat)) &&
    ((false : Bool) || (!false && (decide (((Mu33.left l h a : Nat) : Int) < (Mu33.left l h b : Nat)) || (!decide (((Mu33.left l h b : Nat) : Int) < (Mu33.left l h a : Nat)) &&
    ((false : Bool) || (!false && PyProof.Rows.lexLt PyProof.Rows.itemOrd (PySem.W.keyToksAll (a.map fun (n : Nat) => PyData.int n) ++ [.inl 0]) (PySem.W.keyToksAll (b.map fun (n : Nat) => PyData.int n) ++ [.inl 0])))))))))))  = klt l h a b
  have e2 : PyProof.Rows.lexLt PyProof.Rows.itemOrd (PySem.W.keyToksAll (a.map fun (n : Nat) => PyData.int n) ++ [.inl 0]) (PySem.W.keyToksAll (b.map fun (n : Nat) => PyData.int n) ++ [.inl 0]) = Mu33.before a b := by
    clear hrow
    induction a generalizing b with
    | nil =>
      cases b with
      | nil => rfl
      | cons y b => simp at e
    | cons x a ih =>
      cases b with
      | nil => simp at e
      | cons y b =>
        have ih := ih (b := b) (by simpa using e)
        show ((false : Bool) || (!false && (decide ((x : Int) < y) || (!decide ((y : Int) < x) && PyProof.Rows.lexLt PyProof.Rows.itemOrd (PySem.W.keyToksAll (a.map fun (n : Nat) => PyData.int n) ++ [.inl 0]) (PySem.W.keyToksAll (b.map fun (n : Nat) => PyData.int n) ++ [.inl 0]))))) = (decide (x < y) || (x == y && Mu33.before a b))
        rw [ih]
        by_cases c1 : x < y
        · have c1' : (x : Int) < y := by omega
          simp [c1, c1']
        · by_cases c2 : y < x
          · have c3 : ¬ x = y := by omega
            simp [c1, c2, c3]
          · have c3 : x = y := by omega
            simp [c1, c2, c3]
  rw [e2]
  unfold klt
  by_cases c1 : Mu33.begun l h a < Mu33.begun l h b
  · have c1' : ((Mu33.begun l h a : Nat) : Int) < (Mu33.begun l h b : Nat) := by omega
    simp [c1]
  · by_cases c2 : Mu33.begun l h b < Mu33.begun l h a
    · have c3 : ¬ Mu33.begun l h a = Mu33.begun l h b := by omega
      simp [c1, c2, c3]
    · have c3 : Mu33.begun l h a = Mu33.begun l h b := by omega
      by_cases d1 : Mu33.left l h a < Mu33.left l h b
      · simp [c3, d1]
      · by_cases d2 : Mu33.left l h b < Mu33.left l h a
        · have d3 : ¬ Mu33.left l h a = Mu33.left l h b := by omega
          simp [c3, d1, d2, d3]
        · have d3 : Mu33.left l h a = Mu33.left l h b := by omega
          simp [c3, d3]
theorem alike_ranks (l h : List Nat) (rs : List (List Nat)) : PySem.W.AlikeAll (rs.map (dRank l h)) := by
  refine ⟨fun x hx y hy => ?_, fun x hx z => ?_⟩
  · obtain ⟨a, _, rfl⟩ := List.mem_map.mp hx
    obtain ⟨b, _, rfl⟩ := List.mem_map.mp hy
    show (true && (true && (PySem.W.alikeAll (a.map fun (n : Nat) => PyData.int n) (b.map fun (n : Nat) => PyData.int n) && true))) = true
    rw [alike_ints]
    rfl
  · obtain ⟨a, _, rfl⟩ := List.mem_map.mp hx
    cases z
theorem depth_rank (l h p : List Nat) : (dRank l h p).depth = 2 := by
  show max 0 (max 0 (max (dRow p).depth 0)) + 1 = 2
  rw [depth_row]
  rfl
theorem depth_ranks (l h : List Nat) : ∀ rs : List (List Nat), PyData.depthAll (rs.map (dRank l h)) ≤ 2
  | [] => by show 0 ≤ 2; decide
  | r :: rs => by
    show max (dRank l h r).depth (PyData.depthAll (rs.map (dRank l h))) ≤ 2
    rw [depth_rank]
    have := depth_ranks l h rs
    omega
theorem minD_ranks (l h : List Nat) : ∀ (xs : List (List Nat)) (x : List Nat), (∀ y ∈ xs, y.length = x.length) → PySem.W.minD (dRank l h x) (xs.map (dRank l h)) = dRank l h (xs.foldl (fun m y => if klt l h y m = true then y else m) x)
  | [], x, _ => rfl
  | y :: xs, x, hl => by
    have hy := hl y List.mem_cons_self
    show (xs.map (dRank l h)).foldl (fun a y => if PySem.W.dataLt y a = true then y else a) (if PySem.W.dataLt (dRank l h y) (dRank l h x) = true then dRank l h y else dRank l h x) = dRank l h (xs.foldl (fun m y => if klt l h y m = true then y else m) (if klt l h y x = true then y else x))
    rw [lt_rank hy]
    by_cases c : klt l h y x = true
    · rw [if_pos c, if_pos c]
      exact minD_ranks l h xs y fun z hz => by rw [hl z (List.mem_cons_of_mem _ hz), hy]
    · rw [if_neg c, if_neg c]
      exact minD_ranks l h xs x fun z hz => hl z (List.mem_cons_of_mem _ hz)
theorem rank_inj {l h a b : List Nat} (e : dRank l h a = dRank l h b) : a = b := by
  unfold dRank at e
  injection e with e
  injection e with _ e
  injection e with _ e
  injection e with e _
  have e3 := eqv_rows a b
  rw [e, eqv_rows] at e3
  simpa using e3
theorem ext_seq {K : PySem.W.Frag} {H H' : Hp} {a : Addr} {xs : List V} (e : ExtN H H') (h : SqL K H a xs) : SqL K H' a xs := by
  rcases h with (h | ⟨o, h⟩) | h
  · exact .inl (.inl (e _ _ h fun ps z => by cases z))
  · exact .inl (.inr ⟨o, e _ _ h fun ps z => by cases z⟩)
  · exact .inr h
theorem ext_same {H H' : Hp} (h : Same H H') : ExtN H H' := ExtN.of h
theorem ext_free {H H' : Hp} (e : ExtN H H') {b : Addr} (h : H' b = none) (n : ∀ ps, H b ≠ some (.tbl ps)) : H b = none := by
  cases q : H b with
  | none => rfl
  | some o =>
    rw [e b o q fun ps z => n ps (by rw [q, z])] at h
    cases h
end LR

namespace LR
open PySem PySem.Spec PyProof.Rows L2 LamX
/-- the def st stands behind the name x, its code object at c -/
def DfC (K : PySem.W.Frag) (mg : Str → Option Value) (x : Str) (st : Stmt) (c : Addr) : Prop := ∃ (f : Addr) (oc : Value) (od an : Option Addr) (kV doc pm ct : Value) (osl : Array (Option Value)),
  K.lookup f = some ⟨oc, od, .func (PySem.W.fnOf x x (defArgs st) (defBody st) (defScope st) .none kV doc pm an (.ref c) ct), osl⟩ ∧ PySem.W.codeIn K (.ref c) x = true ∧ PySem.W.keepIn K (.ref f) = true ∧ mg x = some (.ref f)
theorem zip_filter {α β : Type} (p : β → Bool) : ∀ (as : List α) (bs : List β), as.length = bs.length → ((as.zip bs).filter fun x => p x.2).map (·.2) = bs.filter p
  | [], [], _ => rfl
  | [], _ :: _, h => by simp at h
  | _ :: _, [], h => by simp at h
  | a :: as, b :: bs, h => by
    have ih := zip_filter p as bs (by simpa using h)
    rw [List.zip_cons_cons, List.filter_cons, List.filter_cons]
    by_cases c : p b = true
    · rw [if_pos c, if_pos c, List.map_cons, ih]
    · rw [if_neg c, if_neg c, ih]
section
variable {P : Program} {w : World} {K : PySem.W.Frag} {mg : Str → Option Value} {base : Heap}
/-! ### best_cutting -/
abbrev sBest : Stmt := top 8
abbrev NBest : List Str := ["strips", "bands", "cuttings", "row"]
theorem scBest : FnScope NBest ["strips", "bands"] (defScope sBest) := ⟨rfl, rfl, rfl, by decide +kernel, rfl, by decide +kernel, by decide +kernel⟩
/-- the name of its lambda -/
def qBest : Str := ("best_cutting" ++ ".<locals>." : Str) ++ "<lambda>"
def spBest (K : PySem.W.Frag) (T : List (Addr × Str)) : Sp := fun vs H Q _ => ∃ (a b : Addr) (l h : List Nat), vs = [.ref a, .ref b] ∧ SqL K H a (Z l) ∧ SqL K H b (Z h) ∧ h.length ≤ 3 ∧ 0 < h.length ∧ l.length ≤ 8 ∧ (∀ x ∈ h, 0 < x) ∧ Tabs T H ∧
  ∀ (H' : Hp) (p : Addr), ExtN H H' → Tabs T H' → (Mu33.cutting l h ≠ none → H p = none) → H' p = some (.lst (Z ((Mu33.cutting l h).getD []))) → Q (.ref p) H'
theorem cal_best {T : List (Addr × Str)} {c Pt : Addr} (B : Bl mg) (D : DfC K mg "best_cutting" sBest c) (TB : TabB base mg c Pt) (hT : (Pt, qBest) ∈ T) (hu : ∀ q ∈ T, q.1 = Pt → q.2 = qBest) (c1 : Cal P w K mg base 1 "all_rows" ["below", "length"] spRows) (c2 : Cal P w K mg base 2 "can_be_cut" ["strips", "bands", "cutting"] (spCan K))
    (c3 : Cal P w K mg base 2 "rank_of" ["strips", "bands", "cutting"] (spRank K)) : Cal P w K mg base 5 "best_cutting" ["strips", "bands"] (spBest K T) := by
  obtain ⟨f, oc, od, an, kV, doc, pm, ct, osl, lk, hcd, kp, m⟩ := D
  refine ⟨f, _, ?_, m, kp, (fun_mk (st := sBest) lk hcd kp).binds fun _ _ _ _ _ _ us hl => match us, hl with | [_, _], _ => rfl⟩
  refine fn_of lk hcd scBest (fun vs H Q E h => by obtain ⟨a, b, l, h, rfl, _⟩ := h; rfl) (fun A outer s H vs Q E hr h => ?_)
  have hr1 : Room 1 (A.deeper (envOfC "best_cutting" (defScope sBest) s.heap.objs.size f (.ref c))) := hr.mono (by decide)
  have hr2 : Room 2 (A.deeper (envOfC "best_cutting" (defScope sBest) s.heap.objs.size f (.ref c))) := hr.mono (by decide)
  refine ⟨_, PSs.nox (pss_cons (ps_setLc (i := 2) (own := [("row", 3)]) (g := gName 3) (tt := tB (tCall (spCan K) [] E0 (tCons (tVar 0) (tCons (tVar 1) (tCons (tVar 3) tNil))))) (te := tVar 3) rfl scBest.nd rfl rfl (sw_true rfl rfl rfl (by decide +kernel))
      (pi_list (pe_cal c1 hr1 rfl (pa_cons (pe_callB call_len_seq (by rfl) B.len PySem.boot_len (pa_cons (pv 0) pa_nil)) (pa_cons (pe_callB call_len_seq (by rfl) B.len PySem.boot_len (pa_cons (pv 1) pa_nil)) pa_nil))))
      (blkOk_by (own := [("row", 3)]) (N := NBest) (sc := defScope sBest) (by decide +kernel)) (fun _ _ _ _ _ => pg_name (i := 3) scBest.nd rfl (Or.inl rfl))
      (fun _ _ _ _ _ => pts_one (pt_val (pe_cal c2 hr2 rfl (pa_cons (pv 0) (pa_cons (pv 1) (pa_cons (pv 3) pa_nil)))))) (fun _ _ _ _ _ => pv 3))
    (pss_one (ps_ret (pe_minKD (T := T) (k := 2) (i := 3) (p := "row") (tb := tCall (spRank K) [] E0 (tCons (tVar 0) (tCons (tVar 1) (tCons (tVar 3) tNil)))) rfl rfl B.min (pv 2) (pe_lst pa_nil) TB rfl hT hu hr (lam1_by (sc := defScope sBest) (by decide +kernel)) scBest.nd rfl rfl (fun _ _ _ _ _ _ => rfl)
      (fun s H f c' hr3 => pe_cal c3 hr3 rfl (pa_cons (pv 0) (pa_cons (pv 1) (pa_cons (pv 3) pa_nil)))))))), ?_⟩
  obtain ⟨a, b, l, h, rfl, ha, hb, hh3, hh0, hl8, hpos, hT0, k⟩ := h
  have zl : (Z l).length = l.length := List.length_map ..
  have zh : (Z h).length = h.length := List.length_map ..
  refine ⟨_, rfl, a, _, rfl, .inl ha, _, rfl, b, _, rfl, .inl hb, l.length, h.length, by rw [zl, zh]; rfl, hl8, by omega, fun H1 pr as s1 hpr hpr1 R1 => ⟨pr, rfl, ⟨_, SqL.of hpr1⟩, fun D hD => ?_⟩⟩
  have alen := R1.len
  have rsmall := rows_small (m := l.length) (n := h.length) hl8 (by omega)
  have cut : ∀ (i : Nat) (x : Addr) (H' : Hp), as[i]? = some x → Same H1 H' → ∃ r, (Mu33.rows l.length h.length)[i]? = some r ∧ CutAt K H' a b x l h r := fun i x H' hx s2 => by
    obtain ⟨r, hr4, hr5, _⟩ := R1.get hx
    obtain ⟨rl, rt⟩ := rows_mem (List.mem_of_getElem? hr4)
    exact ⟨r, hr4, ⟨(s1.trans s2).seq ha, (s1.trans s2).seq hb, SqL.of (s2 _ _ hr5), rl, hh3, hl8, rt, hpos⟩⟩
  have zipAt : ∀ (i : Nat) (x : Addr) (r : List Nat), as[i]? = some x → (Mu33.rows l.length h.length)[i]? = some r → (as.zip (Mu33.rows l.length h.length))[i]? = some (x, r) := fun i x r h1 h2 => by
    rw [List.getElem?_zip_eq_some]
    exact ⟨h1, h2⟩
  refine lc_acc (K := K) (a := pr) (xs := RF as) (fun i => (((as.zip (Mu33.rows l.length h.length)).take i).filter fun x => Mu33.able l h x.2).map fun x => V.ref x.1) (fun i => Mu33.able l h ((Mu33.rows l.length h.length).getD i [])) (fun i => .ref (as.getD i 0)) hD (SqL.of hpr1) rfl (fun i _ => ?_) (fun i hi => ?_) (fun x => rfl) ?_ ?_ ?_
  · rw [List.length_map]
    have z := List.length_filter_le (fun x : Addr × List Nat => Mu33.able l h x.2) ((as.zip (Mu33.rows l.length h.length)).take i)
    rw [List.length_take, List.length_zip] at z
    omega
  · have hi' : i < as.length := by simpa using hi
    have hi2 : i < (Mu33.rows l.length h.length).length := by omega
    have e1 : (Mu33.rows l.length h.length).getD i [] = (Mu33.rows l.length h.length)[i] := by rw [List.getD_eq_getElem?_getD, List.getElem?_eq_getElem hi2]; rfl
    have e2 : as.getD i 0 = as[i] := by rw [List.getD_eq_getElem?_getD, List.getElem?_eq_getElem hi']; rfl
    rw [filter_take_more _ (zipAt i _ _ (List.getElem?_eq_getElem hi') (List.getElem?_eq_getElem hi2)), e1, e2]
    by_cases ca : Mu33.able l h (Mu33.rows l.length h.length)[i] = true
    · rw [if_pos ca, if_pos ca, List.map_append]
      rfl
    · rw [if_neg ca, if_neg ca, List.append_nil]
  · intro i x H' Q' hx s2 k'
    obtain ⟨xa, hxa, rfl⟩ := RF_get hx
    obtain ⟨r, hr4, CA⟩ := cut i xa H' hxa s2
    have e1 : (Mu33.rows l.length h.length).getD i [] = r := by rw [List.getD_eq_getElem?_getD, hr4]; rfl
    refine ⟨_, rfl, _, rfl, _, rfl, a, b, xa, l, h, r, rfl, CA, fun H'' s3 => ⟨_, rfl, ?_⟩⟩
    have k2 := k' H'' s3
    rw [e1] at k2
    exact k2
  · intro i x H' Q' hx _ s2 k'
    obtain ⟨xa, hxa, rfl⟩ := RF_get hx
    have e2 : as.getD i 0 = xa := by rw [List.getD_eq_getElem?_getD, hxa]; rfl
    have k2 := k' H' (Same.refl _)
    rw [e2] at k2
    exact ⟨_, rfl, k2⟩
  · intro H2 s2 hD2
    have etake : (as.zip (Mu33.rows l.length h.length)).take (RF as).length = as.zip (Mu33.rows l.length h.length) := List.take_of_length_le (by rw [List.length_zip, List.length_map]; omega)
    rw [etake] at hD2
    -- the rows that can be cut, and where they stand
    obtain ⟨pq, epq⟩ : ∃ pq, pq = (as.zip (Mu33.rows l.length h.length)).filter fun x => Mu33.able l h x.2 := ⟨_, rfl⟩
    rw [← epq] at hD2
    have efr : pq.map (·.2) = (Mu33.rows l.length h.length).filter (Mu33.able l h) := by
      rw [epq]
      exact zip_filter (Mu33.able l h) as _ alen
    have pqmem : ∀ x ∈ pq, Mu33.able l h x.2 = true ∧ ∃ i, as[i]? = some x.1 ∧ (Mu33.rows l.length h.length)[i]? = some x.2 := fun x hx => by
      rw [epq] at hx
      obtain ⟨h1, h2⟩ := List.mem_filter.mp hx
      obtain ⟨i, hi⟩ := List.getElem?_of_mem h1
      rw [List.getElem?_zip_eq_some] at hi
      exact ⟨h2, i, hi⟩
    have hD3 : H2 D = some (.lst (RF (pq.map (·.1)))) := by
      rw [hD2]
      simp [RF]
    have ecut : Mu33.cutting l h = match pq.map (·.2) with
        | [] => none
        | p :: r => some (r.foldl (fun m x => if klt l h x m = true then x else m) p) := by
      rw [efr]
      exact cutting_eq l h
    have s12 := s1.trans s2
    have T2 : Tabs T H2 := hT0.ext s12
    refine ⟨_, rfl, D, pq.map (·.1), (pq.map (·.2)).map (dRank l h), rfl, by simp, alike_ranks l h _, Nat.le_trans (depth_ranks l h _) (by decide), T2, fun H3 e3 T3 => ⟨by decide, fun dv hdv => ⟨same_upd hdv, (same_upd hdv).seq (ext_seq e3 (SqL.of hD3)), ?_, ?_, ?_⟩⟩⟩
    · intro i x d H' hx hd s4
      rw [List.getElem?_map] at hx
      rw [List.getElem?_map, List.getElem?_map] at hd
      cases hp : pq[i]? with
      | none =>
        rw [hp] at hx
        cases hx
      | some y =>
        rw [hp] at hx hd
        cases hx
        cases hd
        obtain ⟨hab, j, hj1, hj2⟩ := pqmem y (List.mem_of_getElem? hp)
        obtain ⟨hy1, _⟩ := R1.at_ j y.1 y.2 hj1 hj2
        obtain ⟨rl, rt⟩ := rows_mem (List.mem_of_getElem? hj2)
        have eAll : ExtN H1 H' := (ext_same s2).trans (e3.trans (ext_same ((same_upd hdv).trans s4)))
        have eAll0 : ExtN H H' := (ext_same s1).trans eAll
        refine ⟨_, rfl, _, rfl, _, rfl, a, b, y.1, l, h, y.2, rfl, ⟨ext_seq eAll0 ha, ext_seq eAll0 hb, ext_seq eAll (SqL.of hy1), rl, hh3, hl8, rt, hpos⟩, hab, fun H'' x s5 hdx => ⟨s5, hdx⟩⟩
    · intro hnil H' s4
      have epq0 : pq = [] := by simpa using hnil
      have enone : Mu33.cutting l h = none := by rw [ecut, epq0]; rfl
      refine k H' dv ((ext_same s12).trans (e3.trans (ext_same ((same_upd hdv).trans s4)))) (T3.ext ((same_upd hdv).trans s4)) (fun z => absurd enone z) ?_
      rw [enone]
      exact s4 _ _ upd_same
    · intro i x d ds' hds hx hmin H' s4
      rw [List.getElem?_map] at hx
      cases hp : pq[i]? with
      | none =>
        rw [hp] at hx
        cases hx
      | some y =>
        rw [hp] at hx
        cases hx
        obtain ⟨hab, j, hj1, hj2⟩ := pqmem y (List.mem_of_getElem? hp)
        obtain ⟨hy1, hy0⟩ := R1.at_ j y.1 y.2 hj1 hj2
        cases hrs : pq.map (·.2) with
        | nil =>
          rw [hrs] at hds
          cases hds
        | cons r0 rr =>
          have hds2 := hds
          rw [hrs, List.map_cons] at hds2
          injection hds2 with e4 e5
          have lens : ∀ z ∈ r0 :: rr, z.length = h.length := fun z hz => by
            rw [← hrs, efr] at hz
            exact (rows_mem (List.mem_filter.mp hz).1).1
          rw [← e4, ← e5, minD_ranks l h rr r0 fun z hz => by rw [lens z (List.mem_cons_of_mem _ hz), lens r0 List.mem_cons_self]] at hmin
          have e6 : ((pq.map (·.2)).map (dRank l h))[i]? = some (dRank l h y.2) := by
            rw [List.getElem?_map, List.getElem?_map, hp]
            rfl
          rw [e6] at hmin
          have e7 := rank_inj (Option.some.inj hmin)
          have esome : Mu33.cutting l h = some y.2 := by rw [ecut, hrs, e7]
          have eAll : ExtN H1 H' := (ext_same s2).trans (e3.trans (ext_same ((same_upd hdv).trans s4)))
          refine k H' y.1 ((ext_same s1).trans eAll) (T3.ext ((same_upd hdv).trans s4)) (fun _ => hy0) ?_
          rw [esome]
          exact eAll _ _ hy1 fun ps z => by cases z
end
end LR

namespace LR
open PySem PySem.Spec PyProof.Rows L2
open PyFlat (putRow putRows)
/-! ### the line -/
theorem at_len {α : Type} (u : List α) (x : α) (r : List α) : (u ++ x :: r)[u.length]? = some x := by
  rw [List.getElem?_append_right (Nat.le_refl _), Nat.sub_self]
  rfl
theorem cut_mid (xs : List V) {i j : Nat} (h : i ≤ j) (hj : j ≤ xs.length) : cutV xs (some (i : Int)) (some (j : Int)) = (xs.drop i).take (j - i) := by
  unfold cutV
  rw [HT.sIx_nat, HT.sIx_nat, Nat.min_eq_left hj, Nat.min_eq_left (Nat.le_trans h hj)]
theorem cut_part (u x r : List Int) : ((ZV (u ++ (x ++ r))).drop u.length).take x.length = ZV x := by
  unfold ZV
  rw [List.map_append, List.map_append]
  have e1 : u.length = (u.map V.int).length := (List.length_map ..).symm
  rw [e1, List.drop_left]
  have e2 : x.length = (x.map V.int).length := (List.length_map ..).symm
  rw [e2, List.take_left]
theorem putRows_app : ∀ (a b : List (List Int)), putRows (a ++ b) = putRows a ++ putRows b
  | [], b => rfl
  | x :: a, b => by
    show putRow x ++ putRows (a ++ b) = putRow x ++ putRows a ++ putRows b
    rw [putRows_app a b, List.append_assoc]
theorem putRows_len : ∀ (xs : List (List Int)), (putRows xs).length = (xs.map fun x => 1 + x.length).sum
  | [] => rfl
  | x :: xs => by
    show (putRow x ++ putRows xs).length = _
    rw [List.length_append, putRows_len xs, List.map_cons, List.sum_cons]
    show x.length + 1 + _ = _
    omega
theorem put_app : ∀ (a b : List (List (List Int))), PyWide.put (a ++ b) = PyWide.put a ++ PyWide.put b
  | [], b => rfl
  | c :: a, b => by
    show PyWide.put1 c ++ PyWide.put (a ++ b) = PyWide.put1 c ++ PyWide.put a ++ PyWide.put b
    rw [put_app a b, List.append_assoc]
theorem split_at {α : Type} {l : List α} {i : Nat} {x : α} (h : l[i]? = some x) : l = l.take i ++ x :: l.drop (i + 1) := by
  have hi : i < l.length := (List.getElem?_eq_some_iff.mp h).1
  have e := List.take_append_drop i l
  rw [List.drop_eq_getElem_cons hi] at e
  have hx : l[i] = x := (List.getElem?_eq_some_iff.mp h).2
  rw [hx] at e
  exact e.symm
/-! ### lists in the heap -/
structure RowsV (H0 H : Hp) (as : List Addr) (rs : List (List Int)) : Prop where
  len : as.length = rs.length
  at_ : ∀ (i : Nat) (a : Addr) (r : List Int), as[i]? = some a → rs[i]? = some r → H a = some (.lst (ZV r)) ∧ H0 a = none
theorem RowsV.nil {H0 H : Hp} : RowsV H0 H [] [] := ⟨rfl, fun i a r h => by simp at h⟩
theorem RowsV.mono {H0 H H' : Hp} {as : List Addr} {rs : List (List Int)} (x : RowsV H0 H as rs) (k : ∀ a ∈ as, ∀ o, H a = some o → H' a = some o) : RowsV H0 H' as rs :=
  ⟨x.len, fun i a r h1 h2 => ⟨k a (List.mem_of_getElem? h1) _ (x.at_ i a r h1 h2).1, (x.at_ i a r h1 h2).2⟩⟩
theorem RowsV.base {H0 H1 H : Hp} {as : List Addr} {rs : List (List Int)} (x : RowsV H1 H as rs) (k : Same H0 H1) : RowsV H0 H as rs :=
  ⟨x.len, fun i a r h1 h2 => ⟨(x.at_ i a r h1 h2).1, k.free (x.at_ i a r h1 h2).2⟩⟩
theorem RowsV.snoc {H0 H : Hp} {as : List Addr} {rs : List (List Int)} {a : Addr} {r : List Int} (x : RowsV H0 H as rs) (h : H a = some (.lst (ZV r))) (n : H0 a = none) : RowsV H0 H (as ++ [a]) (rs ++ [r]) := by
  refine ⟨by simp [x.len], fun i b q h1 h2 => ?_⟩
  by_cases hi : i < as.length
  · rw [List.getElem?_append_left hi] at h1
    rw [List.getElem?_append_left (by rw [← x.len]; exact hi)] at h2
    exact x.at_ i b q h1 h2
  · have hl : i < (as ++ [a]).length := (List.getElem?_eq_some_iff.mp h1).1
    have e : i = as.length := by simp at hl; omega
    subst e
    rw [List.getElem?_append_right (Nat.le_refl _)] at h1
    rw [x.len, List.getElem?_append_right (Nat.le_refl _)] at h2
    simp at h1 h2
    subst h1 h2
    exact ⟨h, n⟩
theorem RowsV.get {H0 H : Hp} {as : List Addr} {rs : List (List Int)} {i : Nat} {a : Addr} (x : RowsV H0 H as rs) (h : as[i]? = some a) : ∃ r, rs[i]? = some r ∧ H a = some (.lst (ZV r)) ∧ H0 a = none := by
  have hi : i < as.length := (List.getElem?_eq_some_iff.mp h).1
  have hi2 : i < rs.length := by rw [← x.len]; exact hi
  exact ⟨rs[i], List.getElem?_eq_getElem hi2, x.at_ i a _ h (List.getElem?_eq_getElem hi2)⟩
section
variable {P : Program} {w : World} {K : PySem.W.Frag} {mg : Str → Option Value} {base : Heap}
/-! ### read_lists -/
abbrev sRLists : Stmt := top 70
abbrev NRLists : List Str := ["line", "at", "lists", "start", "k", "end"]
theorem scRLists : FnScope NRLists ["line", "at"] (defScope sRLists) := ⟨rfl, rfl, rfl, by decide +kernel, rfl, by decide +kernel, by decide +kernel⟩
def spRLists (K : PySem.W.Frag) : Sp := fun vs H Q _ => ∃ (a : Addr) (pre post : List Int) (xs : List (List Int)), vs = [.ref a, .int (pre.length : Nat)] ∧ SqL K H a (ZV (pre ++ ((xs.length : Int) :: (putRows xs ++ post)))) ∧ (pre ++ ((xs.length : Int) :: (putRows xs ++ post))).length ≤ 2100 ∧
  ∀ (H' : Hp) (p : Addr) (bs : List Addr), Same H H' → H p = none → H' p = some (.lst (RF bs)) → RowsV H H' bs xs → Q (.ref p) H'
theorem cal_rlists (B : Bl mg) (D : Df K mg "read_lists" sRLists) : Cal P w K mg base 1 "read_lists" ["line", "at"] (spRLists K) := by
  obtain ⟨f, fd, F, m⟩ := D
  refine ⟨f, fd, ?_, m, F.kp, F.binds fun _ _ _ _ _ _ us hl => match us, hl with | [_, _], _ => rfl⟩
  refine F.ok scRLists (fun vs H Q E h => by obtain ⟨a, pre, post, xs, rfl, _⟩ := h; rfl) (fun cdv A outer s H vs Q E hr h => ?_)
  refine ⟨_, pss_cons (ps_set (i := 2) scRLists.nd rfl (Or.inl rfl) (pe_lst pa_nil))
    (pss_cons (ps_set (i := 3) scRLists.nd rfl (Or.inl rfl) (pe_op op_add (pv 1) pe_int))
    (pss_cons (ps_for PassesOwn.never rfl (pi_range1 rfl B.range (pa_cons (pe_ix ix_list (pv 0) (pv 1) (fun _ _ => rfl)) pa_nil)) (pg_name (i := 4) scRLists.nd rfl (Or.inl rfl))
      (pss_cons (ps_set (i := 5) scRLists.nd rfl (Or.inl rfl) (pe_op op_add (pe_op op_add (pv 3) pe_int) (pe_ix ix_list (pv 0) (pv 3) (fun _ _ => rfl))))
      (pss_cons (ps_expr (pe_bm PySem.F.plainAttrs_list PySem.F.slot_list_append PySem.F.type_list_append mt_append (pv 2) (pa_cons (pe_slice sl_list (pv 0) (po_some (pe_op op_add (pv 3) pe_int)) (po_some (pv 5))) pa_nil)))
      (pss_one (ps_set (i := 3) scRLists.nd rfl (Or.inl rfl) (pv 5))))))
    (pss_one (ps_ret (pv 2))))), ?_⟩
  obtain ⟨a, pre, post, xs, rfl, hl, hlen, k⟩ := h
  have xl : xs.length ≤ 2100 := by
    rw [List.length_append, List.length_cons, List.length_append, putRows_len] at hlen
    have z : xs.length ≤ (xs.map fun x => 1 + x.length).sum := by
      clear hlen hl k
      induction xs with
      | nil => simp
      | cons x xs ih =>
        rw [List.map_cons, List.sum_cons, List.length_cons]
        omega
    omega
  refine ⟨by decide, fun p hp => ⟨_, rfl, _, _, rfl, rfl, _, rfl, _, rfl, a, _, _, _, rfl, rfl, (same_upd hp).seq hl, atI_nat (ZV_at (at_len pre _ _)), xs.length, rfl, by omega, by omega, ?_⟩⟩
  have e0 : ((xs.length : Nat) : Int).toNat = xs.length := rfl
  rw [e0]
  refine for_range (lo := 0) (n := xs.length) (fun i σ H' => ∃ (bs : List Addr) (v4 v5 : Option V), σ = [some (.ref a), some (.int (pre.length : Nat)), some (.ref p), some (.int ((pre.length + 1 + (putRows (xs.take i)).length : Nat) : Int)), v4, v5] ∧
      (∀ b o, b ≠ p → H b = some o → H' b = some o) ∧ H' p = some (.lst (RF bs)) ∧ (∀ b ∈ bs, b ≠ p) ∧ RowsV H H' bs (xs.take i)) ⟨[], none, none, rfl, fun b o hb e => by rw [upd_ne hb]; exact e, upd_same, fun b z => absurd z (by simp), RowsV.nil⟩ ?_ ?_
  · rintro i σ H1 hi ⟨bs, v4, v5, rfl, kp, hp1, nb, RB⟩
    have hx : xs[i]? = some xs[i] := List.getElem?_eq_getElem hi
    generalize xs[i] = x at hx
    -- the line from here on
    have eL : pre ++ ((xs.length : Int) :: (putRows xs ++ post)) = (pre ++ (xs.length : Int) :: putRows (xs.take i)) ++ ((x.length : Int) :: (x ++ (putRows (xs.drop (i + 1)) ++ post))) := by
      have e1 := split_at hx
      have e2 : putRows xs = putRows (xs.take i) ++ (putRow x ++ putRows (xs.drop (i + 1))) := by
        conv => lhs; rw [e1]
        rw [putRows_app]
        rfl
      rw [e2]
      show _ = (pre ++ (xs.length : Int) :: putRows (xs.take i)) ++ (putRow x ++ (putRows (xs.drop (i + 1)) ++ post))
      simp [List.append_assoc]
    have ulen : (pre ++ (xs.length : Int) :: putRows (xs.take i)).length = pre.length + 1 + (putRows (xs.take i)).length := by
      rw [List.length_append, List.length_cons]
      omega
    have same1 : ∀ {b : Addr} {ys : List V}, SqL K H b ys → SqL K H1 b ys := fun {b ys} h => by
      have nbp : ∀ o, H b = some o → b ≠ p := fun o e z => by rw [z, hp] at e; cases e
      rcases h with (h | ⟨o, h⟩) | h
      · exact .inl (.inl (kp _ _ (nbp _ h) h))
      · exact .inl (.inr ⟨o, kp _ _ (nbp _ h) h⟩)
      · exact .inr h
    have hl1 := same1 hl
    have hat : (ZV (pre ++ ((xs.length : Int) :: (putRows xs ++ post))))[pre.length + 1 + (putRows (xs.take i)).length]? = some (.int (x.length : Nat)) := by
      rw [eL, ← ulen]
      exact ZV_at (at_len _ _ _)
    have hlen2 := hlen
    rw [eL, List.length_append, ulen, List.length_cons, List.length_append] at hlen2
    refine ⟨_, rfl, _, _, rfl, rfl, _, rfl, _, rfl, a, _, _, _, rfl, rfl, hl1, atI_nat hat, _, _, rfl, rfl, ?_⟩
    refine ⟨_, rfl, .inl ⟨rfl, _, SqL.of hp1⟩, _, rfl, _, rfl, _, _, rfl, rfl, _, rfl, _, rfl, _, rfl, a, _, rfl, hl1, fun q hq => ?_⟩
    have ecut : cutV (ZV (pre ++ ((xs.length : Int) :: (putRows xs ++ post)))) (some (((pre.length + 1 + (putRows (xs.take i)).length : Nat) : Int) + 1)) (some (((pre.length + 1 + (putRows (xs.take i)).length : Nat) : Int) + 1 + ((x.length : Nat) : Int))) = ZV x := by
      have c1 : ((pre.length + 1 + (putRows (xs.take i)).length : Nat) : Int) + 1 = ((pre.length + 1 + (putRows (xs.take i)).length + 1 : Nat) : Int) := by omega
      have c2 : ((pre.length + 1 + (putRows (xs.take i)).length : Nat) : Int) + 1 + ((x.length : Nat) : Int) = ((pre.length + 1 + (putRows (xs.take i)).length + 1 + x.length : Nat) : Int) := by omega
      rw [c1] at *
      rw [show (((pre.length + 1 + (putRows (xs.take i)).length + 1 : Nat) : Int) + ((x.length : Nat) : Int)) = ((pre.length + 1 + (putRows (xs.take i)).length + 1 + x.length : Nat) : Int) by omega, cut_mid _ (by omega) (by rw [List.length_map, eL, List.length_append, ulen, List.length_cons, List.length_append]; omega)]
      have e3 : (pre ++ (xs.length : Int) :: putRows (xs.take i)) ++ ((x.length : Int) :: (x ++ (putRows (xs.drop (i + 1)) ++ post))) = ((pre ++ (xs.length : Int) :: putRows (xs.take i)) ++ [(x.length : Int)]) ++ (x ++ (putRows (xs.drop (i + 1)) ++ post)) := by simp
      have e4 : ((pre ++ (xs.length : Int) :: putRows (xs.take i)) ++ [(x.length : Int)]).length = pre.length + 1 + (putRows (xs.take i)).length + 1 := by rw [List.length_append, ulen]; rfl
      rw [eL, e3, ← e4, Nat.add_sub_cancel_left]
      exact cut_part _ _ _
    have nqp : q ≠ p := fun z => by rw [z, hp1] at hq; cases hq
    have hq0 : H q = none := by
      cases z : H q with
      | none => rfl
      | some o =>
        rw [kp q o nqp z] at hq
        cases hq
    have blen : bs.length = i := by
      rw [RB.len, List.length_take]
      omega
    refine ⟨p, _, _, rfl, rfl, (same_upd hq) _ _ hp1, by rw [List.length_map, blen, sizeLine_eq]; omega, _, rfl, bs ++ [q], some (.int (0 + (i : Int))), some (.int (((pre.length + 1 + (putRows (xs.take i)).length : Nat) : Int) + 1 + ((x.length : Nat) : Int))), ?_, fun b o hb e => ?_, ?_, fun b hb => ?_, ?_⟩
    · have e5 : ((pre.length + 1 + (putRows (xs.take i)).length : Nat) : Int) + 1 + ((x.length : Nat) : Int) = ((pre.length + 1 + (putRows (xs.take (i + 1))).length : Nat) : Int) := by
        rw [take_more hx, putRows_app, List.length_append]
        show _ = ((pre.length + 1 + ((putRows (xs.take i)).length + (putRow x ++ putRows []).length) : Nat) : Int)
        rw [List.length_append]
        show _ = ((pre.length + 1 + ((putRows (xs.take i)).length + (x.length + 1 + 0)) : Nat) : Int)
        omega
      rw [← e5]
      rfl
    · rw [upd_ne hb]
      exact (same_upd hq) _ _ (kp b o hb e)
    · rw [upd_same]
      simp
    · rcases List.mem_append.mp hb with hb | hb
      · exact nb b hb
      · rw [List.mem_singleton.mp hb]
        exact nqp
    · rw [take_more hx]
      have RB2 := RB.mono (H' := upd (upd H1 q (.lst (cutV (ZV (pre ++ ((xs.length : Int) :: (putRows xs ++ post)))) (some (((pre.length + 1 + (putRows (xs.take i)).length : Nat) : Int) + 1)) (some (((pre.length + 1 + (putRows (xs.take i)).length : Nat) : Int) + 1 + ((x.length : Nat) : Int)))))) p (.lst (RF bs ++ [.ref q]))) fun b hb o e => by
        rw [upd_ne (nb b hb)]
        exact (same_upd hq) _ _ e
      refine RB2.snoc ?_ hq0
      rw [upd_ne nqp, upd_same, ecut]
  · rintro σ H1 ⟨bs, v4, v5, rfl, kp, hp1, nb, RB⟩
    rw [List.take_length] at RB
    exact ⟨_, rfl, k H1 p bs (fun b o e => kp b o (fun z => by rw [z, hp] at e; cases e) e) hp hp1 RB⟩
end
end LR

namespace LR
open PySem PySem.Spec PyProof.Rows L2
open PyFlat (putRow putRows)
/-- the call c stands as a tuple at t -/
structure CallAt (H : Hp) (t : Addr) (c : List (List Int)) : Prop where
  ex : ∃ (q : Int) (ns : List Int) (xs : List (List Int)) (na la : Addr) (bs : List Addr), c = (q :: ns) :: xs ∧ H t = some (.tup [.int q, .ref na, .ref la]) ∧ H na = some (.lst (ZV ns)) ∧ H la = some (.lst (RF bs)) ∧ bs.length = xs.length ∧ ∀ (i : Nat) (b : Addr) (x : List Int), bs[i]? = some b → xs[i]? = some x → H b = some (.lst (ZV x))
theorem CallAt.same {H H' : Hp} {t : Addr} {c : List (List Int)} (x : CallAt H t c) (k : ∀ b o, (∀ ps, o ≠ .tbl ps) → H b = some o → H' b = some o) : CallAt H' t c := by
  obtain ⟨q, ns, xs, na, la, bs, e, h1, h2, h3, h4, h5⟩ := x.ex
  exact ⟨q, ns, xs, na, la, bs, e, k _ _ (fun _ z => by cases z) h1, k _ _ (fun _ z => by cases z) h2, k _ _ (fun _ z => by cases z) h3, h4, fun i b x a1 a2 => k _ _ (fun _ z => by cases z) (h5 i b x a1 a2)⟩
structure CallsAt (H : Hp) (ts : List Addr) (cs : List (List (List Int))) : Prop where
  len : ts.length = cs.length
  at_ : ∀ (i : Nat) (t : Addr) (c : List (List Int)), ts[i]? = some t → cs[i]? = some c → CallAt H t c
theorem snoc_get {α : Type} {l : List α} {a x : α} {i : Nat} (h : (l ++ [a])[i]? = some x) : l[i]? = some x ∨ (i = l.length ∧ x = a) := by
  by_cases hi : i < l.length
  · rw [List.getElem?_append_left hi] at h
    exact .inl h
  · have hl : i < (l ++ [a]).length := (List.getElem?_eq_some_iff.mp h).1
    have e : i = l.length := by simp at hl; omega
    subst e
    rw [List.getElem?_append_right (Nat.le_refl _)] at h
    simp at h
    exact .inr ⟨rfl, h.symm⟩
section
variable {P : Program} {w : World} {K : PySem.W.Frag} {mg : Str → Option Value} {base : Heap}
/-- what has come since H, the place p aside -/
def Nw (H : Hp) (p : Addr) (H' : Hp) : Hp := fun b => if b = p then none else match H b with
  | none => H' b
  | some _ => none
theorem nw_of {H H' : Hp} {p b : Addr} (n : b ≠ p) (h : H b = none) : Nw H p H' b = H' b := by
  unfold Nw
  rw [if_neg n, h]
theorem nw_some {H H' : Hp} {p b : Addr} {o : HO} (e : Nw H p H' b = some o) : b ≠ p ∧ H b = none ∧ H' b = some o := by
  unfold Nw at e
  by_cases c : b = p
  · rw [if_pos c] at e
    cases e
  · rw [if_neg c] at e
    cases q : H b with
    | none =>
      rw [q] at e
      exact ⟨c, rfl, e⟩
    | some u =>
      rw [q] at e
      cases e
/-! ### read_calls -/
abbrev sRCalls : Stmt := top 69
abbrev NRCalls : List Str := ["line", "calls", "at", "number", "lists_at", "numbers", "lists", "row"]
theorem scRCalls : FnScope NRCalls ["line"] (defScope sRCalls) := ⟨rfl, rfl, rfl, by decide +kernel, rfl, by decide +kernel, by decide +kernel⟩
def spRCalls (K : PySem.W.Frag) : Sp := fun vs H Q _ => ∃ (a : Addr) (cs : List (List (List Int))), vs = [.ref a] ∧ SqL K H a (ZV (PyWide.put cs)) ∧ (PyWide.put cs).length ≤ 2100 ∧ (∀ c ∈ cs, PyWide.okCall c) ∧
  ∀ (H' : Hp) (p : Addr) (ts : List Addr), Same H H' → H p = none → H' p = some (.lst (RF ts)) → CallsAt (Nw H p H') ts cs → Q (.ref p) H'
def atOf (σ : List (Option V)) : Nat := match σ[2]? with
  | some (some (V.int z)) => z.toNat
  | _ => 0
theorem put_count : ∀ (cs : List (List (List Int))), (∀ c ∈ cs, PyWide.okCall c) → cs.length ≤ (PyWide.put cs).length
  | [], _ => Nat.zero_le _
  | c :: cs, h => by
    have ih := put_count cs fun d hd => h d (List.mem_cons_of_mem _ hd)
    obtain ⟨q, ns, xs, rfl⟩ := h c List.mem_cons_self
    show cs.length + 1 ≤ (PyWide.put1 ((q :: ns) :: xs) ++ PyWide.put cs).length
    rw [PyWide.put1_append, List.length_cons, List.length_append, List.length_cons, List.length_append]
    omega
theorem cal_rcalls (B : Bl mg) (D : Df K mg "read_calls" sRCalls) (c1 : Cal P w K mg base 1 "read_lists" ["line", "at"] (spRLists K)) : Cal P w K mg base 2 "read_calls" ["line"] (spRCalls K) := by
  obtain ⟨f, fd, F, m⟩ := D
  refine ⟨f, fd, ?_, m, F.kp, F.binds fun _ _ _ _ _ _ us hl => match us, hl with | [_], _ => rfl⟩
  refine F.ok scRCalls (fun vs H Q E h => by obtain ⟨a, cs, rfl, _⟩ := h; rfl) (fun cdv A outer s H vs Q E hr h => ?_)
  refine ⟨_, pss_cons (ps_set (i := 1) scRCalls.nd rfl (Or.inl rfl) (pe_lst pa_nil))
    (pss_cons (ps_set (i := 2) scRCalls.nd rfl (Or.inl rfl) pe_int)
    (pss_cons (ps_while PassesOwn.never (pt_cmpR op_lt (pv 2) (pe_callB call_len_seq (by rfl) B.len PySem.boot_len (pa_cons (pv 0) pa_nil)) (nomark _))
      (pss_cons (ps_set (i := 3) scRCalls.nd rfl (Or.inl rfl) (pe_ix ix_list (pv 0) (pv 2) (fun _ _ => rfl)))
      (pss_cons (ps_set (i := 4) scRCalls.nd rfl (Or.inl rfl) (pe_op op_add (pe_op op_add (pv 2) pe_int) (pe_ix ix_list (pv 0) (pe_op op_add (pv 2) pe_int) (fun _ _ => rfl))))
      (pss_cons (ps_set (i := 5) scRCalls.nd rfl (Or.inl rfl) (pe_slice sl_list (pv 0) (po_some (pe_op op_add (pv 2) pe_int)) (po_some (pv 4))))
      (pss_cons (ps_set (i := 6) scRCalls.nd rfl (Or.inl rfl) (pe_cal c1 hr rfl (pa_cons (pv 0) (pa_cons (pv 4) pa_nil))))
      (pss_cons (ps_expr (pe_bm PySem.F.plainAttrs_list PySem.F.slot_list_append PySem.F.type_list_append mt_append (pv 1) (pa_cons (pe_tup (pa_cons (pv 3) (pa_cons (pv 5) (pa_cons (pv 6) pa_nil)))) pa_nil)))
      (pss_one (ps_set (i := 2) scRCalls.nd rfl (Or.inl rfl) (pe_op op_add (pe_op op_add (pv 4) pe_int) (pe_callB (cr_sum rfl) (by rfl) B.sum (by decide +kernel) (pa_cons (pe_lc (own := [("row", 7)]) (g := gName 7) (tt := tYes) (te := tOp (rI0 fun i j => .int (i + j)) (tC (.int 1)) (tCB (rLen K) (tCons (tVar 7) tNil))) rfl scRCalls.nd (pi_list (pv 6)) (blkOk_by (own := [("row", 7)]) (N := NRCalls) (sc := defScope sRCalls) (by decide +kernel))
        (fun _ _ _ _ _ => pg_name (i := 7) scRCalls.nd rfl (Or.inl rfl)) (fun _ _ _ _ _ => pts_nil) (fun _ _ _ _ _ => pe_op op_add pe_int (pe_callB call_len_seq (by rfl) B.len PySem.boot_len (pa_cons (pv 7) pa_nil)))) pa_nil)))))))))))
    (pss_one (ps_ret (pv 1))))), ?_⟩
  obtain ⟨a, cs, rfl, hl, hlen, hok, k⟩ := h
  refine ⟨by decide, fun p hp => ?_⟩
  have zL : (ZV (PyWide.put cs)).length = (PyWide.put cs).length := List.length_map ..
  refine while_by (fun σ H' => ∃ (i : Nat) (ts : List Addr) (v3 v4 v5 v6 v7 : Option V), i ≤ cs.length ∧ σ = [some (.ref a), some (.ref p), some (.int ((PyWide.put (cs.take i)).length : Nat)), v3, v4, v5, v6, v7] ∧ (∀ b o, b ≠ p → H b = some o → H' b = some o) ∧ H' p = some (.lst (RF ts)) ∧
      ts.length = i ∧ (∀ (j : Nat) (t : Addr) (c : List (List Int)), ts[j]? = some t → cs[j]? = some c → CallAt (Nw H p H') t c)) (fun σ _ => (PyWide.put cs).length - atOf σ)
    ⟨0, [], none, none, none, none, none, Nat.zero_le _, rfl, fun b o hb e => by rw [upd_ne hb]; exact e, upd_same, rfl, fun j t c z => by simp at z⟩ ?_
    (fun σ H Q Q' hq ⟨v, e, v', e', r, ys, e2, h3, i, j, e4, e5, kk, e6, h⟩ => ⟨v, e, v', e', r, ys, e2, h3, i, j, e4, e5, kk, e6, hq _ _ h⟩)
  rintro σ H1 ⟨i, ts, v3, v4, v5, v6, v7, hi, rfl, kp, hp1, tl, CA⟩
  have same1 : ∀ {b : Addr} {ys : List V}, SqL K H b ys → SqL K H1 b ys := fun {b ys} h => by
    have nbp : ∀ o, H b = some o → b ≠ p := fun o e z => by rw [z, hp] at e; cases e
    rcases h with (h | ⟨o, h⟩) | h
    · exact .inl (.inl (kp _ _ (nbp _ h) h))
    · exact .inl (.inr ⟨o, kp _ _ (nbp _ h) h⟩)
    · exact .inr h
  have hl1 := same1 hl
  refine ⟨_, rfl, _, rfl, a, _, rfl, .inl hl1, _, _, rfl, rfl, _, rfl, ?_⟩
  rw [zL]
  by_cases hlt : i < cs.length
  · have hc : cs[i]? = some cs[i] := List.getElem?_eq_getElem hlt
    obtain ⟨q, ns, xs, ec⟩ := hok cs[i] (List.getElem_mem hlt)
    rw [ec] at hc
    -- the line from here on
    obtain ⟨u, eu⟩ : ∃ u, u = PyWide.put (cs.take i) := ⟨_, rfl⟩
    obtain ⟨rest, er⟩ : ∃ rest, rest = PyWide.put (cs.drop (i + 1)) := ⟨_, rfl⟩
    have eL : PyWide.put cs = u ++ (q :: ((ns.length : Int) :: (ns ++ ((xs.length : Int) :: (putRows xs ++ rest))))) := by
      conv => lhs; rw [split_at hc]
      rw [put_app, eu, er]
      show _ ++ (PyWide.put1 ((q :: ns) :: xs) ++ PyWide.put (cs.drop (i + 1))) = _
      rw [PyWide.put1_append]
      rfl
    rw [← eu]
    have lenL : (PyWide.put cs).length = u.length + (1 + (1 + (ns.length + (1 + ((putRows xs).length + rest.length))))) := by
      rw [eL]
      simp only [List.length_append, List.length_cons]
      omega
    rw [decide_eq_true (show (((u.length : Nat) : Int) < (((PyWide.put cs).length : Nat) : Int)) by omega)]
    refine iteT ?_
    have at0 : (ZV (PyWide.put cs))[u.length]? = some (.int q) := by
      rw [eL]
      exact ZV_at (at_len _ _ _)
    have at1 : (ZV (PyWide.put cs))[u.length + 1]? = some (.int (ns.length : Nat)) := by
      have e : PyWide.put cs = (u ++ [q]) ++ ((ns.length : Int) :: (ns ++ ((xs.length : Int) :: (putRows xs ++ rest)))) := by rw [eL]; simp
      have e2 : u.length + 1 = (u ++ [q]).length := by simp
      rw [e, e2]
      exact ZV_at (at_len _ _ _)
    refine ⟨_, rfl, _, rfl, a, _, _, _, rfl, rfl, hl1, atI_nat at0, ?_⟩
    refine ⟨_, rfl, _, _, rfl, rfl, _, rfl, _, rfl, _, _, rfl, rfl, a, _, _, _, rfl, rfl, hl1, at_of (j := u.length + 1) (by omega) at1, _, _, rfl, rfl, ?_⟩
    refine ⟨_, rfl, _, rfl, _, _, rfl, rfl, _, rfl, _, rfl, _, rfl, a, _, rfl, hl1, fun na hna => ?_⟩
    have ecut : cutV (ZV (PyWide.put cs)) (some (((u.length : Nat) : Int) + 2)) (some (((u.length : Nat) : Int) + 2 + ((ns.length : Nat) : Int))) = ZV ns := by
      have e1 : ((u.length : Nat) : Int) + 2 = ((u.length + 2 : Nat) : Int) := by omega
      have e2 : ((u.length + 2 : Nat) : Int) + ((ns.length : Nat) : Int) = ((u.length + 2 + ns.length : Nat) : Int) := by omega
      rw [e1, e2, cut_mid _ (by omega) (by rw [zL]; omega), Nat.add_sub_cancel_left]
      have e3 : PyWide.put cs = (u ++ [q, (ns.length : Int)]) ++ (ns ++ ((xs.length : Int) :: (putRows xs ++ rest))) := by rw [eL]; simp
      have e4 : u.length + 2 = (u ++ [q, (ns.length : Int)]).length := by simp
      rw [e3, e4]
      exact cut_part _ _ _
    have nnp : na ≠ p := fun z => by rw [z, hp1] at hna; cases hna
    have eAt : ((u.length : Nat) : Int) + 2 + ((ns.length : Nat) : Int) = (((u ++ q :: (ns.length : Int) :: ns).length : Nat) : Int) := by
      rw [List.length_append, List.length_cons, List.length_cons]
      omega
    have eL2 : PyWide.put cs = (u ++ q :: (ns.length : Int) :: ns) ++ ((xs.length : Int) :: (putRows xs ++ rest)) := by rw [eL]; simp
    refine ⟨_, rfl, _, rfl, a, u ++ q :: (ns.length : Int) :: ns, rest, xs, by rw [← eAt]; rfl, (same_upd hna).seq (by rw [← eL2]; exact hl1), by rw [← eL2]; exact hlen, fun H2 la bs s2 hla hla2 RB => ?_⟩
    have hp2 : H2 p = some (.lst (RF ts)) := s2 _ _ ((same_upd hna) _ _ hp1)
    have hna2 : H2 na = some (.lst (ZV ns)) := by
      have z := s2 _ _ (upd_same (H := H1) (a := na) (o := .lst (cutV (ZV (PyWide.put cs)) (some (((u.length : Nat) : Int) + 2)) (some (((u.length : Nat) : Int) + 2 + ((ns.length : Nat) : Int))))))
      rw [ecut] at z
      exact z
    have s12 : Same H1 H2 := (same_upd hna).trans s2
    have nlp : la ≠ p := fun z => by rw [z] at hla; rw [(same_upd hna) _ _ hp1] at hla; cases hla
    refine ⟨_, rfl, .inl ⟨rfl, _, SqL.of hp2⟩, _, rfl, _, rfl, _, rfl, by show 3 ≤ sizeLine; decide, fun t ht => ?_⟩
    have ntp : t ≠ p := fun z => by rw [z, hp2] at ht; cases ht
    refine ⟨p, _, _, rfl, rfl, (same_upd ht) _ _ hp2, by rw [List.length_map, tl, sizeLine_eq]; have := put_count cs hok; omega, ?_⟩
    have s13 : ∀ b o, b ≠ p → H2 b = some o → upd (upd H2 t (.tup [.int q, .ref na, .ref la])) p (.lst (RF ts ++ [.ref t])) b = some o := fun b o hb e => by
      rw [upd_ne hb]
      exact (same_upd ht) _ _ e
    have hla3 := s13 _ _ nlp hla2
    have nbs : ∀ b ∈ bs, b ≠ p := fun b hb z => by
      obtain ⟨j, hj⟩ := List.getElem?_of_mem hb
      obtain ⟨_, _, _, e⟩ := RB.get hj
      rw [z, (same_upd hna) _ _ hp1] at e
      cases e
    obtain ⟨H3, eH3⟩ : ∃ H3, H3 = upd (upd H2 t (.tup [.int q, .ref na, .ref la])) p (.lst (RF ts ++ [.ref t])) := ⟨_, rfl⟩
    rw [← eH3] at s13 hla3
    have h3p : H3 p = some (.lst (RF ts ++ [.ref t])) := by rw [eH3]; exact upd_same
    have h3t : H3 t = some (.tup [.int q, .ref na, .ref la]) := by rw [eH3, upd_ne ntp]; exact upd_same
    refine ⟨_, rfl, _, _, rfl, rfl, _, rfl, la, rfl, ⟨_, SqL.of (by rw [← eH3]; exact hla3)⟩, fun D hD => ?_⟩
    rw [← eH3] at hD
    have xl : xs.length ≤ 2100 := by
      have z : xs.length ≤ (putRows xs).length := by
        rw [putRows_len]
        clear eL eL2 lenL RB ec hc hla2 hla3 eH3
        induction xs with
        | nil => simp
        | cons x xs ih =>
          rw [List.map_cons, List.sum_cons, List.length_cons]
          omega
      omega
    rw [← eH3]
    refine lc_map (K := K) (a := la) (xs := RF bs) (ZV (xs.map fun x => (1 : Int) + (x.length : Nat))) hD (SqL.of hla3) (by simp [RB.len]) (by rw [List.length_map, RB.len]; omega) (fun x => rfl) ?_ ?_
    · intro j x y H' Q' hx hy s4 k'
      obtain ⟨b, hb, rfl⟩ := RF_get hx
      obtain ⟨r, hr1, hr2, _⟩ := RB.get hb
      rw [List.getElem?_map, List.getElem?_map, hr1] at hy
      cases hy
      refine ⟨_, rfl, b, _, rfl, .inl (SqL.of (s4 _ _ (s13 _ _ (nbs b (List.mem_of_getElem? hb)) hr2))), _, _, rfl, rfl, ?_⟩
      have e : V.int (1 + (((ZV r).length : Nat) : Int)) = V.int (1 + ((r.length : Nat) : Int)) := by rw [List.length_map]
      exact qeq e (k' H' (Same.refl _))
    · intro H4 s4 hD4
      refine ⟨D, _, rfl, SqL.of hD4, _, _, rfl, rfl, ?_⟩
      have esum : (xs.map fun x => (1 : Int) + (x.length : Nat)).sum = (((putRows xs).length : Nat) : Int) := by
        rw [putRows_len, ← sum_cast, List.map_map]
        congr 1
      have e5 : PyWide.put (cs.take (i + 1)) = u ++ (q :: ((ns.length : Int) :: (ns ++ ((xs.length : Int) :: putRows xs)))) := by
        rw [take_more hc, put_app, ← eu]
        show u ++ (PyWide.put1 ((q :: ns) :: xs) ++ []) = _
        rw [PyWide.put1_append]
        show u ++ (q :: ((ns.length : Int) :: (ns ++ ((xs.length : Int) :: (putRows xs ++ []))))) = _
        rw [List.append_nil]
      have e6 : ((u.length : Nat) : Int) + 2 + ((ns.length : Nat) : Int) + 1 + (xs.map fun x => (1 : Int) + (x.length : Nat)).sum = (((PyWide.put (cs.take (i + 1))).length : Nat) : Int) := by
        rw [esum, e5]
        simp only [List.length_append, List.length_cons]
        omega
      refine ⟨⟨i + 1, ts ++ [t], some (.int q), some (.int (((u.length : Nat) : Int) + 2 + ((ns.length : Nat) : Int))), some (.ref na), some (.ref la), v7, hlt, ?_, fun b o hb e => s4 _ _ (s13 _ _ hb (s12 _ _ (kp b o hb e))), ?_, by rw [List.length_append, tl]; rfl, fun j t' c hj hcj => ?_⟩, ?_⟩
      · rw [← e6]
        rfl
      · rw [s4 _ _ h3p]
        simp
      · rcases snoc_get hj with z | ⟨z1, z2⟩
        · refine (CA j t' c z hcj).same fun b o hn e => ?_
          obtain ⟨hb, hH, e⟩ := nw_some e
          rw [nw_of hb hH]
          exact s4 _ _ (s13 _ _ hb (s12 _ _ e))
        · rw [z1, tl] at hcj
          rw [z2]
          have ecc : c = (q :: ns) :: xs := Option.some.inj (hcj.symm.trans hc)
          have fr : ∀ b, b ≠ p → H1 b = none → H b = none := fun b hb e => by
            cases z : H b with
            | none => rfl
            | some o =>
              rw [kp b o hb z] at e
              cases e
          have f1 : H1 la = none := (same_upd hna).free hla
          have f2 : H1 t = none := s12.free ht
          refine ⟨q, ns, xs, na, la, bs, ecc, ?_, ?_, ?_, RB.len, fun j2 b x h1 h2 => ?_⟩
          · rw [nw_of ntp (fr t ntp f2)]
            exact s4 _ _ h3t
          · rw [nw_of nnp (fr na nnp hna)]
            exact s4 _ _ (s13 _ _ nnp hna2)
          · rw [nw_of nlp (fr la nlp f1)]
            exact s4 _ _ hla3
          · have nb := nbs b (List.mem_of_getElem? h1)
            rw [nw_of nb (fr b nb ((same_upd hna).free (RB.at_ j2 b x h1 h2).2))]
            exact s4 _ _ (s13 _ _ nb (RB.at_ j2 b x h1 h2).1)
      · show (PyWide.put cs).length - (((u.length : Nat) : Int) + 2 + ((ns.length : Nat) : Int) + 1 + (xs.map fun x => (1 : Int) + (x.length : Nat)).sum).toNat < (PyWide.put cs).length - ((u.length : Nat) : Int).toNat
        rw [esum]
        omega
  · have ei : i = cs.length := by omega
    subst ei
    rw [List.take_length, decide_eq_false (by omega)]
    exact iteF ⟨_, rfl, k H1 p ts (fun b o e => kp b o (fun z => by rw [z, hp] at e; cases e) e) hp hp1 ⟨tl, fun j t c h1 h2 => CA j t c h1 h2⟩⟩
end
end LR

namespace LR
open PySem PySem.Spec PyProof.Rows L2
section
variable {P : Program} {w : World} {K : PySem.W.Frag} {mg : Str → Option Value} {base : Heap}
/-! ### is_sort -/
abbrev sIsSort : Stmt := top 46
theorem scIsSort : FnScope ["sort"] ["sort"] (defScope sIsSort) := ⟨rfl, rfl, rfl, by decide +kernel, rfl, by decide +kernel, by decide +kernel⟩
def spIsSort (K : PySem.W.Frag) : Sp := fun vs H Q _ => ∃ (r : Addr) (x : List Nat), vs = [.ref r] ∧ SqL K H r (Z x) ∧ ∀ H', Same H H' → Q (.bl (Mu33.sortOf x).isSome) H'
theorem cal_isSort (B : Bl mg) (D : Df K mg "is_sort" sIsSort) (g1 : Gn mg "WIDEST" 20) : Cal P w K mg base 1 "is_sort" ["sort"] (spIsSort K) := by
  obtain ⟨f, fd, F, m⟩ := D
  refine ⟨f, fd, ?_, m, F.kp, F.binds fun _ _ _ _ _ _ us hl => match us, hl with | [_], _ => rfl⟩
  refine F.ok scIsSort (fun vs H Q E h => by obtain ⟨r, x, rfl, _⟩ := h; rfl) (fun cdv A outer s H vs Q E hr h => ?_)
  refine ⟨_, pss_one (ps_ret (pe_and (pe_cmpR op_eq (pe_callB call_len_seq (by rfl) B.len PySem.boot_len (pa_cons (pv 0) pa_nil)) pe_int (nomark _)) (pe_and (pe_chain op_le op_le pe_int (pe_ix ix_list (pv 0) pe_int (fun _ _ => rfl)) (pe_gn g1 rfl)) (pe_one (pe_cmpR op_in_seq (pe_ix ix_list (pv 0) pe_int (fun _ _ => rfl)) (pe_tup (pa_cons pe_int (pa_cons pe_int pa_nil))) (by rfl)))))), ?_⟩
  obtain ⟨r, x, rfl, hx, k⟩ := h
  have zx : (Z x).length = x.length := List.length_map ..
  refine ⟨_, rfl, r, _, rfl, .inl hx, rfl, _, rfl, ?_⟩
  rw [zx]
  by_cases c2 : x.length = 2
  · obtain ⟨a, b, rfl⟩ : ∃ a b, x = [a, b] := by
      match x, c2 with
      | [a, b], _ => exact ⟨a, b, rfl⟩
    refine iteT ⟨_, rfl, r, _, _, _, rfl, rfl, hx, at_of (j := 0) rfl rfl, _, _, rfl, rfl, _, rfl, ?_⟩
    by_cases c1 : (1 : Int) ≤ (a : Nat)
    · rw [decide_eq_true c1]
      refine iteT ⟨_, _, rfl, rfl, _, rfl, ?_⟩
      by_cases c20 : ((a : Nat) : Int) ≤ 20
      · rw [decide_eq_true c20]
        refine iteT ⟨_, rfl, r, _, _, _, rfl, rfl, hx, at_of (j := 1) rfl rfl, by show 2 ≤ sizeLine; decide, fun t ht => ⟨t, _, rfl, .inr (.inl (.inl upd_same)), rfl, rfl, ?_⟩⟩
        have e : inV (V.int ((b : Nat) : Int)) [V.int 0, V.int 1] = (Mu33.sortOf [a, b]).isSome := by
          by_cases cb : b ≤ 1
          · have e1 : (Mu33.sortOf [a, b]).isSome = true := by
              show (if 1 ≤ a ∧ (a ≤ 20 ∧ b ≤ 1) then some _ else none : Option Mu33.Sort_).isSome = true
              rw [if_pos ⟨by omega, by omega, cb⟩]
              rfl
            rw [e1]
            rcases (show b = 0 ∨ b = 1 by omega) with rfl | rfl <;> rfl
          · have e1 : (Mu33.sortOf [a, b]).isSome = false := by
              show (if 1 ≤ a ∧ (a ≤ 20 ∧ b ≤ 1) then some _ else none : Option Mu33.Sort_).isSome = false
              rw [if_neg (fun z => cb z.2.2)]
              rfl
            rw [e1]
            have n0 : ¬ (0 : Int) = ((b : Nat) : Int) := by omega
            have n1 : ¬ (1 : Int) = ((b : Nat) : Int) := by omega
            simp [inV, eqV, n0, n1]
        exact qeq (congrArg V.bl e) (k _ (same_upd ht))
      · rw [decide_eq_false c20]
        have e1 : (Mu33.sortOf [a, b]).isSome = false := by
          show (if 1 ≤ a ∧ (a ≤ 20 ∧ b ≤ 1) then some _ else none : Option Mu33.Sort_).isSome = false
          rw [if_neg (fun z => by omega)]
          rfl
        rw [e1] at k
        exact iteF (k H (Same.refl _))
    · rw [decide_eq_false c1]
      have e1 : (Mu33.sortOf [a, b]).isSome = false := by
        show (if 1 ≤ a ∧ (a ≤ 20 ∧ b ≤ 1) then some _ else none : Option Mu33.Sort_).isSome = false
        rw [if_neg (fun z => by omega)]
        rfl
      rw [e1] at k
      exact iteF ⟨_, rfl, iteF (k H (Same.refl _))⟩
  · have e : decide (V.int ((x.length : Nat) : Int) = V.int 2) = false := decide_eq_false fun z => by
      injection z with z
      omega
    rw [e]
    have e1 : (Mu33.sortOf x).isSome = false := by
      unfold Mu33.sortOf
      split
      · exact absurd rfl c2
      · rfl
    rw [e1] at k
    exact iteF (k H (Same.refl _))
end
end LR

namespace LR
open PySem PySem.Spec PyProof.Rows L2
/-! ### attributes -/
theorem putF_len {f : Str} {v x : V} : ∀ {fs : List (Str × V)}, fs.lookup f = some x → (putF f v fs).length = fs.length
  | [], h => by cases h
  | (g, y) :: r, h => by
    rw [show putF f v ((g, y) :: r) = (if g = f then (g, v) :: r else (g, y) :: putF f v r) from rfl]
    by_cases c : g = f
    · rw [if_pos c]
      rfl
    · rw [if_neg c, List.length_cons, List.length_cons]
      have hb : (f == g) = false := beq_eq_false_iff_ne.mpr fun z => c z.symm
      rw [List.lookup, hb] at h
      rw [putF_len h]
theorem putF_grow (f : Str) (v : V) : ∀ fs : List (Str × V), (putF f v fs).length ≤ fs.length + 1
  | [] => Nat.le_refl _
  | (g, y) :: r => by
    rw [show putF f v ((g, y) :: r) = (if g = f then (g, v) :: r else (g, y) :: putF f v r) from rfl]
    by_cases c : g = f
    · rw [if_pos c]
      exact Nat.le_succ _
    · rw [if_neg c]
      exact Nat.succ_le_succ (putF_grow f v r)
theorem lk_put {f : Str} {v : V} {fs : List (Str × V)} : (putF f v fs).lookup f = some v := by
  rw [lookup_putF, if_pos rfl]
theorem lk_ne {f g : Str} {v : V} {fs : List (Str × V)} (h : ¬ g = f) : (putF f v fs).lookup g = fs.lookup g := by
  rw [lookup_putF, if_neg h]
/-! ### lanterns and the shop in the heap -/
structure LanAt (CL : Addr) (H : Hp) (l ra : Addr) (c : Mu33.Lantern) : Prop where
  ex : ∃ (dl : Addr) (fs : List (Str × V)), H l = some (.ins CL dl fs) ∧ fs.length ≤ 100 ∧ fs.lookup ("girth" : Str) = some (.int (c.girth : Nat)) ∧ fs.lookup ("ring" : Str) = some (.ref ra) ∧ fs.lookup ("oil" : Str) = some (.int (c.has : Nat))
  ring : H ra = some (.lst (Z c.ring))
theorem LanAt.keep {CL : Addr} {H H' : Hp} {l ra : Addr} {c : Mu33.Lantern} (x : LanAt CL H l ra c) (h1 : ∀ o, H l = some o → H' l = some o) (h2 : ∀ o, H ra = some o → H' ra = some o) : LanAt CL H' l ra c := by
  obtain ⟨⟨dl, fs, e1, e2⟩, e3⟩ := x
  exact ⟨⟨dl, fs, h1 _ e1, e2⟩, h2 _ e3⟩
/-- the places of a shop -/
structure Ad where
  dx : Addr
  fs : List (Str × V)
  aw : Addr
  ap : Addr
  ak : Addr
  ax : Addr
  ad : Addr
  ag : Addr
  las : List Addr
  ras : List Addr
def kvsOf (ls : List Mu33.Lantern) (las : List Addr) : List (Key × V) := List.zipWith (fun c l => (Sum.inl ((c.id : Nat) : Int), V.ref l)) ls las
structure ShopAt (C CL : Addr) (H : Hp) (a : Addr) (s : Mu33.State) (A : Ad) : Prop where
  ob : H a = some (.ins C A.dx A.fs)
  len : A.fs.length ≤ 100
  fnew : A.fs.lookup ("new" : Str) = some (.int (s.new : Nat))
  fwidths : A.fs.lookup ("widths" : Str) = some (.ref A.aw)
  fpainted : A.fs.lookup ("painted" : Str) = some (.ref A.ap)
  fstock : A.fs.lookup ("stock" : Str) = some (.ref A.ak)
  fstrips : A.fs.lookup ("strips" : Str) = some (.ref A.ax)
  flanterns : A.fs.lookup ("lanterns" : Str) = some (.ref A.ad)
  fmade : A.fs.lookup ("made" : Str) = some (.int (s.next : Nat))
  fgone : A.fs.lookup ("panes_gone" : Str) = some (.ref A.ag)
  fcome : A.fs.lookup ("brass_come" : Str) = some (.int (s.bought : Nat))
  fscrap : A.fs.lookup ("scrap" : Str) = some (.int (s.scrap : Nat))
  faway : A.fs.lookup ("brass_gone" : Str) = some (.int (s.away : Nat))
  hw : H A.aw = some (.lst (Z (Wl s)))
  hp : H A.ap = some (.lst (Z (Pl s)))
  hk : H A.ak = some (.lst (Z s.stock))
  hx : H A.ax = some (.lst (Z s.strips))
  hg : H A.ag = some (.lst (Z s.gone))
  hd : H A.ad = some (.dK (kvsOf s.lanterns A.las))
  ll : A.las.length = s.lanterns.length
  rl : A.ras.length = s.lanterns.length
  lan : ∀ (i : Nat) (c : Mu33.Lantern) (l r : Addr), s.lanterns[i]? = some c → A.las[i]? = some l → A.ras[i]? = some r → LanAt CL H l r c
  nd : (A.aw :: A.ap :: A.ak :: A.ax :: A.ag :: A.ras).Nodup
  ndl : (a :: A.las).Nodup
/-- all the places -/
def foot (a : Addr) (A : Ad) : List Addr := a :: A.aw :: A.ap :: A.ak :: A.ax :: A.ad :: A.ag :: (A.las ++ A.ras)
/-- nothing but a table stands at b -/
def NL (H : Hp) (b : Addr) : Prop := ∀ o, H b = some o → ∃ ps, o = .tbl ps
theorem NL.none {H : Hp} {b : Addr} (h : H b = none) : NL H b := fun o e => by rw [h] at e; cases e
theorem NL.ne {H : Hp} {b c : Addr} {o : HO} (h : NL H b) (e : H c = some o) (n : ∀ ps, o ≠ .tbl ps) : b ≠ c := fun z => by
  obtain ⟨ps, q⟩ := h o (by rw [z]; exact e)
  exact n ps q
/-- all but these places and the tables stay -/
structure Frame (F : List Addr) (H H' : Hp) : Prop where
  keep : ∀ b o, H b = some o → b ∉ F → (∀ ps, o ≠ .tbl ps) → H' b = some o
  live : ∀ b, NL H' b → NL H b
theorem Frame.ext {F : List Addr} {H H' : Hp} (h : LamX.ExtN H H') : Frame F H H' := ⟨fun b o e _ n => h b o e n, fun b n o e => by
  refine Classical.byContradiction fun z => ?_
  have nt : ∀ ps, o ≠ .tbl ps := fun ps q => z ⟨ps, q⟩
  obtain ⟨ps, q⟩ := n o (h b o e nt)
  exact nt ps q⟩
theorem Frame.same {F : List Addr} {H H' : Hp} (h : Same H H') : Frame F H H' := .ext (LamX.ExtN.of h)
theorem Frame.refl {F : List Addr} {H : Hp} : Frame F H H := ⟨fun _ _ e _ _ => e, fun _ n => n⟩
theorem Frame.trans {F F' : List Addr} {H H1 H2 : Hp} (h1 : Frame F H H1) (h2 : Frame F' H1 H2) (k : ∀ x ∈ F', x ∈ F ∨ NL H x) : Frame F H H2 := ⟨fun b o e n t => by
  refine h2.keep b o (h1.keep b o e n t) (fun z => ?_) t
  rcases k b z with y | y
  · exact n y
  · obtain ⟨ps, q⟩ := y o e
    exact t ps q, fun b n => h1.live b (h2.live b n)⟩
theorem frame_upd {F : List Addr} {H : Hp} {x : Addr} {o : HO} (h : x ∈ F) (n : ∀ ps, o ≠ .tbl ps) : Frame F H (upd H x o) := ⟨fun b u e m _ => by
  have hb : b ≠ x := fun z => m (by rw [z]; exact h)
  rw [upd_ne hb]
  exact e, fun b k u e => by
  by_cases hb : b = x
  · subst hb
    obtain ⟨ps, q⟩ := k o upd_same
    exact absurd q (n ps)
  · exact k u (by rw [upd_ne hb]; exact e)⟩
/-- every place of a shop bears something that is no table -/
theorem ShopAt.there {C CL : Addr} {H : Hp} {a : Addr} {s : Mu33.State} {A : Ad} (x : ShopAt C CL H a s A) {b : Addr} (hb : b ∈ foot a A) : ∃ o, H b = some o ∧ ∀ ps, o ≠ .tbl ps := by
  unfold foot at hb
  rcases List.mem_cons.mp hb with e | hb
  · exact ⟨_, e ▸ x.ob, fun _ z => by cases z⟩
  rcases List.mem_cons.mp hb with e | hb
  · exact ⟨_, e ▸ x.hw, fun _ z => by cases z⟩
  rcases List.mem_cons.mp hb with e | hb
  · exact ⟨_, e ▸ x.hp, fun _ z => by cases z⟩
  rcases List.mem_cons.mp hb with e | hb
  · exact ⟨_, e ▸ x.hk, fun _ z => by cases z⟩
  rcases List.mem_cons.mp hb with e | hb
  · exact ⟨_, e ▸ x.hx, fun _ z => by cases z⟩
  rcases List.mem_cons.mp hb with e | hb
  · exact ⟨_, e ▸ x.hd, fun _ z => by cases z⟩
  rcases List.mem_cons.mp hb with e | hb
  · exact ⟨_, e ▸ x.hg, fun _ z => by cases z⟩
  rcases List.mem_append.mp hb with hb | hb
  · obtain ⟨i, hi⟩ := List.getElem?_of_mem hb
    have h1 : i < A.las.length := (List.getElem?_eq_some_iff.mp hi).1
    have h2 : i < s.lanterns.length := by rw [← x.ll]; exact h1
    have h3 : i < A.ras.length := by rw [x.rl]; exact h2
    obtain ⟨⟨dl, fs, e, _⟩, _⟩ := x.lan i _ b _ (List.getElem?_eq_getElem h2) hi (List.getElem?_eq_getElem h3)
    exact ⟨_, e, fun _ z => by cases z⟩
  · obtain ⟨i, hi⟩ := List.getElem?_of_mem hb
    have h3 : i < A.ras.length := (List.getElem?_eq_some_iff.mp hi).1
    have h2 : i < s.lanterns.length := by rw [← x.rl]; exact h3
    have h1 : i < A.las.length := by rw [x.ll]; exact h2
    obtain ⟨_, e⟩ := x.lan i _ _ b (List.getElem?_eq_getElem h2) (List.getElem?_eq_getElem h1) hi
    exact ⟨_, e, fun _ z => by cases z⟩
/-- a shop stays where its places stay -/
theorem ShopAt.keep {C CL : Addr} {H H' : Hp} {a : Addr} {s : Mu33.State} {A : Ad} (x : ShopAt C CL H a s A) (k : ∀ b ∈ foot a A, ∀ o, H b = some o → H' b = some o) : ShopAt C CL H' a s A := by
  have m : ∀ b, b ∈ [a, A.aw, A.ap, A.ak, A.ax, A.ad, A.ag] → b ∈ foot a A := fun b h => by
    unfold foot
    simp only [List.mem_cons, List.not_mem_nil, or_false] at h ⊢
    rcases h with h | h | h | h | h | h | h <;> simp [h]
  refine ⟨k _ (m _ (by simp)) _ x.ob, x.len, x.fnew, x.fwidths, x.fpainted, x.fstock, x.fstrips, x.flanterns, x.fmade, x.fgone, x.fcome, x.fscrap, x.faway, k _ (m _ (by simp)) _ x.hw, k _ (m _ (by simp)) _ x.hp, k _ (m _ (by simp)) _ x.hk, k _ (m _ (by simp)) _ x.hx, k _ (m _ (by simp)) _ x.hg, k _ (m _ (by simp)) _ x.hd, x.ll, x.rl, fun i c l r h1 h2 h3 => ?_, x.nd, x.ndl⟩
  refine (x.lan i c l r h1 h2 h3).keep (fun o e => k l ?_ o e) fun o e => k r ?_ o e
  · unfold foot
    simp only [List.mem_cons, List.mem_append]
    exact .inr (.inr (.inr (.inr (.inr (.inr (.inr (.inl (List.mem_of_getElem? h2))))))))
  · unfold foot
    simp only [List.mem_cons, List.mem_append]
    exact .inr (.inr (.inr (.inr (.inr (.inr (.inr (.inr (List.mem_of_getElem? h3))))))))
theorem ShopAt.same {C CL : Addr} {H H' : Hp} {a : Addr} {s : Mu33.State} {A : Ad} (x : ShopAt C CL H a s A) (k : Same H H') : ShopAt C CL H' a s A := x.keep fun b _ o e => k b o e
theorem ShopAt.ext {C CL : Addr} {H H' : Hp} {a : Addr} {s : Mu33.State} {A : Ad} (x : ShopAt C CL H a s A) (k : LamX.ExtN H H') : ShopAt C CL H' a s A := x.keep fun b hb o e => by
  obtain ⟨u, e1, e2⟩ := x.there hb
  rw [e] at e1
  cases e1
  exact k b _ e e2
theorem ShopAt.toR {C CL : Addr} {H : Hp} {a : Addr} {s : Mu33.State} {A : Ad} (x : ShopAt C CL H a s A) (g : Good s) : ShopR C H a s :=
  ⟨⟨A.dx, A.fs, A.aw, A.ap, A.ak, x.ob, x.fwidths, x.fpainted, x.fstock, x.hw, x.hp, x.hk⟩, g.stock, g.sort4, fun y hy => (g.wide y hy).2⟩
structure Txl (K : PySem.W.Frag) (mg : Str → Option Value) (C CL : Addr) : Prop where
  cl : Cls K C
  new : NoAttr K C "new"
  widths : NoAttr K C "widths"
  painted : NoAttr K C "painted"
  stock : NoAttr K C "stock"
  strips : NoAttr K C "strips"
  lanterns : NoAttr K C "lanterns"
  made : NoAttr K C "made"
  panes_gone : NoAttr K C "panes_gone"
  brass_come : NoAttr K C "brass_come"
  scrap : NoAttr K C "scrap"
  brass_gone : NoAttr K C "brass_gone"
  gC : mg "Shop" = some (.ref C)
  lcl : Cls K CL
  girth : NoAttr K CL "girth"
  ring : NoAttr K CL "ring"
  oil : NoAttr K CL "oil"
  gL : mg "Lantern" = some (.ref CL)
theorem Txl.toS {K : PySem.W.Frag} {mg : Str → Option Value} {C CL : Addr} (T : Txl K mg C CL) : Txs K C := ⟨T.cl, T.widths, T.painted, T.stock⟩
section
variable {P : Program} {w : World} {K : PySem.W.Frag} {mg : Str → Option Value} {base : Heap} {C CL : Addr}
/-! ### Lantern(..) -/
abbrev sLInit : Stmt := inClass (top 44) 0
theorem scLInit : FnScope ["self", "girth", "ring"] ["self", "girth", "ring"] (defScope sLInit) := ⟨rfl, rfl, rfl, by decide +kernel, rfl, by decide +kernel, by decide +kernel⟩
def spLInit (CL : Addr) : Sp := fun vs H Q _ => ∃ (p dx ra : Addr) (g : Nat) (r : List Nat), vs = [.ref p, .int g, .ref ra] ∧ H p = some (.ins CL dx []) ∧ H ra = some (.lst (Z r)) ∧
  ∀ H' : Hp, (∀ b o, H b = some o → b ≠ p → H' b = some o) → (∀ id, LanAt CL H' p ra ⟨id, g, r, 0⟩) → Q .non H'
theorem ok_linit {f : Addr} {fd : FuncData} (F : Fun K "__init__" "Lantern.__init__" sLInit f fd) (T : Txl K mg C CL) : FnOk P w K mg base CX0 1 f fd ["self", "girth", "ring"] (spLInit CL) := by
  refine F.ok scLInit (fun vs H Q E h => by obtain ⟨p, dx, ra, g, r, rfl, _⟩ := h; rfl) (fun cdv A outer s H vs Q E hr h => ?_)
  refine ⟨_, pss_cons (ps_fld (pv 0) (pv 1) rfl) (pss_cons (ps_fld (pv 0) (pv 2) rfl) (pss_one (ps_fld (pv 0) pe_int rfl))), ?_⟩
  obtain ⟨p, dx, ra, g, r, rfl, hp, hra, k⟩ := h
  have nra : ra ≠ p := fun z => by rw [z, hp] at hra; cases hra
  refine ⟨_, rfl, _, rfl, p, CL, dx, _, rfl, hp, T.lcl, T.girth, by show 0 < 1000; decide, ?_⟩
  refine ⟨_, rfl, _, rfl, p, CL, dx, _, rfl, upd_same, T.lcl, T.ring, by show 1 < 1000; decide, ?_⟩
  refine ⟨_, rfl, p, CL, dx, _, rfl, upd_same, T.lcl, T.oil, Nat.lt_of_le_of_lt (putF_grow _ _ _) (by show 2 < 1000; decide), ?_⟩
  refine k _ (fun b o e hb => by rw [upd_ne hb, upd_ne hb, upd_ne hb]; exact e) fun id => ⟨⟨dx, _, upd_same, ?_, ?_, ?_, ?_⟩, ?_⟩
  · refine Nat.le_trans (putF_grow _ _ _) (Nat.succ_le_succ (Nat.le_trans (putF_grow _ _ _) ?_))
    show 1 + 1 ≤ 99
    decide
  · rw [lk_ne (by decide +kernel), lk_ne (by decide +kernel)]
    exact lk_put
  · rw [lk_ne (by decide +kernel)]
    exact lk_put
  · exact lk_put
  · rw [upd_ne nra, upd_ne nra, upd_ne nra]
    exact hra
end
end LR

namespace LR
open PySem PySem.Spec PyProof.Rows L2 LamX
theorem ZV_zis (l : List Nat) : ZV (zis l) = Z l := by
  unfold ZV zis Z
  rw [List.map_map]
  rfl
theorem sameN {H H' : Hp} (k : ExtN H H') : ∀ b o, (∀ ps, o ≠ .tbl ps) → H b = some o → H' b = some o := fun b o n e => k b o e n
/-- the tables stay where something else changes -/
theorem tabs_upd {T : List (Addr × Str)} {H : Hp} {g : Addr} {o u : HO} (t : Tabs T H) (e : H g = some u) (n1 : ∀ ps, u ≠ .tbl ps) (n2 : ∀ p, u ≠ .ext p) : Tabs T (upd H g o) := fun p hp => by
  obtain ⟨ps, h1, h2, h3⟩ := t p hp
  have z1 : p.1 ≠ g := fun z => by
    rw [z, e] at h1
    exact n1 ps (Option.some.inj h1)
  refine ⟨ps, by rw [upd_ne z1]; exact h1, h2, fun pos cv hc => ?_⟩
  obtain ⟨c, e1, e2⟩ := h3 pos cv hc
  have z2 : c ≠ g := fun z => by
    rw [z, e] at e2
    exact n2 _ (Option.some.inj e2)
  exact ⟨c, e1, by rw [upd_ne z2]; exact e2⟩
theorem tabs_lst {T : List (Addr × Str)} {H : Hp} {g : Addr} {o : HO} {l : List V} (t : Tabs T H) (e : H g = some (.lst l)) : Tabs T (upd H g o) := tabs_upd t e (fun _ z => by cases z) fun _ z => by cases z
/-- what a call says: the shop behind it, and its answer in a list of its own -/
def Told (C CL : Addr) (T : List (Addr × Str)) (H : Hp) (Q : VK) (a : Addr) (A : Ad) (s' : Mu33.State) (ans : List Int) : Prop :=
  ∀ (H' : Hp) (A' : Ad) (p : Addr), ShopAt C CL H' a s' A' → Frame (foot a A) H H' → (∀ b ∈ foot a A', b ∈ foot a A ∨ NL H b) → Tabs T H' → NL H p → H' p = some (.lst (ZV ans)) → Q (.ref p) H'
/-- a new shop; none: these are none's -/
def begunOf (r : Nat) (l : List (List Nat)) : Option Mu33.State := if r < 20 ∨ (200 < r ∨ (l.isEmpty = true ∨ (4 < l.length ∨ l.any (fun x => (Mu33.sortOf x).isNone) = true))) then none else
  some ⟨r, l.filterMap Mu33.sortOf, List.replicate l.length 0, List.replicate l.length 0, List.replicate l.length 0, [], 0, 0, 0, [], 0⟩
theorem step_begin (o : Mu33.Abs) (r : Nat) (l : List (List Nat)) : Mu33.step o (.begin_ r l) = match begunOf r l with
    | none => (o, [-1])
    | some s => (some s, [0]) := by
  unfold Mu33.step begunOf
  by_cases c : r < 20 ∨ (200 < r ∨ (l.isEmpty = true ∨ (4 < l.length ∨ l.any (fun x => (Mu33.sortOf x).isNone) = true)))
  · simp only [if_pos c]
  · simp only [if_neg c]
def spBegun (C CL : Addr) : Sp := fun vs H Q _ => ∃ (r : Nat) (la : Addr) (bs : List Addr) (l : List (List Nat)), vs = [.int r, .ref la] ∧ H la = some (.lst (RF bs)) ∧ bs.length = l.length ∧ l.length ≤ 6 ∧ (∀ (i : Nat) (b : Addr) (x : List Nat), bs[i]? = some b → l[i]? = some x → H b = some (.lst (Z x))) ∧
  (begunOf r l = none → ∀ H', Same H H' → Q .non H') ∧ ∀ s, begunOf r l = some s → ∀ (H' : Hp) (a : Addr) (A : Ad), Same H H' → ShopAt C CL H' a s A → (∀ b ∈ foot a A, H b = none) → Q (.ref a) H'
/-- the rows of a call, as they are handed on -/
structure RowsIn (H : Hp) (la : Addr) (xs : List (List Int)) : Prop where
  ex : ∃ bs : List Addr, H la = some (.lst (RF bs)) ∧ bs.length = xs.length ∧ ∀ (i : Nat) (b : Addr) (x : List Int), bs[i]? = some b → xs[i]? = some x → H b = some (.lst (ZV x))
def spAnsIn (C CL : Addr) (T : List (Addr × Str)) : Sp := fun vs H Q _ => ∃ (a na la : Addr) (s s' : Mu33.State) (A : Ad) (q : Int) (ns : List Int) (xs : List (List Int)) (x : Mu33.Call) (ans : List Int), vs = [.ref a, .int q, .ref na, .ref la] ∧
  ShopAt C CL H a s A ∧ Good s ∧ Tabs T H ∧ H na = some (.lst (ZV ns)) ∧ RowsIn H la xs ∧ Asked ((q :: ns) :: xs) x ∧ q ≠ 0 ∧ Mu33.step (some s) x = (some s', ans) ∧ Told C CL T H Q a A s' ans
theorem step_some {s : Mu33.State} {q : Int} {ns : List Int} {xs : List (List Int)} {x : Mu33.Call} (A : Asked ((q :: ns) :: xs) x) (h : q ≠ 0) : ∃ s' ans, Mu33.step (some s) x = (some s', ans) := by
  cases A with
  | begin_ => exact absurd rfl h
  | panes k n =>
    unfold Mu33.step
    dsimp only
    split
    · exact ⟨_, _, rfl⟩
    · split <;> exact ⟨_, _, rfl⟩
  | brass n =>
    unfold Mu33.step
    dsimp only
    split <;> exact ⟨_, _, rfl⟩
  | rings | first | may | same | night | top | lantern | glass | strips => exact ⟨_, _, rfl⟩
  | make g =>
    unfold Mu33.step
    dsimp only
    split
    · exact ⟨_, _, rfl⟩
    · split
      · exact ⟨_, _, rfl⟩
      · split
        · exact ⟨_, _, rfl⟩
        · split <;> exact ⟨_, _, rfl⟩
  | mend i j =>
    unfold Mu33.step
    dsimp only
    split
    · exact ⟨_, _, rfl⟩
    · split
      · exact ⟨_, _, rfl⟩
      · split <;> exact ⟨_, _, rfl⟩
  | fill i n =>
    unfold Mu33.step
    dsimp only
    split
    · exact ⟨_, _, rfl⟩
    · split <;> exact ⟨_, _, rfl⟩
  | sell i =>
    unfold Mu33.step
    dsimp only
    split <;> exact ⟨_, _, rfl⟩
theorem step_none {q : Int} {ns : List Int} {xs : List (List Int)} {x : Mu33.Call} (A : Asked ((q :: ns) :: xs) x) (h : q ≠ 0) : Mu33.step none x = (none, [-9]) := by
  cases A <;> first | exact absurd rfl h | rfl
theorem asked_begin {ns : List Int} {xs : List (List Int)} {x : Mu33.Call} (A : Asked ((0 :: ns) :: xs) x) : ∃ (r : Nat) (l : List (List Nat)), ns = [(r : Int)] ∧ xs = l.map zis ∧ x = .begin_ r l ∧ l.length ≤ 6 := by
  cases A with
  | begin_ r l h1 h2 h3 => exact ⟨r, l, rfl, rfl, rfl, h2⟩
/-- the shop that there is -/
def Held (C CL : Addr) (H0 H : Hp) (v : V) : Mu33.Abs → Prop
  | none => v = .non
  | some s => ∃ a A, v = .ref a ∧ ShopAt C CL H a s A ∧ ∀ b ∈ foot a A, NL H0 b
end LR

namespace LR
open PySem PySem.Spec PyProof.Rows L2 LamX
theorem Held.same {C CL : Addr} {H0 H H' : Hp} {v : V} {o : Mu33.Abs} (x : Held C CL H0 H v o) (k : Same H H') : Held C CL H0 H' v o := by
  cases o with
  | none => exact x
  | some s =>
    obtain ⟨a, A, e, h1, h2⟩ := x
    exact ⟨a, A, e, h1.same k, h2⟩
theorem Held.away {C CL : Addr} {H0 H H' : Hp} {v : V} {o : Mu33.Abs} (x : Held C CL H0 H v o) (k : ∀ b, NL H0 b → H' b = H b) : Held C CL H0 H' v o := by
  cases o with
  | none => exact x
  | some s =>
    obtain ⟨a, A, e, h1, h2⟩ := x
    exact ⟨a, A, e, h1.keep (fun b hb o e => by rw [k b (h2 b hb)]; exact e), h2⟩
theorem step_of {o : Mu33.Abs} {c : List (List Int)} {x : Mu33.Call} (h : Mu33Neutral.callOf c = some x) : Mu33Neutral.step o c = Mu33.step o x := by
  unfold Mu33Neutral.step
  rw [h]
section
variable {P : Program} {w : World} {K : PySem.W.Frag} {mg : Str → Option Value} {base : Heap} {C CL : Addr} {T : List (Addr × Str)}
abbrev sAnswers : Stmt := top 88
abbrev NAnswers : List Str := ["calls", "shop", "given", "number", "numbers", "lists", "begun", "answer"]
theorem scAnswers : FnScope NAnswers ["calls"] (defScope sAnswers) := ⟨rfl, rfl, rfl, by decide +kernel, rfl, by decide +kernel, by decide +kernel⟩
def spAnswers (K : PySem.W.Frag) (T : List (Addr × Str)) : Sp := fun vs H Q _ => ∃ (a : Addr) (cs : List (List (List Int))), vs = [.ref a] ∧ SqL K H a (ZV (PyWide.put cs)) ∧ (PyWide.put cs).length ≤ 2100 ∧ (∀ c ∈ cs, PyWide.okCall c) ∧ (∀ c ∈ cs, ∃ x, Asked c x ∧ Mu33Neutral.callOf c = some x) ∧
  (toldTo cs cs.length).length ≤ 10000000 ∧ Tabs T H ∧ ∀ (H' : Hp) (p : Addr), ExtN H H' → H' p = some (.lst (ZV (toldTo cs cs.length))) → Q (.ref p) H'
theorem ok_answers {f : Addr} {fd : FuncData} (B : Bl mg) (F : Fun K "answers" "answers" sAnswers f fd) (g1 : Gn mg "BEGIN" 0) (c1 : Cal P w K mg base 2 "read_calls" ["line"] (spRCalls K)) (c2 : Cal P w K mg base 8 "begun_shop" ["new", "sorts"] (spBegun C CL)) (c3 : Cal P w K mg base 8 "answer_in" ["shop", "number", "numbers", "lists"] (spAnsIn C CL T)) :
    FnOk P w K mg base CX0 9 f fd ["calls"] (spAnswers K T) := by
  refine F.ok scAnswers (fun vs H Q E h => by obtain ⟨a, cs, rfl, _⟩ := h; rfl) (fun cdv A outer s H vs Q E hr h => ?_)
  refine ⟨_, pss_cons (ps_set (i := 1) scAnswers.nd rfl (Or.inl rfl) pe_non)
    (pss_cons (ps_set (i := 2) scAnswers.nd rfl (Or.inl rfl) (pe_lst pa_nil))
    (pss_cons (ps_for PassesOwn.never rfl (pi_list (pe_cal c1 (hr.mono (by decide)) rfl (pa_cons (pv 0) pa_nil))) (pg_tup rfl (pgs_cons (pg_name (i := 3) scAnswers.nd rfl (Or.inl rfl)) (pgs_cons (pg_name (i := 4) scAnswers.nd rfl (Or.inl rfl)) (pgs_cons (pg_name (i := 5) scAnswers.nd rfl (Or.inl rfl)) pgs_nil))))
      (C8.pss_cut (ps_if (pt_cmpR op_eq (pv 3) (pe_gn g1 rfl) (nomark _))
        (pss_cons (ps_set (i := 6) scAnswers.nd rfl (Or.inl rfl) (pe_cal c2 hr rfl (pa_cons (pe_ix ix_list (pv 4) pe_int (fun _ _ => rfl)) (pa_cons (pv 5) pa_nil))))
        (pss_cons (ps_set (i := 7) scAnswers.nd rfl (Or.inl rfl) (pe_ifExp (pt_cmp (pc_isN (pv 6))) (pe_lst (pa_cons (pe_un un_neg pe_int) pa_nil)) (pe_lst (pa_cons pe_int pa_nil))))
        (pss_one (ps_set (i := 1) scAnswers.nd rfl (Or.inl rfl) (pe_ifExp (pt_cmp (pc_isN (pv 6))) (pv 1) (pv 6))))))
        (pss_one (ps_if (pt_cmp (pc_isN (pv 1))) (pss_one (ps_set (i := 7) scAnswers.nd rfl (Or.inl rfl) (pe_lst (pa_cons (pe_un un_neg pe_int) pa_nil))))
          (pss_one (ps_set (i := 7) scAnswers.nd rfl (Or.inl rfl) (pe_cal c3 hr rfl (pa_cons (pv 1) (pa_cons (pv 3) (pa_cons (pv 4) (pa_cons (pv 5) pa_nil))))))))))
      (pss_cons (ps_expr (pe_bm PySem.F.plainAttrs_list PySem.F.slot_list_append PySem.F.type_list_append mt_append (pv 2) (pa_cons (pe_callB call_len_seq (by rfl) B.len PySem.boot_len (pa_cons (pv 7) pa_nil)) pa_nil)))
      (pss_one (ps_expr (pe_bm PySem.F.plainAttrs_list PySem.F.slot_list_extend PySem.F.type_list_extend mt_extend (pv 2) (pa_cons (pv 7) pa_nil)))))))
    (pss_one (ps_ret (pv 2))))), ?_⟩
  obtain ⟨a, cs, rfl, hl, hlen, hok, hask, hshort, hT, k⟩ := h
  refine ⟨by decide, fun g hg => ?_⟩
  refine ⟨_, rfl, a, cs, rfl, (same_upd hg).seq hl, hlen, hok, fun H2 p ts s2 hp hp2 CA => ?_⟩
  refine ⟨p, rfl, ⟨_, SqL.of hp2⟩, ?_⟩
  have hg2 : H2 g = some (.lst []) := s2 _ _ upd_same
  have npg : p ≠ g := fun z => by rw [z, upd_same] at hp; cases hp
  have sH2 : Same H H2 := (same_upd hg).trans s2
  refine for_list (K := K) (a := p) (xs := RF ts) (fun i σ H' => ∃ (v1 : V) (v3 v4 v5 v6 v7 : Option V), σ = [some (.ref a), some v1, some (.ref g), v3, v4, v5, v6, v7] ∧ (∀ b o, H2 b = some o → b ≠ g → (∀ ps, o ≠ .tbl ps) → H' b = some o) ∧ H' g = some (.lst (ZV (toldTo cs i))) ∧ Tabs T H' ∧ Held C CL H2 H' v1 (after none (cs.take i)))
    ⟨.non, none, none, none, none, none, rfl, fun b o e _ _ => e, hg2, hT.ext sH2, rfl⟩ (fun i σ H' _ h => by
      obtain ⟨_, _, _, _, _, _, _, kp, _⟩ := h
      exact SqL.of (kp p _ hp2 npg (fun _ z => by cases z))) ?_ ?_
  · rintro i x σ H3 hx ⟨v1, v3, v4, v5, v6, v7, rfl, kp, hg3, hT3, hheld⟩
    obtain ⟨t, ht, rfl⟩ := RF_get hx
    have hi : i < cs.length := by
      have := (List.getElem?_eq_some_iff.mp ht).1
      rw [CA.len] at this
      exact this
    have hc : cs[i]? = some cs[i] := List.getElem?_eq_getElem hi
    obtain ⟨y, hAsk, hcall⟩ := hask cs[i] (List.getElem_mem hi)
    obtain ⟨q, ns, xs, na, la, bs, ec, e1, e2, e3, e4, e5⟩ := (CA.at_ i t _ ht hc).ex
    rw [ec] at hc hAsk hcall
    have up : ∀ b o, (∀ ps, o ≠ .tbl ps) → Nw (upd H g (.lst [])) p H2 b = some o → b ≠ g ∧ H3 b = some o := fun b o n e => by
      obtain ⟨z1, z2, z3⟩ := nw_some e
      have z4 : b ≠ g := fun z => by rw [z, upd_same] at z2; cases z2
      exact ⟨z4, kp b o z3 z4 n⟩
    have d1 := up _ _ (fun _ z => by cases z) e1
    have d2 := up _ _ (fun _ z => by cases z) e2
    have d3 := up _ _ (fun _ z => by cases z) e3
    refine ⟨t, _, rfl, .inl (.inl d1.2), rfl, _, _, rfl, _, _, rfl, _, _, rfl, rfl, ?_⟩
    have est : ∀ o, Mu33Neutral.step o ((q :: ns) :: xs) = Mu33.step o y := fun o => step_of hcall
    have eaf : after none (cs.take (i + 1)) = (Mu33.step (after none (cs.take i)) y).1 := by rw [after_more hc, est]
    have eto : toldTo cs (i + 1) = toldTo cs i ++ (((Mu33.step (after none (cs.take i)) y).2.length : Int) :: (Mu33.step (after none (cs.take i)) y).2) := by rw [toldTo_more hc, est]
    have eln : (toldTo cs (i + 1)).length ≤ 10000000 := Nat.le_trans (toldTo_len cs hi) hshort
    refine ⟨fun σ' H4 => ∃ (v1' : V) (v6' : Option V) (r : Addr), σ' = [some (.ref a), some v1', some (.ref g), some (.int q), some (.ref na), some (.ref la), v6', some (.ref r)] ∧ (∀ b o, H2 b = some o → b ≠ g → (∀ ps, o ≠ .tbl ps) → H4 b = some o) ∧ H4 g = some (.lst (ZV (toldTo cs i))) ∧ Tabs T H4 ∧
      Held C CL H2 H4 v1' (Mu33.step (after none (cs.take i)) y).1 ∧ r ≠ g ∧ H4 r = some (.lst (ZV (Mu33.step (after none (cs.take i)) y).2)), ?_, ?_⟩
    · refine ⟨_, rfl, rfl, _, rfl, ?_⟩
      have hRows : RowsIn H3 la xs := ⟨bs, d3.2, e4, fun j b x h1 h2 => (up _ _ (fun _ z => by cases z) (e5 j b x h1 h2)).2⟩
      by_cases hq : q = 0
      · subst hq
        have ed : decide (V.int 0 = V.int 0) = true := decide_eq_true rfl
        rw [ed]
        refine iteT ?_
        obtain ⟨r, l, rfl, rfl, rfl, hl6⟩ := asked_begin hAsk
        obtain ⟨bs', f1, f2, f3⟩ := hRows.ex
        have ez : ZV [(r : Int)] = [V.int r] := rfl
        refine ⟨_, rfl, na, _, _, _, rfl, rfl, SqL.of d2.2, at_of (j := 0) rfl rfl, _, rfl, r, la, bs', l, rfl, f1, by rw [f2, List.length_map], hl6, fun j b x h1 h2 => ?_, fun hn H4 s4 => ?_, fun s0 hs H4 a0 A0 s4 SA fr => ?_⟩
        · have z := f3 j b (zis x) h1 (by rw [List.getElem?_map, h2]; rfl)
          rw [ZV_zis] at z
          exact z
        · have es : Mu33.step (after none (cs.take i)) (.begin_ r l) = (after none (cs.take i), [-1]) := by rw [step_begin, hn]
          rw [es]
          refine ⟨_, rfl, true, rfl, iteT ⟨_, rfl, by show 1 ≤ sizeLine; decide, fun z hz => ⟨_, rfl, true, rfl, iteT ⟨_, rfl, v1, some .non, z, rfl, fun b o e n t => ?_, ?_, ?_, ?_, ?_, upd_same⟩⟩⟩⟩
          · exact (same_upd hz) _ _ (s4 _ _ (kp b o e n t))
          · exact (same_upd hz) _ _ (s4 _ _ hg3)
          · exact (hT3.ext s4).ext (same_upd hz)
          · exact hheld.same (s4.trans (same_upd hz))
          · exact fun q => by rw [q, s4 _ _ hg3] at hz; cases hz
        · have es : Mu33.step (after none (cs.take i)) (.begin_ r l) = (some s0, [0]) := by rw [step_begin, hs]
          rw [es]
          refine ⟨_, rfl, false, rfl, iteF ⟨by show 1 ≤ sizeLine; decide, fun z hz => ⟨_, rfl, false, rfl, iteF ⟨_, rfl, .ref a0, some (.ref a0), z, rfl, fun b o e n t => ?_, ?_, ?_, ?_, ?_, upd_same⟩⟩⟩⟩
          · exact (same_upd hz) _ _ (s4 _ _ (kp b o e n t))
          · exact (same_upd hz) _ _ (s4 _ _ hg3)
          · exact (hT3.ext s4).ext (same_upd hz)
          · refine ⟨a0, A0, rfl, SA.same (same_upd hz), fun b hb o e => Classical.byContradiction fun nt => ?_⟩
            have nt' : ∀ ps, o ≠ .tbl ps := fun ps z => nt ⟨ps, z⟩
            have h0 := fr b hb
            by_cases hbg : b = g
            · rw [hbg, hg3] at h0
              cases h0
            · rw [kp b o e hbg nt'] at h0
              cases h0
          · exact fun q => by rw [q, s4 _ _ hg3] at hz; cases hz
      · have ed : decide (V.int q = V.int 0) = false := decide_eq_false fun z => hq (by injection z)
        rw [ed]
        refine iteF ?_
        cases hs0 : after none (cs.take i) with
        | none =>
          rw [hs0] at hheld
          have ev : v1 = .non := hheld
          subst ev
          have es : Mu33.step none y = (none, [-9]) := step_none hAsk hq
          rw [es]
          refine ⟨_, rfl, true, rfl, iteT ⟨_, rfl, by show 1 ≤ sizeLine; decide, fun z hz => ⟨.non, _, z, rfl, fun b o e n t => (same_upd hz) _ _ (kp b o e n t), (same_upd hz) _ _ hg3, hT3.ext (same_upd hz), show V.non = V.non from rfl, (fun q => by rw [q, hg3] at hz; cases hz), upd_same⟩⟩⟩
        | some s0 =>
          rw [hs0] at hheld
          obtain ⟨a0, A0, rfl, SA, fr⟩ := hheld
          obtain ⟨s', ans, es⟩ := step_some (s := s0) hAsk hq
          rw [es]
          refine ⟨_, rfl, false, rfl, iteF ⟨_, rfl, _, rfl, _, rfl, _, rfl, a0, na, la, s0, s', A0, q, ns, xs, y, ans, rfl, SA, good_after s0 hs0, hT3, d2.2, hRows, hAsk, hq, es, fun H4 A4 z SA4 F4 fr4 T4 nz hz => ?_⟩⟩
          have ngF : g ∉ foot a0 A0 := fun hm => by
            obtain ⟨ps, q⟩ := fr g hm _ hg2
            cases q
          have kp4 : ∀ b o, H2 b = some o → b ≠ g → (∀ ps, o ≠ .tbl ps) → H4 b = some o := fun b o e n t => F4.keep b o (kp b o e n t) (fun hm => by
            obtain ⟨ps, q⟩ := fr b hm _ e
            exact t ps q) t
          refine ⟨.ref a0, _, z, rfl, kp4, F4.keep g _ hg3 ngF (fun _ z => by cases z), T4, ⟨a0, A4, rfl, SA4, fun b hb => ?_⟩, nz.ne hg3 (fun _ z => by cases z), hz⟩
          rcases fr4 b hb with h | h
          · exact fr b h
          · intro o e
            refine Classical.byContradiction fun nt => ?_
            have nt' : ∀ ps, o ≠ .tbl ps := fun ps z => nt ⟨ps, z⟩
            by_cases hbg : b = g
            · exact (h.ne hg3 (fun _ z => by cases z)) hbg
            · obtain ⟨ps, q⟩ := h o (kp b o e hbg nt')
              exact nt' ps q
    · rintro σ' H4 ⟨v1', v6', r, rfl, kp4, hg4, hT4, held4, nrg, hr4⟩
      have eL : (toldTo cs (i + 1)).length = (toldTo cs i).length + ((Mu33.step (after none (cs.take i)) y).2.length + 1) := by
        rw [eto, List.length_append, List.length_cons]
      refine ⟨_, rfl, .inl ⟨rfl, _, SqL.of hg4⟩, _, rfl, r, _, rfl, .inl (SqL.of hr4), g, _, _, rfl, rfl, hg4, ?_, ?_⟩
      · rw [List.length_map, sizeLine_eq]
        omega
      · refine ⟨_, rfl, .inl ⟨rfl, _, SqL.of upd_same⟩, _, rfl, g, r, _, _, rfl, rfl, upd_same, by rw [upd_ne nrg]; exact hr4, ?_, v1', _, _, _, _, _, rfl, fun b o e n t => ?_, ?_, ?_, ?_⟩
        · rw [List.length_append, List.length_map, List.length_map, sizeLine_eq]
          show (toldTo cs i).length + 1 + _ ≤ _
          omega
        · rw [upd_ne n, upd_ne n]
          exact kp4 b o e n t
        · rw [upd_same, eto]
          unfold ZV
          simp
        · exact tabs_lst (tabs_lst hT4 hg4) upd_same
        · rw [eaf]
          refine held4.away fun b h1 => ?_
          have hb : b ≠ g := h1.ne hg2 (fun _ z => by cases z)
          rw [upd_ne hb, upd_ne hb]
  · rintro σ H3 ⟨v1, v3, v4, v5, v6, v7, rfl, kp, hg3, hT3, hheld⟩
    have e : (RF ts).length = cs.length := by rw [List.length_map]; exact CA.len
    rw [e] at hg3
    refine ⟨_, rfl, k H3 g (fun b o h n => kp b o (sH2 _ _ h) (fun z => by rw [z, hg] at h; cases h) n) hg3⟩
end
end LR

namespace LR
open PySem PySem.Spec PyProof.Rows L2 LamX
/-- all but p stays -/
def SE (p : Addr) (H H' : Hp) : Prop := ∀ b o, H b = some o → b ≠ p → H' b = some o
theorem SE.same {p : Addr} {H H' : Hp} (h : Same H H') : SE p H H' := fun b o e _ => h b o e
theorem SE.trans {p : Addr} {H H1 H2 : Hp} (h : SE p H H1) (k : SE p H1 H2) : SE p H H2 := fun b o e n => k b o (h b o e n) n
theorem se_upd {p : Addr} {H : Hp} {o : HO} : SE p H (upd H p o) := fun b u e n => by rw [upd_ne n]; exact e
theorem SE.free {p b : Addr} {H H' : Hp} (h : SE p H H') (n : b ≠ p) (e : H' b = none) : H b = none := by
  cases q : H b with
  | none => rfl
  | some o => rw [h b o q n] at e; cases e
theorem putF_le {f : Str} {v : V} {fs : List (Str × V)} {n : Nat} (h : fs.length ≤ n) : (putF f v fs).length ≤ n + 1 := Nat.le_trans (putF_grow f v fs) (Nat.succ_le_succ h)
theorem rows_get {H : Hp} {bs : List Addr} {l : List (List Nat)} (bl : bs.length = l.length) (hbs : ∀ (i : Nat) (b : Addr) (x : List Nat), bs[i]? = some b → l[i]? = some x → H b = some (.lst (Z x))) {i : Nat} {b : Addr} (h : bs[i]? = some b) : ∃ x, l[i]? = some x ∧ H b = some (.lst (Z x)) := by
  have h1 : i < bs.length := (List.getElem?_eq_some_iff.mp h).1
  have h2 : i < l.length := by rw [← bl]; exact h1
  exact ⟨l[i], List.getElem?_eq_getElem h2, hbs i b _ h (List.getElem?_eq_getElem h2)⟩
section
variable {P : Program} {w : World} {K : PySem.W.Frag} {mg : Str → Option Value} {base : Heap} {C CL : Addr} {T : List (Addr × Str)}
abbrev sSInit : Stmt := inClass (top 45) 0
abbrev NSInit : List Str := ["self", "new", "sorts", "sort"]
theorem scSInit : FnScope NSInit ["self", "new", "sorts"] (defScope sSInit) := ⟨rfl, rfl, rfl, by decide +kernel, rfl, by decide +kernel, by decide +kernel⟩
/-- the shop that is begun -/
def begunS (r : Nat) (l : List (List Nat)) : Mu33.State := ⟨r, l.filterMap Mu33.sortOf, List.replicate l.length 0, List.replicate l.length 0, List.replicate l.length 0, [], 0, 0, 0, [], 0⟩
def spSInit (C CL : Addr) : Sp := fun vs H Q _ => ∃ (p dx la : Addr) (bs : List Addr) (r : Nat) (l : List (List Nat)), vs = [.ref p, .int r, .ref la] ∧ H p = some (.ins C dx []) ∧ H la = some (.lst (RF bs)) ∧ bs.length = l.length ∧ l.length ≤ 6 ∧
  (∀ (i : Nat) (b : Addr) (x : List Nat), bs[i]? = some b → l[i]? = some x → H b = some (.lst (Z x))) ∧ (∀ x ∈ l, (Mu33.sortOf x).isSome = true) ∧
  ∀ (H' : Hp) (A : Ad), SE p H H' → ShopAt C CL H' p (begunS r l) A → (∀ b ∈ foot p A, b = p ∨ H b = none) → Q .non H'
theorem sorts_of : ∀ {l : List (List Nat)}, (∀ x ∈ l, (Mu33.sortOf x).isSome = true) → ∀ (i : Nat) (x : List Nat), l[i]? = some x → ∃ (a b : Nat) (y : Mu33.Sort_), x = [a, b] ∧ (l.filterMap Mu33.sortOf)[i]? = some y ∧ y.width = a ∧ b01 y.painted = b
  | [], _, i, x, h => by simp at h
  | z :: l, hl, i, x, h => by
    have hz := hl z List.mem_cons_self
    cases e : Mu33.sortOf z with
    | none => rw [e] at hz; cases hz
    | some y =>
      rw [List.filterMap_cons, e]
      cases i with
      | zero =>
        have ex : z = x := by simpa using h
        subst ex
        unfold Mu33.sortOf at e
        split at e
        · rename_i a b
          split at e
          · rename_i c
            cases e
            refine ⟨a, b, _, rfl, rfl, rfl, ?_⟩
            rcases (show b = 0 ∨ b = 1 by omega) with rfl | rfl <;> rfl
          · cases e
        · cases e
      | succ i =>
        obtain ⟨a, b, y', h1, h2, h3⟩ := sorts_of (fun x hx => hl x (List.mem_cons_of_mem _ hx)) i x (by simpa using h)
        exact ⟨a, b, y', h1, by simpa using h2, h3⟩
theorem sorts_len : ∀ {l : List (List Nat)}, (∀ x ∈ l, (Mu33.sortOf x).isSome = true) → (l.filterMap Mu33.sortOf).length = l.length
  | [], _ => rfl
  | z :: l, hl => by
    have hz := hl z List.mem_cons_self
    cases e : Mu33.sortOf z with
    | none => rw [e] at hz; cases hz
    | some y =>
      rw [List.filterMap_cons, e, List.length_cons, List.length_cons, sorts_len fun x hx => hl x (List.mem_cons_of_mem _ hx)]
theorem ok_sinit {f : Addr} {fd : FuncData} (F : Fun K "__init__" "Shop.__init__" sSInit f fd) (X : Txl K mg C CL) : FnOk P w K mg base CX0 1 f fd ["self", "new", "sorts"] (spSInit C CL) := by
  refine F.ok scSInit (fun vs H Q E h => by obtain ⟨p, dx, la, bs, r, l, rfl, _⟩ := h; rfl) (fun cdv A outer s H vs Q E hr h => ?_)
  refine ⟨_, pss_cons (ps_fld (pv 0) (pv 1) rfl)
    (pss_cons (ps_fld (pv 0) (pe_lc (own := [("sort", 3)]) (g := gName 3) (tt := tYes) (te := tOp (rIxL K) (tVar 3) (tC (.int 0))) rfl scSInit.nd (pi_list (pv 2)) (blkOk_by (own := [("sort", 3)]) (N := NSInit) (sc := defScope sSInit) (by decide +kernel))
        (fun _ _ _ _ _ => pg_name (i := 3) scSInit.nd rfl (Or.inl rfl)) (fun _ _ _ _ _ => pts_nil) (fun _ _ _ _ _ => pe_ix ix_list (pv 3) pe_int (fun _ _ => rfl))) rfl)
    (pss_cons (ps_fld (pv 0) (pe_lc (own := [("sort", 3)]) (g := gName 3) (tt := tYes) (te := tOp (rIxL K) (tVar 3) (tC (.int 1))) rfl scSInit.nd (pi_list (pv 2)) (blkOk_by (own := [("sort", 3)]) (N := NSInit) (sc := defScope sSInit) (by decide +kernel))
        (fun _ _ _ _ _ => pg_name (i := 3) scSInit.nd rfl (Or.inl rfl)) (fun _ _ _ _ _ => pts_nil) (fun _ _ _ _ _ => pe_ix ix_list (pv 3) pe_int (fun _ _ => rfl))) rfl)
    (pss_cons (ps_fld (pv 0) (pe_lc (own := [("sort", 3)]) (g := gName 3) (tt := tYes) (te := tC (.int 0)) rfl scSInit.nd (pi_list (pv 2)) (blkOk_by (own := [("sort", 3)]) (N := NSInit) (sc := defScope sSInit) (by decide +kernel))
        (fun _ _ _ _ _ => pg_name (i := 3) scSInit.nd rfl (Or.inl rfl)) (fun _ _ _ _ _ => pts_nil) (fun _ _ _ _ _ => pe_int)) rfl)
    (pss_cons (ps_fld (pv 0) (pe_lc (own := [("sort", 3)]) (g := gName 3) (tt := tYes) (te := tC (.int 0)) rfl scSInit.nd (pi_list (pv 2)) (blkOk_by (own := [("sort", 3)]) (N := NSInit) (sc := defScope sSInit) (by decide +kernel))
        (fun _ _ _ _ _ => pg_name (i := 3) scSInit.nd rfl (Or.inl rfl)) (fun _ _ _ _ _ => pts_nil) (fun _ _ _ _ _ => pe_int)) rfl)
    (pss_cons (ps_fld (pv 0) (pe_lst pa_nil) rfl)
    (pss_cons (ps_fld (pv 0) pe_int rfl)
    (pss_cons (ps_fld (pv 0) pe_int rfl)
    (pss_cons (ps_fld (pv 0) pe_int rfl)
    (pss_cons (ps_fld (pv 0) pe_dnewK rfl)
    (pss_one (ps_fld (pv 0) pe_int rfl))))))))))), ?_⟩
  obtain ⟨p, dx, la, bs, r, l, rfl, hp, hla, bl, l6, hbs, hso, k⟩ := h
  have nlap : la ≠ p := fun z => by rw [z, hp] at hla; cases hla
  have nbp : ∀ (i : Nat) (b : Addr), bs[i]? = some b → b ≠ p := fun i b h z => by
    obtain ⟨x, _, e⟩ := rows_get bl hbs h
    rw [z, hp] at e
    cases e
  have bl300 : (RF bs).length ≤ 300000 := by rw [List.length_map, bl]; omega
  refine ⟨_, rfl, _, rfl, p, C, dx, _, rfl, hp, X.cl, X.new, by show 0 < 1000; decide, ?_⟩
  obtain ⟨H1, eH1⟩ : ∃ H1, H1 = upd H p (.ins C dx (putF "new" (.int r) [])) := ⟨_, rfl⟩
  have s1 : SE p H H1 := by rw [eH1]; exact se_upd
  have p1 : H1 p = some (.ins C dx (putF "new" (.int r) [])) := by rw [eH1]; exact upd_same
  have eH1' : upd H p (.ins C dx (putF "new" (.int ((r : Nat) : Int)) [])) = H1 := eH1.symm
  rw [eH1']
  refine ⟨_, rfl, la, rfl, ⟨_, SqL.of (s1 _ _ hla nlap)⟩, fun aw haw => lc_map (K := K) (a := la) (xs := RF bs) (Z (Wl (begunS r l))) haw (SqL.of (s1 _ _ hla nlap)) ?_ bl300 (fun x => rfl) ?_ fun H2 s2 haw2 => ⟨_, rfl, p, C, dx, _, rfl, s2 _ _ p1, X.cl, X.widths, by show 1 < 1000; decide, ?_⟩⟩
  · show (Z (Wl (begunS r l))).length = (RF bs).length
    rw [List.length_map, List.length_map, bl]
    show (List.map _ (l.filterMap Mu33.sortOf)).length = _
    rw [List.length_map, sorts_len hso]
  · intro i x y H' Q' hx hy s2 k'
    obtain ⟨b, hb, rfl⟩ := RF_get hx
    obtain ⟨q, hq, hbq⟩ := rows_get bl hbs hb
    obtain ⟨u, v, y0, rfl, hy0, e1, e2⟩ := sorts_of hso i q hq
    have ey : y = .int (u : Nat) := by
      have z : (Z (Wl (begunS r l)))[i]? = some (V.int (u : Nat)) := by
        refine Z_at ?_
        show (List.map _ (l.filterMap Mu33.sortOf))[i]? = _
        rw [List.getElem?_map, hy0, ← e1]
        rfl
      rw [z] at hy
      exact (Option.some.inj hy).symm
    rw [ey] at k'
    exact ⟨_, rfl, b, _, _, _, rfl, rfl, SqL.of (s2 _ _ (s1 _ _ hbq (nbp i b hb))), at_of (j := 0) rfl rfl, k' H' (Same.refl _)⟩
  have nawp : aw ≠ p := fun z => by rw [z, p1] at haw; cases haw
  obtain ⟨fs2, ef2⟩ : ∃ fs, fs = putF "widths" (.ref aw) (putF "new" (.int r) []) := ⟨_, rfl⟩
  have l2 : fs2.length ≤ 2 := by rw [ef2]; exact putF_le (putF_le (Nat.le_refl 0))
  obtain ⟨H3, eH3⟩ : ∃ H3, H3 = upd H2 p (.ins C dx fs2) := ⟨_, rfl⟩
  have eH3' : upd H2 p (.ins C dx (putF "widths" (.ref aw) (putF "new" (.int ((r : Nat) : Int)) []))) = H3 := by rw [eH3, ef2]
  rw [eH3']
  have s3 : SE p H H3 := by rw [eH3]; exact s1.trans ((SE.same s2).trans se_upd)
  have p3 : H3 p = some (.ins C dx fs2) := by rw [eH3]; exact upd_same
  have aw3 : H3 aw = some (.lst (Z (Wl (begunS r l)))) := by rw [eH3, upd_ne nawp]; exact haw2
  have faw : H aw = none := s1.free nawp haw
  clear eH3 eH3'
  refine ⟨_, rfl, la, rfl, ⟨_, SqL.of (s3 _ _ hla nlap)⟩, fun ap hap => lc_map (K := K) (a := la) (xs := RF bs) (Z (Pl (begunS r l))) hap (SqL.of (s3 _ _ hla nlap)) ?_ bl300 (fun x => rfl) ?_ fun H4 s4 hap4 => ⟨_, rfl, p, C, dx, _, rfl, s4 _ _ p3, X.cl, X.painted, by omega, ?_⟩⟩
  · show (Z (Pl (begunS r l))).length = (RF bs).length
    rw [List.length_map, List.length_map, bl]
    show (List.map _ (l.filterMap Mu33.sortOf)).length = _
    rw [List.length_map, sorts_len hso]
  · intro i x y H' Q' hx hy s4 k'
    obtain ⟨b, hb, rfl⟩ := RF_get hx
    obtain ⟨q, hq, hbq⟩ := rows_get bl hbs hb
    obtain ⟨u, v, y0, rfl, hy0, e1, e2⟩ := sorts_of hso i q hq
    have ey : y = .int (v : Nat) := by
      have z : (Z (Pl (begunS r l)))[i]? = some (V.int (v : Nat)) := by
        refine Z_at ?_
        show (List.map _ (l.filterMap Mu33.sortOf))[i]? = _
        rw [List.getElem?_map, hy0, ← e2]
        rfl
      rw [z] at hy
      exact (Option.some.inj hy).symm
    rw [ey] at k'
    exact ⟨_, rfl, b, _, _, _, rfl, rfl, SqL.of (s4 _ _ (s3 _ _ hbq (nbp i b hb))), at_of (j := 1) rfl rfl, k' H' (Same.refl _)⟩
  have napp : ap ≠ p := fun z => by rw [z, p3] at hap; cases hap
  have nap_aw : ap ≠ aw := fun z => by rw [z, aw3] at hap; cases hap
  obtain ⟨fs4, ef4⟩ : ∃ fs, fs = putF "painted" (.ref ap) fs2 := ⟨_, rfl⟩
  have l4 : fs4.length ≤ 3 := by rw [ef4]; exact putF_le l2
  obtain ⟨H5, eH5⟩ : ∃ H5, H5 = upd H4 p (.ins C dx fs4) := ⟨_, rfl⟩
  have eH5' : upd H4 p (.ins C dx (putF "painted" (.ref ap) fs2)) = H5 := by rw [eH5, ef4]
  rw [eH5']
  have s35 : SE p H3 H5 := by rw [eH5]; exact (SE.same s4).trans se_upd
  have s5 : SE p H H5 := s3.trans s35
  have p5 : H5 p = some (.ins C dx fs4) := by rw [eH5]; exact upd_same
  have aw5 := s35 _ _ aw3 nawp
  have ap5 : H5 ap = some (.lst (Z (Pl (begunS r l)))) := by rw [eH5, upd_ne napp]; exact hap4
  have fap : H ap = none := s3.free napp hap
  clear eH5 eH5'
  refine ⟨_, rfl, la, rfl, ⟨_, SqL.of (s5 _ _ hla nlap)⟩, fun ak hak => lc_map (K := K) (a := la) (xs := RF bs) (Z (begunS r l).stock) hak (SqL.of (s5 _ _ hla nlap)) ?_ bl300 (fun x => rfl) ?_ fun H6 s6 hak6 => ⟨_, rfl, p, C, dx, _, rfl, s6 _ _ p5, X.cl, X.stock, by omega, ?_⟩⟩
  · show (Z (List.replicate l.length 0)).length = (RF bs).length
    rw [List.length_map, List.length_map, bl, List.length_replicate]
  · intro i x y H' Q' hx hy s6 k'
    obtain ⟨n, hn, rfl⟩ := Z_get hy
    have en : n = 0 := (List.mem_replicate.mp (List.mem_of_getElem? hn)).2
    subst en
    exact k' H' (Same.refl _)
  have nakp : ak ≠ p := fun z => by rw [z, p5] at hak; cases hak
  have nak_aw : ak ≠ aw := fun z => by rw [z, aw5] at hak; cases hak
  have nak_ap : ak ≠ ap := fun z => by rw [z, ap5] at hak; cases hak
  obtain ⟨fs6, ef6⟩ : ∃ fs, fs = putF "stock" (.ref ak) fs4 := ⟨_, rfl⟩
  have l6' : fs6.length ≤ 4 := by rw [ef6]; exact putF_le l4
  obtain ⟨H7, eH7⟩ : ∃ H7, H7 = upd H6 p (.ins C dx fs6) := ⟨_, rfl⟩
  have eH7' : upd H6 p (.ins C dx (putF "stock" (.ref ak) fs4)) = H7 := by rw [eH7, ef6]
  rw [eH7']
  have s57 : SE p H5 H7 := by rw [eH7]; exact (SE.same s6).trans se_upd
  have s7 : SE p H H7 := s5.trans s57
  have p7 : H7 p = some (.ins C dx fs6) := by rw [eH7]; exact upd_same
  have aw7 := s57 _ _ aw5 nawp
  have ap7 := s57 _ _ ap5 napp
  have ak7 : H7 ak = some (.lst (Z (begunS r l).stock)) := by rw [eH7, upd_ne nakp]; exact hak6
  have fak : H ak = none := s5.free nakp hak
  clear eH7 eH7'
  refine ⟨_, rfl, la, rfl, ⟨_, SqL.of (s7 _ _ hla nlap)⟩, fun ag hag => lc_map (K := K) (a := la) (xs := RF bs) (Z (begunS r l).gone) hag (SqL.of (s7 _ _ hla nlap)) ?_ bl300 (fun x => rfl) ?_ fun Hg sg hagg => ⟨_, rfl, p, C, dx, _, rfl, sg _ _ p7, X.cl, X.panes_gone, by omega, ?_⟩⟩
  · show (Z (List.replicate l.length 0)).length = (RF bs).length
    rw [List.length_map, List.length_map, bl, List.length_replicate]
  · intro i x y H' Q' hx hy s6 k'
    obtain ⟨n, hn, rfl⟩ := Z_get hy
    have en : n = 0 := (List.mem_replicate.mp (List.mem_of_getElem? hn)).2
    subst en
    exact k' H' (Same.refl _)
  have nagp : ag ≠ p := fun z => by rw [z, p7] at hag; cases hag
  have nag_aw : ag ≠ aw := fun z => by rw [z, aw7] at hag; cases hag
  have nag_ap : ag ≠ ap := fun z => by rw [z, ap7] at hag; cases hag
  have nag_ak : ag ≠ ak := fun z => by rw [z, ak7] at hag; cases hag
  obtain ⟨fsg, efg⟩ : ∃ fs, fs = putF "panes_gone" (.ref ag) fs6 := ⟨_, rfl⟩
  have lg' : fsg.length ≤ 5 := by rw [efg]; exact putF_le l6'
  obtain ⟨HG, eHG⟩ : ∃ HG, HG = upd Hg p (.ins C dx fsg) := ⟨_, rfl⟩
  have eHG' : upd Hg p (.ins C dx (putF "panes_gone" (.ref ag) fs6)) = HG := by rw [eHG, efg]
  rw [eHG']
  have s7G : SE p H7 HG := by rw [eHG]; exact (SE.same sg).trans se_upd
  have sG : SE p H HG := s7.trans s7G
  have pG : HG p = some (.ins C dx fsg) := by rw [eHG]; exact upd_same
  have awG := s7G _ _ aw7 nawp
  have apG := s7G _ _ ap7 napp
  have akG := s7G _ _ ak7 nakp
  have agG : HG ag = some (.lst (Z (begunS r l).gone)) := by rw [eHG, upd_ne nagp]; exact hagg
  have fag : H ag = none := s7.free nagp hag
  clear eHG eHG'
  refine ⟨by decide, fun ax hax => ⟨_, rfl, p, C, dx, fsg, rfl, (same_upd hax) _ _ pG, X.cl, X.strips, by omega, ?_⟩⟩
  have naxp : ax ≠ p := fun z => by rw [z, pG] at hax; cases hax
  have nax_aw : ax ≠ aw := fun z => by rw [z, awG] at hax; cases hax
  have nax_ap : ax ≠ ap := fun z => by rw [z, apG] at hax; cases hax
  have nax_ak : ax ≠ ak := fun z => by rw [z, akG] at hax; cases hax
  have nax_ag : ax ≠ ag := fun z => by rw [z, agG] at hax; cases hax
  obtain ⟨fs8, ef8⟩ : ∃ fs, fs = putF "strips" (.ref ax) fsg := ⟨_, rfl⟩
  have l8 : fs8.length ≤ 6 := by rw [ef8]; exact putF_le lg'
  obtain ⟨H8, eH8⟩ : ∃ H8, H8 = upd (upd HG ax (.lst [])) p (.ins C dx fs8) := ⟨_, rfl⟩
  rw [← ef8]
  rw [← eH8]
  have sG8 : SE p HG H8 := by rw [eH8]; exact (SE.same (same_upd hax)).trans se_upd
  have s8 : SE p H H8 := sG.trans sG8
  have p8 : H8 p = some (.ins C dx fs8) := by rw [eH8]; exact upd_same
  have ax8 : H8 ax = some (.lst []) := by rw [eH8, upd_ne naxp]; exact upd_same
  have fax : H ax = none := sG.free naxp hax
  refine ⟨_, rfl, p, C, dx, fs8, rfl, p8, X.cl, X.brass_come, by omega, ?_⟩
  refine ⟨_, rfl, p, C, dx, _, rfl, upd_same, X.cl, X.scrap, Nat.lt_of_le_of_lt (putF_le l8) (by decide), ?_⟩
  refine ⟨_, rfl, p, C, dx, _, rfl, upd_same, X.cl, X.brass_gone, Nat.lt_of_le_of_lt (putF_le (putF_le l8)) (by decide), fun ad had => ?_⟩
  obtain ⟨fs9, ef9⟩ : ∃ fs, fs = putF "brass_gone" (.int 0) (putF "scrap" (.int 0) (putF "brass_come" (.int 0) fs8)) := ⟨_, rfl⟩
  have l9 : fs9.length ≤ 9 := by rw [ef9]; exact putF_le (putF_le (putF_le l8))
  obtain ⟨H9, eH9⟩ : ∃ H9, H9 = upd (upd (upd H8 p (.ins C dx (putF "brass_come" (.int 0) fs8))) p (.ins C dx (putF "scrap" (.int 0) (putF "brass_come" (.int 0) fs8)))) p (.ins C dx fs9) := ⟨_, rfl⟩
  rw [← ef9] at had ⊢
  rw [← eH9] at had ⊢
  have s89 : SE p H8 H9 := by rw [eH9]; exact se_upd.trans (se_upd.trans se_upd)
  have s9' : SE p H H9 := s8.trans s89
  have p9 : H9 p = some (.ins C dx fs9) := by rw [eH9]; exact upd_same
  have nadp : ad ≠ p := fun z => by rw [z, p9] at had; cases had
  have fad : H ad = none := s9'.free nadp had
  have s9 : Same H9 (upd H9 ad (.dK [])) := same_upd had
  refine ⟨_, rfl, p, C, dx, fs9, rfl, s9 _ _ p9, X.cl, X.lanterns, by omega, ?_⟩
  refine ⟨_, rfl, p, C, dx, _, rfl, upd_same, X.cl, X.made, Nat.lt_of_le_of_lt (putF_le l9) (by decide), ?_⟩
  have go : ∀ {b : Addr} {o : HO}, H9 b = some o → b ≠ p → upd (upd (upd H9 ad (.dK [])) p (.ins C dx (putF "lanterns" (.ref ad) fs9))) p (.ins C dx (putF "made" (.int 0) (putF "lanterns" (.ref ad) fs9))) b = some o := fun {b o} e n => by
    rw [upd_ne n, upd_ne n]
    exact s9 _ _ e
  have go8 : ∀ {b : Addr} {o : HO}, HG b = some o → b ≠ p → upd (upd (upd H9 ad (.dK [])) p (.ins C dx (putF "lanterns" (.ref ad) fs9))) p (.ins C dx (putF "made" (.int 0) (putF "lanterns" (.ref ad) fs9))) b = some o := fun {b o} e n => go (s89 _ _ (sG8 _ _ e n) n) n
  have sN : SE p H (upd (upd (upd H9 ad (.dK [])) p (.ins C dx (putF "lanterns" (.ref ad) fs9))) p (.ins C dx (putF "made" (.int 0) (putF "lanterns" (.ref ad) fs9)))) := fun b o e n => go (s9' b o e n) n
  refine k _ ⟨dx, putF "made" (.int 0) (putF "lanterns" (.ref ad) fs9), aw, ap, ak, ax, ad, ag, [], []⟩ sN ⟨upd_same, Nat.le_trans (putF_le (putF_le l9)) (by decide), ?_, ?_, ?_, ?_, ?_, ?_, ?_, ?_, ?_, ?_, ?_, go8 awG nawp, go8 apG napp, go8 akG nakp, go (s89 _ _ ax8 naxp) naxp, go8 agG nagp, ?_, rfl, rfl, (fun i c la ra h => by have h2 : ([] : List Mu33.Lantern)[i]? = some c := h; simp at h2), ?_, ?_⟩ fun b hb => ?_
  · rw [ef9, ef8, efg, ef6, ef4, ef2]
    repeat (first | exact lk_put | rw [lk_ne (by decide +kernel)])
  · rw [ef9, ef8, efg, ef6, ef4, ef2]
    repeat (first | exact lk_put | rw [lk_ne (by decide +kernel)])
  · rw [ef9, ef8, efg, ef6, ef4]
    repeat (first | exact lk_put | rw [lk_ne (by decide +kernel)])
  · rw [ef9, ef8, efg, ef6]
    repeat (first | exact lk_put | rw [lk_ne (by decide +kernel)])
  · rw [ef9, ef8]
    repeat (first | exact lk_put | rw [lk_ne (by decide +kernel)])
  · repeat (first | exact lk_put | rw [lk_ne (by decide +kernel)])
  · exact lk_put
  · rw [ef9, ef8, efg]
    repeat (first | exact lk_put | rw [lk_ne (by decide +kernel)])
  · rw [ef9]
    repeat (first | exact lk_put | rw [lk_ne (by decide +kernel)])
  · rw [ef9]
    repeat (first | exact lk_put | rw [lk_ne (by decide +kernel)])
  · rw [ef9]
    repeat (first | exact lk_put | rw [lk_ne (by decide +kernel)])
  · show upd (upd (upd H9 ad (.dK [])) p _) p _ ad = some (.dK [])
    rw [upd_ne nadp, upd_ne nadp]
    exact upd_same
  · simp [nap_aw.symm, nak_aw.symm, nak_ap.symm, nax_aw.symm, nax_ap.symm, nax_ak.symm, nag_aw.symm, nag_ap.symm, nag_ak.symm, nax_ag]
  · simp
  · simp only [foot, List.mem_cons, List.append_nil, List.not_mem_nil, or_false] at hb
    rcases hb with h | h | h | h | h | h | h
    · exact .inl h
    · exact .inr (h ▸ faw)
    · exact .inr (h ▸ fap)
    · exact .inr (h ▸ fak)
    · exact .inr (h ▸ fax)
    · exact .inr (h ▸ fad)
    · exact .inr (h ▸ fag)
end
end LR

namespace LR
open PySem PySem.Spec PyProof.Rows L2 LamX
/-- a class of the text and its __init__ -/
def DfI (K : PySem.W.Frag) (q : Str) (st : Stmt) (C : Addr) : Prop := ∃ (f : Addr) (fd : FuncData), Mk K C f ∧ Fun K "__init__" q st f fd
section
variable {P : Program} {w : World} {K : PySem.W.Frag} {mg : Str → Option Value} {base : Heap} {C CL : Addr} {T : List (Addr × Str)}
abbrev sBegun : Stmt := top 47
abbrev NBegun : List Str := ["new", "sorts", "sort"]
theorem scBegun : FnScope NBegun ["new", "sorts"] (defScope sBegun) := ⟨rfl, rfl, rfl, by decide +kernel, rfl, by decide +kernel, by decide +kernel⟩
theorem begun_yes {r : Nat} {l : List (List Nat)} (h1 : 20 ≤ r) (h2 : r ≤ 200) (h3 : 1 ≤ l.length) (h4 : l.length ≤ 4) (h5 : ∀ x ∈ l, (Mu33.sortOf x).isSome = true) : begunOf r l = some (begunS r l) := by
  unfold begunOf
  rw [if_neg]
  · rfl
  · rintro (z | z | z | z | z)
    · omega
    · omega
    · rw [List.isEmpty_iff] at z
      rw [z] at h3
      simp at h3
    · omega
    · obtain ⟨x, hx, e⟩ := List.any_eq_true.mp z
      have := h5 x hx
      cases q : Mu33.sortOf x <;> simp_all
theorem begun_no {r : Nat} {l : List (List Nat)} (h : ¬ 20 ≤ r ∨ ¬ r ≤ 200 ∨ ¬ 1 ≤ l.length ∨ ¬ l.length ≤ 4 ∨ (l.all fun x => (Mu33.sortOf x).isSome) = false) : begunOf r l = none := by
  unfold begunOf
  rw [if_pos]
  rcases h with z | z | z | z | z
  · exact .inl (by omega)
  · exact .inr (.inl (by omega))
  · refine .inr (.inr (.inl ?_))
    rw [List.isEmpty_iff]
    exact List.eq_nil_of_length_eq_zero (by omega)
  · exact .inr (.inr (.inr (.inl (by omega))))
  · refine .inr (.inr (.inr (.inr ?_)))
    rw [List.all_eq_false] at z
    obtain ⟨x, hx, e⟩ := z
    refine List.any_eq_true.mpr ⟨x, hx, ?_⟩
    cases q : Mu33.sortOf x <;> simp_all
theorem cal_begun (B : Bl mg) (X : Txl K mg C CL) (D : Df K mg "begun_shop" sBegun) (I : DfI K "Shop.__init__" sSInit C) (g1 : Gn mg "SHORTEST_NEW" 20) (g2 : Gn mg "LONGEST_NEW" 200) (g3 : Gn mg "MOST_SORTS" 4) (c1 : Cal P w K mg base 1 "is_sort" ["sort"] (spIsSort K)) : Cal P w K mg base 3 "begun_shop" ["new", "sorts"] (spBegun C CL) := by
  obtain ⟨f, fd, F, m⟩ := D
  obtain ⟨fI, fdI, MI, FI⟩ := I
  refine ⟨f, fd, ?_, m, F.kp, F.binds fun _ _ _ _ _ _ us hl => match us, hl with | [_, _], _ => rfl⟩
  refine F.ok scBegun (fun vs H Q E h => by obtain ⟨r, la, bs, l, rfl, _⟩ := h; rfl) (fun cdv A outer s H vs Q E hr h => ?_)
  have bI : Binds K fdI ["self", "new", "sorts"] [] := FI.binds fun _ _ _ _ _ _ us hl => match us, hl with | [_, _, _], _ => rfl
  refine ⟨_, pss_cons (ps_if (pt_not (pt_chain op_le op_le (pe_gn g1 rfl) (pv 0) (pe_gn g2 rfl))) (pss_one (ps_ret pe_non)) pss_nil)
    (pss_cons (ps_if (pt_not (pt_chain op_le op_le pe_int (pe_callB call_len_seq (by rfl) B.len PySem.boot_len (pa_cons (pv 1) pa_nil)) (pe_gn g3 rfl))) (pss_one (ps_ret pe_non)) pss_nil)
    (pss_cons (ps_if (pt_not (pt_val (pe_callB (cr_all rfl) (by rfl) B.all (by decide +kernel) (pa_cons (pe_lc (own := [("sort", 2)]) (g := gName 2) (tt := tYes) (te := tCall (spIsSort K) [] E0 (tCons (tVar 2) tNil)) rfl scBegun.nd (pi_list (pv 1)) (blkOk_by (own := [("sort", 2)]) (N := NBegun) (sc := defScope sBegun) (by decide +kernel))
        (fun _ _ _ _ _ => pg_name (i := 2) scBegun.nd rfl (Or.inl rfl)) (fun _ _ _ _ _ => pts_nil) (fun _ _ _ _ _ => pe_cal c1 (hr.mono (by decide)) rfl (pa_cons (pv 2) pa_nil))) pa_nil)))) (pss_one (ps_ret pe_non)) pss_nil)
    (pss_one (ps_ret (pe_make MI (ok_sinit FI X) hr rfl X.gC bI .nil pass0 (pa_cons (pv 0) (pa_cons (pv 1) pa_nil))))))), ?_⟩
  obtain ⟨r, la, bs, l, rfl, hla, bl, l6, hbs, kn, ks⟩ := h
  have rl : (RF bs).length = l.length := by rw [List.length_map, bl]
  refine ⟨_, rfl, _, _, rfl, rfl, _, rfl, ?_⟩
  by_cases a1 : 20 ≤ r
  · rw [decide_eq_true (show (20 : Int) ≤ (r : Nat) by omega)]
    refine iteT ⟨_, _, rfl, rfl, _, rfl, ?_⟩
    by_cases a2 : r ≤ 200
    · rw [decide_eq_true (show ((r : Nat) : Int) ≤ 200 by omega)]
      refine iteF ⟨_, rfl, la, _, rfl, .inl (SqL.of hla), _, _, rfl, rfl, _, rfl, ?_⟩
      rw [rl]
      by_cases a3 : 1 ≤ l.length
      · rw [decide_eq_true (show (1 : Int) ≤ (l.length : Nat) by omega)]
        refine iteT ⟨_, _, rfl, rfl, _, rfl, ?_⟩
        by_cases a4 : l.length ≤ 4
        · rw [decide_eq_true (show ((l.length : Nat) : Int) ≤ 4 by omega)]
          refine iteF ⟨_, rfl, la, rfl, ⟨_, SqL.of hla⟩, fun D hD => lc_map (K := K) (a := la) (xs := RF bs) (l.map fun x => V.bl (Mu33.sortOf x).isSome) hD (SqL.of hla) (by rw [rl, List.length_map]) (by rw [rl]; omega) (fun x => rfl) ?_ ?_⟩
          · intro i x y H' Q' hx hy s1 k'
            obtain ⟨b, hb, rfl⟩ := RF_get hx
            obtain ⟨q, hq, hbq⟩ := rows_get bl hbs hb
            rw [List.getElem?_map, hq] at hy
            cases hy
            exact ⟨_, rfl, b, q, rfl, SqL.of (s1 _ _ hbq), fun H2 s2 => k' H2 s2⟩
          · intro H2 s2 hD2
            refine ⟨D, l.map fun x => (Mu33.sortOf x).isSome, rfl, by rw [List.map_map]; exact SqL.of hD2, _, rfl, ?_⟩
            have e : (l.map fun x => (Mu33.sortOf x).isSome).all id = l.all fun x => (Mu33.sortOf x).isSome := by
              rw [List.all_map]
              rfl
            rw [e]
            cases a5 : l.all fun x => (Mu33.sortOf x).isSome with
            | false => exact iteT (kn (begun_no (.inr (.inr (.inr (.inr a5))))) H2 s2)
            | true =>
              have hso : ∀ x ∈ l, (Mu33.sortOf x).isSome = true := List.all_eq_true.mp a5
              refine iteF ⟨_, rfl, _, rfl, fun x dx hx hdx ne => ⟨x, dx, la, bs, r, l, rfl, upd_same, ?_, bl, l6, fun i b q h1 h2 => ?_, hso, fun H' A' se SA fr => ⟨rfl, ks _ (begun_yes a1 a2 a3 a4 hso) H' x A' (fun b o e => ?_) SA fun b hb => ?_⟩⟩⟩
              · have n1 : la ≠ x := fun z => by rw [z, s2.free hx] at hla; cases hla
                rw [upd_ne n1]
                exact (same_upd hdx) _ _ (s2 _ _ hla)
              · have e := hbs i b q h1 h2
                have n1 : b ≠ x := fun z => by rw [z, s2.free hx] at e; cases e
                rw [upd_ne n1]
                exact (same_upd hdx) _ _ (s2 _ _ e)
              · have n1 : b ≠ x := fun z => by rw [z, s2.free hx] at e; cases e
                refine se b o ?_ n1
                rw [upd_ne n1]
                exact (same_upd hdx) _ _ (s2 _ _ e)
              · rcases fr b hb with z | z
                · rw [z]
                  exact s2.free hx
                · have n1 : b ≠ x := fun y => by rw [y, upd_same] at z; cases z
                  rw [upd_ne n1] at z
                  exact s2.free ((same_upd hdx).free z)
        · rw [decide_eq_false (show ¬ ((l.length : Nat) : Int) ≤ 4 by omega)]
          exact iteT (kn (begun_no (.inr (.inr (.inr (.inl a4))))) H (Same.refl _))
      · rw [decide_eq_false (show ¬ (1 : Int) ≤ (l.length : Nat) by omega)]
        exact iteF ⟨_, rfl, iteT (kn (begun_no (.inr (.inr (.inl a3)))) H (Same.refl _))⟩
    · rw [decide_eq_false (show ¬ ((r : Nat) : Int) ≤ 200 by omega)]
      exact iteT (kn (begun_no (.inr (.inl a2))) H (Same.refl _))
  · rw [decide_eq_false (show ¬ (20 : Int) ≤ (r : Nat) by omega)]
    exact iteF ⟨_, rfl, iteT (kn (begun_no (.inl a1)) H (Same.refl _))⟩
end
end LR

namespace LR
open PySem PySem.Spec PyProof.Rows L2 LamX
theorem wl_eq {s s' : Mu33.State} (e : s'.sorts = s.sorts) : Wl s' = Wl s := by unfold Wl; rw [e]
theorem pl_eq {s s' : Mu33.State} (e : s'.sorts = s.sorts) : Pl s' = Pl s := by unfold Pl; rw [e]
/-! ### the lanterns' dict -/
theorem kvs_none {i : Nat} : ∀ {ls : List Mu33.Lantern} {as : List Addr}, (∀ d ∈ ls, d.id ≠ i) → valV (kvsOf ls as) (Sum.inl ((i : Nat) : Int)) = none
  | [], _, _ => rfl
  | _ :: _, [], _ => rfl
  | d :: ls, b :: as, h => by
    have nd : ¬ ((Sum.inl ((d.id : Nat) : Int) : Key) = Sum.inl ((i : Nat) : Int)) := fun z => by
      injection z with z
      exact h d List.mem_cons_self (by omega)
    show valV ((Sum.inl ((d.id : Nat) : Int), V.ref b) :: kvsOf ls as) _ = none
    rw [valV_neg nd]
    exact kvs_none fun e he => h e (List.mem_cons_of_mem _ he)
theorem kvs_at {c : Mu33.Lantern} {l : Addr} : ∀ {ls : List Mu33.Lantern} {as : List Addr} {j : Nat}, ls.Pairwise (fun a b => a.id < b.id) → ls[j]? = some c → as[j]? = some l → valV (kvsOf ls as) (Sum.inl ((c.id : Nat) : Int)) = some (.ref l)
  | [], _, _, _, h, _ => by simp at h
  | _ :: _, [], _, _, _, h => by simp at h
  | d :: ls, b :: as, 0, p, h1, h2 => by
    simp at h1 h2
    subst h1 h2
    exact valV_pos rfl
  | d :: ls, b :: as, j + 1, p, h1, h2 => by
    rw [List.pairwise_cons] at p
    have h1' : ls[j]? = some c := by simpa using h1
    have nd : ¬ ((Sum.inl ((d.id : Nat) : Int) : Key) = Sum.inl ((c.id : Nat) : Int)) := fun z => by
      injection z with z
      have := p.1 c (List.mem_of_getElem? h1')
      omega
    show valV ((Sum.inl ((d.id : Nat) : Int), V.ref b) :: kvsOf ls as) _ = _
    rw [valV_neg nd]
    exact kvs_at p.2 h1' (by simpa using h2)
theorem kvs_len {ls : List Mu33.Lantern} {as : List Addr} (h : as.length = ls.length) : (kvsOf ls as).length = ls.length := by
  unfold kvsOf
  rw [List.length_zipWith]
  omega
/-! ### one place of a shop changes -/
section
variable {C CL : Addr} {H : Hp} {a : Addr} {s : Mu33.State} {A : Ad}
theorem lst_ne_ins {H : Hp} {b c C dx : Addr} {l : List V} {fs : List (Str × V)} (h : H b = some (.lst l)) (k : H c = some (.ins C dx fs)) : b ≠ c := fun z => by
  rw [z, k] at h
  cases h
theorem lst_ne_dK {H : Hp} {b c : Addr} {l : List V} {kvs : List (Key × V)} (h : H b = some (.lst l)) (k : H c = some (.dK kvs)) : b ≠ c := fun z => by
  rw [z, k] at h
  cases h
theorem ins_ne_dK {H : Hp} {b c C dx : Addr} {fs : List (Str × V)} {kvs : List (Key × V)} (h : H b = some (.ins C dx fs)) (k : H c = some (.dK kvs)) : b ≠ c := fun z => by
  rw [z, k] at h
  cases h
theorem ShopAt.lasAt (x : ShopAt C CL H a s A) {b : Addr} (h : b ∈ A.las) : ∃ dl fs, H b = some (.ins CL dl fs) := by
  obtain ⟨i, hi⟩ := List.getElem?_of_mem h
  have h1 : i < A.las.length := (List.getElem?_eq_some_iff.mp hi).1
  have h2 : i < s.lanterns.length := by rw [← x.ll]; exact h1
  have h3 : i < A.ras.length := by rw [x.rl]; exact h2
  obtain ⟨⟨dl, fs, e, _⟩, _⟩ := x.lan i _ b _ (List.getElem?_eq_getElem h2) hi (List.getElem?_eq_getElem h3)
  exact ⟨dl, fs, e⟩
theorem ShopAt.rasAt (x : ShopAt C CL H a s A) {b : Addr} (h : b ∈ A.ras) : ∃ l, H b = some (.lst l) := by
  obtain ⟨i, hi⟩ := List.getElem?_of_mem h
  have h3 : i < A.ras.length := (List.getElem?_eq_some_iff.mp hi).1
  have h2 : i < s.lanterns.length := by rw [← x.rl]; exact h3
  have h1 : i < A.las.length := by rw [x.ll]; exact h2
  obtain ⟨_, e⟩ := x.lan i _ _ b (List.getElem?_eq_getElem h2) (List.getElem?_eq_getElem h1) hi
  exact ⟨_, e⟩
/-- the lanterns stay where their places stay -/
theorem ShopAt.lans (x : ShopAt C CL H a s A) {H' : Hp} (h1 : ∀ b ∈ A.las, H' b = H b) (h2 : ∀ b ∈ A.ras, H' b = H b) : ∀ (i : Nat) (c : Mu33.Lantern) (l r : Addr), s.lanterns[i]? = some c → A.las[i]? = some l → A.ras[i]? = some r → LanAt CL H' l r c := fun i c l r e1 e2 e3 =>
  (x.lan i c l r e1 e2 e3).keep (fun o e => by rw [h1 l (List.mem_of_getElem? e2)]; exact e) fun o e => by rw [h2 r (List.mem_of_getElem? e3)]; exact e
theorem ShopAt.nds (x : ShopAt C CL H a s A) : A.aw ≠ A.ap ∧ A.aw ≠ A.ak ∧ A.aw ≠ A.ax ∧ A.ap ≠ A.ak ∧ A.ap ≠ A.ax ∧ A.ak ≠ A.ax ∧ (∀ b ∈ A.ras, A.aw ≠ b) ∧ (∀ b ∈ A.ras, A.ap ≠ b) ∧ (∀ b ∈ A.ras, A.ak ≠ b) ∧ (∀ b ∈ A.ras, A.ax ≠ b) ∧ A.aw ≠ A.ag ∧ A.ap ≠ A.ag ∧ A.ak ≠ A.ag ∧ A.ax ≠ A.ag ∧ (∀ b ∈ A.ras, A.ag ≠ b) := by
  have n := x.nd
  simp only [List.nodup_cons, List.mem_cons, not_or] at n
  obtain ⟨⟨n1, n2, n3, g1, n4⟩, ⟨n5, n6, g2, n7⟩, ⟨n8, g3, n9⟩, ⟨g4, n10⟩, g5, n11⟩ := n
  exact ⟨n1, n2, n3, n5, n6, n8, fun b hb z => n4 (z ▸ hb), fun b hb z => n7 (z ▸ hb), fun b hb z => n9 (z ▸ hb), fun b hb z => n10 (z ▸ hb), g1, g2, g3, g4, fun b hb z => g5 (z ▸ hb)⟩
/-- panes in stock -/
theorem ShopAt.putStock (x : ShopAt C CL H a s A) {s' : Mu33.State} (e1 : s'.new = s.new) (e2 : s'.sorts = s.sorts) (e3 : s'.strips = s.strips) (e4 : s'.lanterns = s.lanterns) (e5 : s'.next = s.next) (e6 : s'.gone = s.gone) (e7 : s'.bought = s.bought) (e8 : s'.scrap = s.scrap) (e9 : s'.away = s.away) : ShopAt C CL (upd H A.ak (.lst (Z s'.stock))) a s' A := by
  obtain ⟨n1, n2, n3, n4, n5, n6, n7, n8, n9, n10, g1, g2, g3, g4, g5⟩ := x.nds
  have na : a ≠ A.ak := (lst_ne_ins x.hk x.ob).symm
  have nd : A.ad ≠ A.ak := (lst_ne_dK x.hk x.hd).symm
  have nl : ∀ b ∈ A.las, b ≠ A.ak := fun b hb => by
    obtain ⟨dl, fs, e⟩ := x.lasAt hb
    exact (lst_ne_ins x.hk e).symm
  refine ⟨by rw [upd_ne na]; exact x.ob, x.len, by rw [e1]; exact x.fnew, x.fwidths, x.fpainted, x.fstock, x.fstrips, x.flanterns, by rw [e5]; exact x.fmade, x.fgone, by rw [e7]; exact x.fcome, by rw [e8]; exact x.fscrap, by rw [e9]; exact x.faway, ?_, ?_, upd_same, ?_, by rw [upd_ne g3.symm, e6]; exact x.hg, ?_, by rw [e4]; exact x.ll, by rw [e4]; exact x.rl, ?_, x.nd, x.ndl⟩
  · rw [upd_ne n2]
    rw [wl_eq e2]
    exact x.hw
  · rw [upd_ne n4]
    rw [pl_eq e2]
    exact x.hp
  · rw [upd_ne n6.symm, e3]
    exact x.hx
  · rw [upd_ne nd, e4]
    exact x.hd
  · rw [e4]
    exact x.lans (fun b hb => upd_ne (nl b hb)) fun b hb => upd_ne (n9 b hb).symm
/-- strips, in their place -/
theorem ShopAt.putStrips (x : ShopAt C CL H a s A) {s' : Mu33.State} (e1 : s'.new = s.new) (e2 : s'.sorts = s.sorts) (e3 : s'.stock = s.stock) (e4 : s'.lanterns = s.lanterns) (e5 : s'.next = s.next) (e6 : s'.gone = s.gone) (e7 : s'.bought = s.bought) (e8 : s'.scrap = s.scrap) (e9 : s'.away = s.away) : ShopAt C CL (upd H A.ax (.lst (Z s'.strips))) a s' A := by
  obtain ⟨n1, n2, n3, n4, n5, n6, n7, n8, n9, n10, g1, g2, g3, g4, g5⟩ := x.nds
  have na : a ≠ A.ax := (lst_ne_ins x.hx x.ob).symm
  have nd : A.ad ≠ A.ax := (lst_ne_dK x.hx x.hd).symm
  have nl : ∀ b ∈ A.las, b ≠ A.ax := fun b hb => by
    obtain ⟨dl, fs, e⟩ := x.lasAt hb
    exact (lst_ne_ins x.hx e).symm
  refine ⟨by rw [upd_ne na]; exact x.ob, x.len, by rw [e1]; exact x.fnew, x.fwidths, x.fpainted, x.fstock, x.fstrips, x.flanterns, by rw [e5]; exact x.fmade, x.fgone, by rw [e7]; exact x.fcome, by rw [e8]; exact x.fscrap, by rw [e9]; exact x.faway, ?_, ?_, ?_, upd_same, by rw [upd_ne g4.symm, e6]; exact x.hg, ?_, by rw [e4]; exact x.ll, by rw [e4]; exact x.rl, ?_, x.nd, x.ndl⟩
  · rw [upd_ne n3]
    rw [wl_eq e2]
    exact x.hw
  · rw [upd_ne n5]
    rw [pl_eq e2]
    exact x.hp
  · rw [upd_ne n6, e3]
    exact x.hk
  · rw [upd_ne nd, e4]
    exact x.hd
  · rw [e4]
    exact x.lans (fun b hb => upd_ne (nl b hb)) fun b hb => upd_ne (n10 b hb).symm
/-- panes that are gone -/
theorem ShopAt.putGone (x : ShopAt C CL H a s A) {s' : Mu33.State} (e1 : s'.new = s.new) (e2 : s'.sorts = s.sorts) (e3 : s'.stock = s.stock) (e4 : s'.lanterns = s.lanterns) (e5 : s'.next = s.next) (e6 : s'.strips = s.strips) (e7 : s'.bought = s.bought) (e8 : s'.scrap = s.scrap) (e9 : s'.away = s.away) : ShopAt C CL (upd H A.ag (.lst (Z s'.gone))) a s' A := by
  obtain ⟨n1, n2, n3, n4, n5, n6, n7, n8, n9, n10, g1, g2, g3, g4, g5⟩ := x.nds
  have na : a ≠ A.ag := (lst_ne_ins x.hg x.ob).symm
  have nd : A.ad ≠ A.ag := (lst_ne_dK x.hg x.hd).symm
  have nl : ∀ b ∈ A.las, b ≠ A.ag := fun b hb => by
    obtain ⟨dl, fs, e⟩ := x.lasAt hb
    exact (lst_ne_ins x.hg e).symm
  refine ⟨by rw [upd_ne na]; exact x.ob, x.len, by rw [e1]; exact x.fnew, x.fwidths, x.fpainted, x.fstock, x.fstrips, x.flanterns, by rw [e5]; exact x.fmade, x.fgone, by rw [e7]; exact x.fcome, by rw [e8]; exact x.fscrap, by rw [e9]; exact x.faway, ?_, ?_, ?_, ?_, upd_same, ?_, by rw [e4]; exact x.ll, by rw [e4]; exact x.rl, ?_, x.nd, x.ndl⟩
  · rw [upd_ne g1, wl_eq e2]
    exact x.hw
  · rw [upd_ne g2, pl_eq e2]
    exact x.hp
  · rw [upd_ne g3, e3]
    exact x.hk
  · rw [upd_ne g4, e6]
    exact x.hx
  · rw [upd_ne nd, e4]
    exact x.hd
  · rw [e4]
    exact x.lans (fun b hb => upd_ne (nl b hb)) fun b hb => upd_ne (g5 b hb).symm
/-- the shop's own fields change -/
theorem ShopAt.putOwn (x : ShopAt C CL H a s A) {s' : Mu33.State} {fs : List (Str × V)} {q : Addr} (hl : fs.length ≤ 100) (f1 : fs.lookup ("new" : Str) = some (.int (s'.new : Nat))) (f2 : fs.lookup ("widths" : Str) = some (.ref A.aw)) (f3 : fs.lookup ("painted" : Str) = some (.ref A.ap)) (f4 : fs.lookup ("stock" : Str) = some (.ref A.ak))
    (f5 : fs.lookup ("strips" : Str) = some (.ref q)) (f6 : fs.lookup ("lanterns" : Str) = some (.ref A.ad)) (f7 : fs.lookup ("made" : Str) = some (.int (s'.next : Nat))) (f8 : fs.lookup ("panes_gone" : Str) = some (.ref A.ag)) (f9 : fs.lookup ("brass_come" : Str) = some (.int (s'.bought : Nat))) (f10 : fs.lookup ("scrap" : Str) = some (.int (s'.scrap : Nat))) (f11 : fs.lookup ("brass_gone" : Str) = some (.int (s'.away : Nat))) (hq : H q = some (.lst (Z s'.strips))) (nq : q = A.ax ∨ q ∉ foot a A) (e2 : s'.sorts = s.sorts) (e3 : s'.stock = s.stock) (e4 : s'.lanterns = s.lanterns) (e6 : s'.gone = s.gone) :
    ShopAt C CL (upd H a (.ins C A.dx fs)) a s' { A with fs := fs, ax := q } := by
  have u : ∀ {b : Addr} {l : List V}, H b = some (.lst l) → upd H a (.ins C A.dx fs) b = some (.lst l) := fun {b l} e => by rw [upd_ne (lst_ne_ins e x.ob)]; exact e
  have nl : ∀ b ∈ A.las, b ≠ a := fun b hb z => by
    have n := x.ndl
    rw [List.nodup_cons] at n
    exact n.1 (z ▸ hb)
  refine ⟨upd_same, hl, f1, f2, f3, f4, f5, f6, f7, f8, f9, f10, f11, ?_, ?_, ?_, u hq, by rw [e6]; exact u x.hg, ?_, by rw [e4]; exact x.ll, by rw [e4]; exact x.rl, ?_, ?_, x.ndl⟩
  · rw [wl_eq e2]
    exact u x.hw
  · rw [pl_eq e2]
    exact u x.hp
  · rw [e3]
    exact u x.hk
  · rw [e4]
    show upd H a (.ins C A.dx fs) A.ad = _
    rw [upd_ne (ins_ne_dK x.ob x.hd).symm]
    exact x.hd
  · rw [e4]
    refine x.lans (fun b hb => upd_ne (nl b hb)) fun b hb => ?_
    obtain ⟨l, e⟩ := x.rasAt hb
    rw [upd_ne (lst_ne_ins e x.ob)]
  · show (A.aw :: A.ap :: A.ak :: q :: A.ag :: A.ras).Nodup
    rcases nq with z | z
    · rw [z]
      exact x.nd
    · have n := x.nd
      simp only [foot, List.mem_cons, List.mem_append, not_or] at z
      obtain ⟨z1, z2, z3, z4, z5, z6, zg, z7, z8⟩ := z
      simp only [List.nodup_cons, List.mem_cons, not_or] at n ⊢
      obtain ⟨⟨n1, n2, n3, g1, n4⟩, ⟨n5, n6, g2, n7⟩, ⟨n8, g3, n9⟩, ⟨g4, n10⟩, g5, n11⟩ := n
      exact ⟨⟨n1, n2, fun y => z2 y.symm, g1, n4⟩, ⟨n5, fun y => z3 y.symm, g2, n7⟩, ⟨fun y => z4 y.symm, g3, n9⟩, ⟨zg, z8⟩, g5, n11⟩
/-- a lantern more -/
theorem ShopAt.addLan (x : ShopAt C CL H a s A) {s' : Mu33.State} {l r : Addr} {c : Mu33.Lantern} (hc : LanAt CL H l r c) (nl : l ∉ foot a A) (nr : r ∉ foot a A) (hn : ∀ d ∈ s.lanterns, d.id ≠ c.id) (e1 : s'.new = s.new) (e2 : s'.sorts = s.sorts) (e3 : s'.stock = s.stock) (e4 : s'.strips = s.strips) (e5 : s'.next = s.next) (e6 : s'.lanterns = s.lanterns ++ [c]) (e7 : s'.bought = s.bought) (e8 : s'.scrap = s.scrap) (e9 : s'.away = s.away) (e10 : s'.gone = s.gone) :
    ShopAt C CL (upd H A.ad (.dK (putK (kvsOf s.lanterns A.las) (Sum.inl ((c.id : Nat) : Int)) (.ref l)))) a s' { A with las := A.las ++ [l], ras := A.ras ++ [r] } := by
  have u : ∀ {b : Addr} {z : List V}, H b = some (.lst z) → upd H A.ad (.dK (putK (kvsOf s.lanterns A.las) (Sum.inl ((c.id : Nat) : Int)) (.ref l))) b = some (.lst z) := fun {b z} e => by rw [upd_ne (lst_ne_dK e x.hd)]; exact e
  simp only [foot, List.mem_cons, List.mem_append, not_or] at nl nr
  obtain ⟨l1, l2, l3, l4, l5, l6, lg, l7, l8⟩ := nl
  obtain ⟨r1, r2, r3, r4, r5, r6, rg, r7, r8⟩ := nr
  refine ⟨by rw [upd_ne (ins_ne_dK x.ob x.hd)]; exact x.ob, x.len, by rw [e1]; exact x.fnew, x.fwidths, x.fpainted, x.fstock, x.fstrips, x.flanterns, by rw [e5]; exact x.fmade, x.fgone, by rw [e7]; exact x.fcome, by rw [e8]; exact x.fscrap, by rw [e9]; exact x.faway, ?_, ?_, ?_, ?_, by rw [e10]; exact u x.hg, ?_, ?_, ?_, ?_, ?_, ?_⟩
  · rw [wl_eq e2]
    exact u x.hw
  · rw [pl_eq e2]
    exact u x.hp
  · rw [e3]
    exact u x.hk
  · rw [e4]
    exact u x.hx
  · show upd H A.ad _ A.ad = _
    rw [upd_same, e6]
    refine congrArg (fun z => some (HO.dK z)) ?_
    rw [putK_new _ (kvs_none hn)]
    unfold kvsOf
    rw [List.zipWith_append x.ll.symm]
    rfl
  · rw [e6]
    simp [x.ll]
  · rw [e6]
    simp [x.rl]
  · intro i d la ra h1 h2 h3
    rw [e6] at h1
    have kp : ∀ {b : Addr} {o : HO}, H b = some o → b ≠ A.ad → upd H A.ad (.dK (putK (kvsOf s.lanterns A.las) (Sum.inl ((c.id : Nat) : Int)) (.ref l))) b = some o := fun {b o} e n => by rw [upd_ne n]; exact e
    rcases snoc_get h1 with z | ⟨z1, z2⟩
    · have hi : i < s.lanterns.length := (List.getElem?_eq_some_iff.mp z).1
      have h2' : A.las[i]? = some la := by
        have q : (A.las ++ [l])[i]? = some la := h2
        rw [List.getElem?_append_left (by rw [x.ll]; exact hi)] at q
        exact q
      have h3' : A.ras[i]? = some ra := by
        have q : (A.ras ++ [r])[i]? = some ra := h3
        rw [List.getElem?_append_left (by rw [x.rl]; exact hi)] at q
        exact q
      refine (x.lan i d la ra z h2' h3').keep (fun o e => kp e ?_) fun o e => kp e ?_
      · obtain ⟨dl, fs, e⟩ := x.lasAt (List.mem_of_getElem? h2')
        exact ins_ne_dK e x.hd
      · obtain ⟨q, e⟩ := x.rasAt (List.mem_of_getElem? h3')
        exact lst_ne_dK e x.hd
    · have q2 : la = l := by
        rcases snoc_get (show (A.las ++ [l])[i]? = some la from h2) with y | ⟨_, y⟩
        · have := (List.getElem?_eq_some_iff.mp y).1
          rw [x.ll] at this
          omega
        · exact y
      have q3 : ra = r := by
        rcases snoc_get (show (A.ras ++ [r])[i]? = some ra from h3) with y | ⟨_, y⟩
        · have := (List.getElem?_eq_some_iff.mp y).1
          rw [x.rl] at this
          omega
        · exact y
      rw [q2, q3, z2]
      exact hc.keep (fun o e => kp e l6) fun o e => kp e r6
  · show (A.aw :: A.ap :: A.ak :: A.ax :: A.ag :: (A.ras ++ [r])).Nodup
    have n := x.nd
    simp only [List.nodup_cons, List.mem_cons, List.mem_append, List.not_mem_nil, or_false, not_or, List.nodup_append] at n ⊢
    obtain ⟨⟨n1, n2, n3, g1, n4⟩, ⟨n5, n6, g2, n7⟩, ⟨n8, g3, n9⟩, ⟨g4, n10⟩, g5, n11⟩ := n
    refine ⟨⟨n1, n2, n3, g1, n4, fun y => r2 y.symm⟩, ⟨n5, n6, g2, n7, fun y => r3 y.symm⟩, ⟨n8, g3, n9, fun y => r4 y.symm⟩, ⟨g4, n10, fun y => r5 y.symm⟩, ⟨g5, fun y => rg y.symm⟩, n11, ⟨by simp, by simp⟩, fun b hb d hd => ?_⟩
    rw [hd]
    exact fun y => r8 (y ▸ hb)
  · show (a :: (A.las ++ [l])).Nodup
    have n := x.ndl
    simp only [List.nodup_cons, List.mem_append, List.mem_cons, List.not_mem_nil, or_false, not_or, List.nodup_append] at n ⊢
    refine ⟨⟨n.1, fun y => l1 y.symm⟩, n.2, ⟨by simp, by simp⟩, fun b hb d hd => ?_⟩
    rw [hd]
    exact fun y => l7 (y ▸ hb)
end
end LR

namespace LR
open PySem PySem.Spec PyProof.Rows L2 LamX
/-- the shop at a does what the call x asks -/
def Does (C CL : Addr) (T : List (Addr × Str)) (H : Hp) (Q : VK) (a : Addr) (x : Mu33.Call) : Prop := ∃ (s : Mu33.State) (A : Ad) (s' : Mu33.State) (ans : List Int), ShopAt C CL H a s A ∧ Good s ∧ Tabs T H ∧ Mu33.step (some s) x = (some s', ans) ∧ Told C CL T H Q a A s' ans
theorem Told.ans {C CL : Addr} {T : List (Addr × Str)} {H : Hp} {Q : VK} {a : Addr} {A : Ad} {s : Mu33.State} {ans : List Int} (k : Told C CL T H Q a A s ans) (x : ShopAt C CL H a s A) (t : Tabs T H) : Ans H Q ans := fun H' p s1 h1 h2 =>
  k H' A p (x.same s1) (.same s1) (fun b hb => .inl hb) (t.ext s1) (.none h1) h2
section
variable {P : Program} {w : World} {K : PySem.W.Frag} {mg : Str → Option Value} {base : Heap} {C CL : Addr} {T : List (Addr × Str)}
theorem foot_k {a : Addr} {A : Ad} : A.ak ∈ foot a A := by simp [foot]
theorem foot_x {a : Addr} {A : Ad} : A.ax ∈ foot a A := by simp [foot]
theorem foot_g {a : Addr} {A : Ad} : A.ag ∈ foot a A := by simp [foot]
theorem foot_d {a : Addr} {A : Ad} : A.ad ∈ foot a A := by simp [foot]
theorem foot_a {a : Addr} {A : Ad} : a ∈ foot a A := by simp [foot]
/-! ### add_panes -/
abbrev sPanes : Stmt := top 48
theorem scPanes : FnScope ["shop", "sort", "n"] ["shop", "sort", "n"] (defScope sPanes) := ⟨rfl, rfl, rfl, by decide +kernel, rfl, by decide +kernel, by decide +kernel⟩
def spPanes (C CL : Addr) (T : List (Addr × Str)) : Sp := fun vs H Q _ => ∃ (a : Addr) (k n : Nat), vs = [.ref a, .int k, .int n] ∧ Does C CL T H Q a (.panes k n)
theorem cal_panes (B : Bl mg) (X : Txl K mg C CL) (D : Df K mg "add_panes" sPanes) (g1 : Gn mg "MOST_PANES_IN_STOCK" 99) : Cal P w K mg base 1 "add_panes" ["shop", "sort", "n"] (spPanes C CL T) := by
  obtain ⟨f, fd, F, m⟩ := D
  refine ⟨f, fd, ?_, m, F.kp, F.binds fun _ _ _ _ _ _ us hl => match us, hl with | [_, _, _], _ => rfl⟩
  refine F.ok scPanes (fun vs H Q E h => by obtain ⟨a, k, n, rfl, _⟩ := h; rfl) (fun cdv A outer s H vs Q E hr h => ?_)
  refine ⟨_, pss_cons (ps_if (pt_cmpR op_ge (pv 1) (pe_callB call_len_seq (by rfl) B.len PySem.boot_len (pa_cons (pe_fld (pv 0) rfl) pa_nil)) (nomark _)) (pss_one (ps_ret (pe_lst (pa_cons (pe_un un_neg pe_int) pa_nil)))) pss_nil)
    (pss_cons (ps_if (pt_cmpR op_gt (pe_op op_add (pe_ix ix_list (pe_fld (pv 0) rfl) (pv 1) (fun _ _ => rfl)) (pv 2)) (pe_gn g1 rfl) (nomark _)) (pss_one (ps_ret (pe_lst (pa_cons (pe_un un_neg pe_int) pa_nil)))) pss_nil)
    (pss_cons (ps_augS (pe_fld (pv 0) rfl) (pv 1) get_list (pv 2) ip_add set_list)
    (pss_one (ps_ret (pe_lst (pa_cons (pe_ix ix_list (pe_fld (pv 0) rfl) (pv 1) (fun _ _ => rfl)) pa_nil)))))), ?_⟩
  obtain ⟨a, k, n, rfl, s, A, s', ans, SA, G, hT, hs, q⟩ := h
  have zl : (Z s.stock).length = s.sorts.length := by rw [List.length_map, G.stock]
  refine ⟨_, rfl, _, rfl, a, C, _, _, _, rfl, SA.ob, X.cl, X.stock, SA.fstock, A.ak, _, rfl, .inl (SqL.of SA.hk), _, _, rfl, rfl, _, rfl, ?_⟩
  rw [zl]
  unfold Mu33.step at hs
  dsimp only at hs
  by_cases c1 : s.sorts.length ≤ k
  · rw [decide_eq_true (show ((s.sorts.length : Nat) : Int) ≤ (k : Nat) by omega)]
    rw [if_pos c1] at hs
    cases hs
    exact iteT ⟨_, rfl, by show 1 ≤ sizeLine; decide, ans1 (q.ans SA hT)⟩
  · rw [decide_eq_false (show ¬ ((s.sorts.length : Nat) : Int) ≤ (k : Nat) by omega)]
    rw [if_neg c1] at hs
    have hk : k < s.stock.length := by rw [G.stock]; omega
    have eg : s.stock[k]? = some (s.stock.getD k 0) := by rw [List.getElem?_eq_getElem hk, List.getD_eq_getElem?_getD, List.getElem?_eq_getElem hk]; rfl
    refine iteF ⟨_, rfl, a, C, _, _, _, rfl, SA.ob, X.cl, X.stock, SA.fstock, _, rfl, A.ak, _, _, _, rfl, rfl, SqL.of SA.hk, atI_nat (Z_at eg), _, rfl, _, _, rfl, rfl, _, _, rfl, rfl, _, rfl, ?_⟩
    by_cases c2 : 99 < s.stock.getD k 0 + n
    · rw [decide_eq_true (show (99 : Int) < ((s.stock.getD k 0 : Nat) : Int) + (n : Nat) by omega)]
      rw [if_pos c2] at hs
      cases hs
      exact iteT ⟨_, rfl, by show 1 ≤ sizeLine; decide, ans1 (q.ans SA hT)⟩
    · rw [decide_eq_false (show ¬ (99 : Int) < ((s.stock.getD k 0 : Nat) : Int) + (n : Nat) by omega)]
      rw [if_neg c2] at hs
      cases hs
      refine iteF ⟨_, rfl, a, C, _, _, _, rfl, SA.ob, X.cl, X.stock, SA.fstock, _, rfl, A.ak, _, _, _, rfl, rfl, SqL.of SA.hk, atI_nat (Z_at eg), _, rfl, _, _, rfl, rfl, A.ak, _, _, k, rfl, rfl, SA.hk, ixN_nat (by rw [List.length_map]; exact hk), ?_⟩
      have ez : (Z s.stock).set k (V.int (((s.stock.getD k 0 : Nat) : Int) + (n : Nat))) = Z (s.stock.set k (s.stock.getD k 0 + n)) := by
        unfold Z
        rw [List.map_set]
        rfl
      rw [ez]
      have SA' := SA.putStock (s' := { s with stock := s.stock.set k (s.stock.getD k 0 + n), came := s.came.set k (s.came.getD k 0 + n) }) rfl rfl rfl rfl rfl rfl rfl rfl rfl
      have F1 : Frame (foot a A) H (upd H A.ak (.lst (Z (s.stock.set k (s.stock.getD k 0 + n))))) := frame_upd foot_k fun _ z => by cases z
      have T1 : Tabs T (upd H A.ak (.lst (Z (s.stock.set k (s.stock.getD k 0 + n))))) := tabs_lst hT SA.hk
      have eg' : (s.stock.set k (s.stock.getD k 0 + n))[k]? = some (s.stock.getD k 0 + n) := by rw [List.getElem?_set_self hk]
      refine ⟨_, rfl, a, C, _, _, _, rfl, SA'.ob, X.cl, X.stock, SA'.fstock, _, rfl, A.ak, _, _, _, rfl, rfl, SqL.of SA'.hk, atI_nat (Z_at eg'), by show 1 ≤ sizeLine; decide, fun p hp => ?_⟩
      refine q _ A p (SA'.same (same_upd hp)) (F1.trans (.same (F := foot a A) (same_upd hp)) fun x hx => .inl hx) (fun b hb => .inl hb) (T1.ext (same_upd hp)) (F1.live p (.none hp)) ?_
      rw [upd_same]
      rfl
end
end LR

namespace LR
open PySem PySem.Spec PyProof.Rows L2 LamX
section
variable {P : Program} {w : World} {K : PySem.W.Frag} {mg : Str → Option Value} {base : Heap} {C CL : Addr} {T : List (Addr × Str)}
/-! ### add_strips -/
abbrev sStrips : Stmt := top 49
theorem scStrips : FnScope ["shop", "n", "strip"] ["shop", "n"] (defScope sStrips) := ⟨rfl, rfl, rfl, by decide +kernel, rfl, by decide +kernel, by decide +kernel⟩
def spStrips (C CL : Addr) (T : List (Addr × Str)) : Sp := fun vs H Q _ => ∃ (a : Addr) (n : Nat), vs = [.ref a, .int n] ∧ Does C CL T H Q a (.brass n)
theorem cal_strips (B : Bl mg) (X : Txl K mg C CL) (D : Df K mg "add_strips" sStrips) (g1 : Gn mg "MOST_STRIPS" 8) : Cal P w K mg base 1 "add_strips" ["shop", "n"] (spStrips C CL T) := by
  obtain ⟨f, fd, F, m⟩ := D
  refine ⟨f, fd, ?_, m, F.kp, F.binds fun _ _ _ _ _ _ us hl => match us, hl with | [_, _], _ => rfl⟩
  refine F.ok scStrips (fun vs H Q E h => by obtain ⟨a, n, rfl, _⟩ := h; rfl) (fun cdv A outer s H vs Q E hr h => ?_)
  refine ⟨_, pss_cons (ps_if (pt_cmpR op_gt (pe_op op_add (pe_callB call_len_seq (by rfl) B.len PySem.boot_len (pa_cons (pe_fld (pv 0) rfl) pa_nil)) (pv 1)) (pe_gn g1 rfl) (nomark _)) (pss_one (ps_ret (pe_lst (pa_cons (pe_un un_neg pe_int) pa_nil)))) pss_nil)
    (pss_cons (ps_for PassesOwn.never rfl (pi_range1 rfl B.range (pa_cons (pv 1) pa_nil)) (pg_name (i := 2) scStrips.nd rfl (Or.inl rfl))
      (pss_one (ps_expr (pe_bm PySem.F.plainAttrs_list PySem.F.slot_list_append PySem.F.type_list_append mt_append (pe_fld (pv 0) rfl) (pa_cons (pe_fld (pv 0) rfl) pa_nil)))))
    (pss_cons (ps_fldaug (pv 0) (pe_mul (pv 1) (pe_fld (pv 0) rfl)) in_add)
    (pss_one (ps_ret (pe_lst (pa_cons (pe_callB call_len_seq (by rfl) B.len PySem.boot_len (pa_cons (pe_fld (pv 0) rfl) pa_nil)) pa_nil)))))), ?_⟩
  obtain ⟨a, n, rfl, s, A, s', ans, SA, G, hT, hs, q⟩ := h
  have zl : (Z s.strips).length = s.strips.length := List.length_map ..
  refine ⟨_, rfl, a, C, _, _, _, rfl, SA.ob, X.cl, X.strips, SA.fstrips, A.ax, _, rfl, .inl (SqL.of SA.hx), _, rfl, _, _, rfl, rfl, _, _, rfl, rfl, _, rfl, ?_⟩
  rw [zl]
  unfold Mu33.step at hs
  dsimp only at hs
  by_cases c1 : Mu33.STRIPS < s.strips.length + n
  · have c1' : 8 < s.strips.length + n := c1
    rw [decide_eq_true (show (8 : Int) < ((s.strips.length : Nat) : Int) + (n : Nat) by omega)]
    rw [if_pos c1] at hs
    cases hs
    exact iteT ⟨_, rfl, by show 1 ≤ sizeLine; decide, ans1 (q.ans SA hT)⟩
  · have c1' : ¬ 8 < s.strips.length + n := c1
    rw [decide_eq_false (show ¬ (8 : Int) < ((s.strips.length : Nat) : Int) + (n : Nat) by omega)]
    rw [if_neg c1] at hs
    cases hs
    refine iteF ⟨_, rfl, n, rfl, by omega, by omega, ?_⟩
    refine for_range (lo := 0) (n := n) (fun i σ H' => ∃ v2 : Option V, σ = [some (.ref a), some (.int (n : Nat)), v2] ∧ ShopAt C CL H' a { s with strips := s.strips ++ List.replicate i s.new } A ∧ Frame (foot a A) H H' ∧ Tabs T H') ⟨none, rfl, ?_, .refl, hT⟩ ?_ ?_
    · have e : ({ s with strips := s.strips ++ List.replicate 0 s.new } : Mu33.State) = s := by
        cases s
        simp
      rw [e]
      exact SA
    · rintro i σ H1 hi ⟨v2, rfl, S1, F1, T1⟩
      refine ⟨_, rfl, a, C, _, _, _, rfl, S1.ob, X.cl, X.strips, S1.fstrips, .inl ⟨rfl, _, SqL.of S1.hx⟩, _, rfl, a, C, _, _, _, rfl, S1.ob, X.cl, X.new, S1.fnew, A.ax, _, _, rfl, rfl, S1.hx, ?_, _, rfl, ?_, F1.trans (frame_upd (F := foot a A) foot_x fun _ z => by cases z) (fun x hx => .inl hx), tabs_lst T1 S1.hx⟩
      · rw [List.length_map, sizeLine_eq, List.length_append, List.length_replicate]
        omega
      · have S2 := S1.putStrips (s' := { s with strips := s.strips ++ List.replicate (i + 1) s.new }) rfl rfl rfl rfl rfl rfl rfl rfl rfl
        have e : Z (s.strips ++ List.replicate (i + 1) s.new) = Z (s.strips ++ List.replicate i s.new) ++ [V.int (s.new : Nat)] := by
          rw [List.replicate_succ', ← List.append_assoc]
          unfold Z
          rw [List.map_append]
          rfl
        rw [e] at S2
        exact S2
    · rintro σ H1 ⟨v2, rfl, S1, F1, T1⟩
      refine ⟨_, rfl, a, C, _, _, _, rfl, S1.ob, X.cl, X.brass_come, S1.fcome, _, rfl, _, rfl, a, C, _, _, _, rfl, S1.ob, X.cl, X.new, S1.fnew, _, _, rfl, rfl, ⟨by omega, by omega⟩, _, _, rfl, rfl, _, _, S1.ob, Nat.lt_of_le_of_lt S1.len (by decide), ?_⟩
      have S3 := S1.putOwn (s' := { s with strips := s.strips ++ List.replicate n s.new, bought := s.bought + n * s.new }) (fs := putF "brass_come" (.int (((s.bought : Nat) : Int) + ((n : Nat) : Int) * ((s.new : Nat) : Int))) A.fs) (q := A.ax) (by rw [putF_len S1.fcome]; exact S1.len) (by rw [lk_ne (by decide +kernel)]; exact S1.fnew) (by rw [lk_ne (by decide +kernel)]; exact S1.fwidths) (by rw [lk_ne (by decide +kernel)]; exact S1.fpainted) (by rw [lk_ne (by decide +kernel)]; exact S1.fstock) (by rw [lk_ne (by decide +kernel)]; exact S1.fstrips) (by rw [lk_ne (by decide +kernel)]; exact S1.flanterns) (by rw [lk_ne (by decide +kernel)]; exact S1.fmade) (by rw [lk_ne (by decide +kernel)]; exact S1.fgone) (by rw [lk_put]; simp) (by rw [lk_ne (by decide +kernel)]; exact S1.fscrap) (by rw [lk_ne (by decide +kernel)]; exact S1.faway) S1.hx (.inl rfl) rfl rfl rfl rfl
      have F3 : Frame (foot a A) H _ := F1.trans (frame_upd (F := foot a A) (H := H1) (x := a) (o := .ins C A.dx (putF "brass_come" (.int (((s.bought : Nat) : Int) + ((n : Nat) : Int) * ((s.new : Nat) : Int))) A.fs)) foot_a fun _ z => by cases z) fun x hx => .inl hx
      have T3 : Tabs T (upd H1 a (.ins C A.dx (putF "brass_come" (.int (((s.bought : Nat) : Int) + ((n : Nat) : Int) * ((s.new : Nat) : Int))) A.fs))) := tabs_upd T1 S1.ob (fun _ z => by cases z) fun _ z => by cases z
      refine ⟨_, rfl, a, C, _, _, _, rfl, S3.ob, X.cl, X.strips, S3.fstrips, A.ax, _, rfl, .inl (SqL.of S3.hx), by show 1 ≤ sizeLine; decide, fun p hp => ?_⟩
      refine q _ _ p (S3.same (same_upd hp)) (F3.trans (.same (F := foot a A) (same_upd hp)) fun x hx => .inl hx) (fun b hb => .inl hb) (T3.ext (same_upd hp)) (F3.live p (.none hp)) ?_
      rw [upd_same, List.length_map, List.length_append, List.length_replicate]
      rfl
end
end LR

namespace LR
open PySem PySem.Spec PyProof.Rows L2 LamX
section
variable {P : Program} {w : World} {K : PySem.W.Frag} {mg : Str → Option Value} {base : Heap} {C CL : Addr} {T : List (Addr × Str)}
/-! ### stand_lantern -/
abbrev sStand : Stmt := top 54
abbrev NStand : List Str := ["shop", "girth", "ring", "sort", "number"]
theorem scStand : FnScope NStand ["shop", "girth", "ring"] (defScope sStand) := ⟨rfl, rfl, rfl, by decide +kernel, rfl, by decide +kernel, by decide +kernel⟩
/-- the shop with a lantern more -/
def stoodS (s : Mu33.State) (g : Nat) (l : List Nat) : Mu33.State := { s with stock := stockTo s l l.length, lanterns := s.lanterns ++ [⟨s.next, g, l, 0⟩], next := s.next + 1 }
def spStand (C CL : Addr) (T : List (Addr × Str)) : Sp := fun vs H Q _ => ∃ (a r : Addr) (g : Nat) (s : Mu33.State) (A : Ad) (l : List Nat), vs = [.ref a, .int g, .ref r] ∧ ShopAt C CL H a s A ∧ Tabs T H ∧ H r = some (.lst (Z l)) ∧ r ∉ foot a A ∧ s.stock.length = s.sorts.length ∧ s.lanterns.length ≤ 6 ∧ (∀ d ∈ s.lanterns, d.id < s.next) ∧
  (∀ k ∈ l, k < s.sorts.length ∧ Mu33.count k l ≤ s.stock.getD k 0) ∧ l.length ≤ 10 ∧
  ∀ (H' : Hp) (A' : Ad), ShopAt C CL H' a (stoodS s g l) A' → Frame (foot a A) H H' → (∀ b ∈ foot a A', b ∈ foot a A ∨ b = r ∨ NL H b) → Tabs T H' → Q (.int (s.next : Nat)) H'
theorem cal_stand (B : Bl mg) (X : Txl K mg C CL) (D : Df K mg "stand_lantern" sStand) (I : DfI K "Lantern.__init__" sLInit CL) : Cal P w K mg base 3 "stand_lantern" ["shop", "girth", "ring"] (spStand C CL T) := by
  obtain ⟨f, fd, F, m⟩ := D
  obtain ⟨fI, fdI, MI, FI⟩ := I
  refine ⟨f, fd, ?_, m, F.kp, F.binds fun _ _ _ _ _ _ us hl => match us, hl with | [_, _, _], _ => rfl⟩
  refine F.ok scStand (fun vs H Q E h => by obtain ⟨a, r, g, s, A, l, rfl, _⟩ := h; rfl) (fun cdv A outer s H vs Q E hr h => ?_)
  have bI : Binds K fdI ["self", "girth", "ring"] [] := FI.binds fun _ _ _ _ _ _ us hl => match us, hl with | [_, _, _], _ => rfl
  have hu : (A.deeper (envOfC "stand_lantern" (defScope sStand) s.heap.objs.size f cdv)).units + 1 < cLine := by
    have := hr.un
    omega
  refine ⟨_, pss_cons (ps_for PassesOwn.never rfl (pi_list (pv 2)) (pg_name (i := 3) scStand.nd rfl (Or.inl rfl))
      (pss_one (ps_augS (pe_fld (pv 0) rfl) (pv 3) get_list pe_int ip_sub set_list)))
    (pss_cons (ps_set (i := 4) scStand.nd rfl (Or.inl rfl) (pe_fld (pv 0) rfl))
    (pss_cons (ps_dput hu (pe_fld (pv 0) rfl) (pv 4) (pe_make MI (ok_linit FI X) hr rfl X.gL bI .nil pass0 (pa_cons (pv 1) (pa_cons (pv 2) pa_nil))) rfl)
    (pss_cons (ps_fldaug (pv 0) pe_int in_add)
    (pss_one (ps_ret (pv 4)))))), ?_⟩
  obtain ⟨a, r, g, s, A, l, rfl, SA, hT, hr1, nrF, h1, h6, hid, hl, h10, k⟩ := h
  have stay : ∀ H', Frame (foot a A) H H' → H' r = some (.lst (Z l)) := fun H' F => F.keep r _ hr1 nrF fun _ z => by cases z
  refine ⟨_, rfl, r, rfl, ⟨_, SqL.of hr1⟩, for_list (K := K) (a := r) (xs := Z l) (fun i σ H' => ∃ v3 v4 : Option V, σ = [some (.ref a), some (.int (g : Nat)), some (.ref r), v3, v4] ∧ ShopAt C CL H' a { s with stock := stockTo s l i } A ∧ Frame (foot a A) H H' ∧ Tabs T H')
    ⟨none, none, rfl, by rw [stockTo_zero h1]; exact SA, .refl, hT⟩ (fun i σ H' _ h => by
      obtain ⟨_, _, _, _, F1, _⟩ := h
      exact SqL.of (stay H' F1)) ?_ ?_⟩
  · rintro i x σ H1 hx ⟨v3, v4, rfl, S1, F1, T1⟩
    obtain ⟨j, hj, rfl⟩ := Z_get hx
    obtain ⟨hjl, hjc⟩ := hl j (List.mem_of_getElem? hj)
    obtain ⟨st1, st2⟩ := stockTo_step hj hjl hjc
    have eg := stockTo_get (s := s) (l := l) (i := i) hjl
    refine ⟨_, rfl, a, C, _, _, _, rfl, S1.ob, X.cl, X.stock, S1.fstock, _, rfl, A.ak, _, _, _, rfl, rfl, SqL.of S1.hk, atI_nat (Z_at eg), _, _, rfl, rfl, A.ak, _, _, j, rfl, rfl, S1.hk, ixN_nat (by rw [List.length_map]; show j < (stockTo s l i).length; rw [stockTo_len]; exact hjl), _, _, rfl, ?_, F1.trans (frame_upd (F := foot a A) foot_k fun _ z => by cases z) (fun x hx => .inl hx), tabs_lst T1 S1.hk⟩
    have ez : (Z (stockTo s l i)).set j (V.int (((s.stock.getD j 0 - Mu33.count j (l.take i) : Nat) : Int) - 1)) = Z (stockTo s l (i + 1)) := by
      rw [← st2]
      unfold Z
      rw [List.map_set]
      congr 1
      show V.int _ = V.int _
      congr 1
      omega
    show ShopAt C CL (upd H1 A.ak (.lst ((Z (stockTo s l i)).set j _))) a _ A
    rw [ez]
    exact S1.putStock (s' := { s with stock := stockTo s l (i + 1) }) rfl rfl rfl rfl rfl rfl rfl rfl rfl
  · rintro σ H2 ⟨v3, v4, rfl, S2, F2, T2⟩
    have zl : (Z l).length = l.length := List.length_map ..
    rw [zl] at S2
    have hr2 := stay H2 F2
    refine ⟨_, rfl, a, C, _, _, _, rfl, S2.ob, X.cl, X.made, S2.fmade, ?_⟩
    refine ⟨_, rfl, _, rfl, fun x dx hx hdx ne => ⟨x, dx, r, g, l, rfl, upd_same, ?_, fun H3 se LA => ⟨rfl, ?_⟩⟩⟩
    · have n1 : r ≠ x := ne_of_none hr2 hx
      rw [upd_ne n1]
      exact (same_upd hdx) _ _ hr2
    · have s23 : Same H2 H3 := fun b o e => by
        have n1 : b ≠ x := ne_of_none e hx
        refine se b o ?_ n1
        rw [upd_ne n1]
        exact (same_upd hdx) _ _ e
      have S3 := S2.same s23
      have nxF : x ∉ foot a A := fun z => by
        obtain ⟨o, e, _⟩ := S2.there z
        rw [hx] at e
        cases e
      have hn : ∀ d ∈ s.lanterns, d.id ≠ s.next := fun d hd => Nat.ne_of_lt (hid d hd)
      have S4 := S3.addLan (s' := { s with stock := stockTo s l l.length, lanterns := s.lanterns ++ [⟨s.next, g, l, 0⟩] }) (LA s.next) nxF nrF hn rfl rfl rfl rfl rfl rfl rfl rfl rfl rfl
      have F4 : Frame (foot a A) H (upd H3 A.ad (.dK (putK (kvsOf s.lanterns A.las) (Sum.inl ((s.next : Nat) : Int)) (.ref x)))) := (F2.trans (.same (F := foot a A) s23) fun x hx => .inl hx).trans (frame_upd (F := foot a A) foot_d fun _ z => by cases z) fun x hx => .inl hx
      have T4 : Tabs T (upd H3 A.ad (.dK (putK (kvsOf s.lanterns A.las) (Sum.inl ((s.next : Nat) : Int)) (.ref x)))) := tabs_upd (T2.ext s23) S3.hd (fun _ z => by cases z) fun _ z => by cases z
      refine ⟨_, rfl, a, C, _, _, _, rfl, S3.ob, X.cl, X.lanterns, S3.flanterns, _, rfl, A.ad, _, rfl, .inl ⟨_, Sum.inl ((s.next : Nat) : Int), S3.hd, rfl, ?_, rfl⟩, ?_⟩
      · rw [kvs_len S3.ll, sizeLine_eq]
        show s.lanterns.length < _
        omega
      refine ⟨_, rfl, a, C, _, _, _, rfl, S4.ob, X.cl, X.made, S4.fmade, _, _, rfl, rfl, _, _, S4.ob, Nat.lt_of_le_of_lt S4.len (by decide), _, rfl, ?_⟩
      have S5 := S4.putOwn (s' := stoodS s g l) (fs := putF "made" (.int (((s.next : Nat) : Int) + 1)) A.fs) (q := A.ax) (by rw [putF_len S4.fmade]; exact S4.len) (by rw [lk_ne (by decide +kernel)]; exact S4.fnew) (by rw [lk_ne (by decide +kernel)]; exact S4.fwidths) (by rw [lk_ne (by decide +kernel)]; exact S4.fpainted) (by rw [lk_ne (by decide +kernel)]; exact S4.fstock) (by rw [lk_ne (by decide +kernel)]; exact S4.fstrips) (by rw [lk_ne (by decide +kernel)]; exact S4.flanterns) (by rw [lk_put]; rfl) (by rw [lk_ne (by decide +kernel)]; exact S4.fgone) (by rw [lk_ne (by decide +kernel)]; exact S4.fcome) (by rw [lk_ne (by decide +kernel)]; exact S4.fscrap) (by rw [lk_ne (by decide +kernel)]; exact S4.faway) S4.hx (.inl rfl) rfl rfl rfl rfl
      refine k _ _ S5 (F4.trans (frame_upd (F := foot a A) foot_a fun _ z => by cases z) fun x hx => .inl hx) (fun b hb => ?_) (tabs_upd T4 S4.ob (fun _ z => by cases z) fun _ z => by cases z)
      have hb' : b ∈ a :: A.aw :: A.ap :: A.ak :: A.ax :: A.ad :: A.ag :: ((A.las ++ [x]) ++ (A.ras ++ [r])) := hb
      simp only [foot, List.mem_cons, List.mem_append, List.not_mem_nil, or_false] at hb' ⊢
      have nlx : NL H x := F2.live x (.none hx)
      rcases hb' with h | h | h | h | h | h | h | (h | h) | h | h
      · exact .inl (.inl h)
      · exact .inl (.inr (.inl h))
      · exact .inl (.inr (.inr (.inl h)))
      · exact .inl (.inr (.inr (.inr (.inl h))))
      · exact .inl (.inr (.inr (.inr (.inr (.inl h)))))
      · exact .inl (.inr (.inr (.inr (.inr (.inr (.inl h))))))
      · exact .inl (.inr (.inr (.inr (.inr (.inr (.inr (.inl h)))))))
      · exact .inl (.inr (.inr (.inr (.inr (.inr (.inr (.inr (.inl h))))))))
      · rw [h]
        exact .inr (.inr nlx)
      · exact .inl (.inr (.inr (.inr (.inr (.inr (.inr (.inr (.inr h))))))))
      · exact .inr (.inl h)
end
end LR

namespace LR
open PySem PySem.Spec PyProof.Rows L2 LamX
theorem made_stood (s : Mu33.State) (g : Nat) (r p : List Nat) : Mu33.made s g r p = stoodS { s with strips := Mu33.kept s.strips (Mu33.bands g) p, scrap := s.scrap + Mu33.wasted s.strips (Mu33.bands g) p } g r := by
  unfold Mu33.made stoodS stockTo
  simp only [List.take_length]
theorem foot_ax {a b q : Addr} {A : Ad} {fs : List (Str × V)} (h : b ∈ foot a { A with fs := fs, ax := q }) : b ∈ foot a A ∨ b = q := by
  have h' : b ∈ a :: A.aw :: A.ap :: A.ak :: q :: A.ad :: A.ag :: (A.las ++ A.ras) := h
  simp only [foot, List.mem_cons] at h' ⊢
  rcases h' with h | h | h | h | h | h | h | h
  · exact .inl (.inl h)
  · exact .inl (.inr (.inl h))
  · exact .inl (.inr (.inr (.inl h)))
  · exact .inl (.inr (.inr (.inr (.inl h))))
  · exact .inr h
  · exact .inl (.inr (.inr (.inr (.inr (.inr (.inl h))))))
  · exact .inl (.inr (.inr (.inr (.inr (.inr (.inr (.inl h)))))))
  · exact .inl (.inr (.inr (.inr (.inr (.inr (.inr (.inr h)))))))
theorem ShopAt.out {C CL : Addr} {H : Hp} {a : Addr} {s : Mu33.State} {A : Ad} (x : ShopAt C CL H a s A) {b : Addr} (h : NL H b) : b ∉ foot a A := fun z => by
  obtain ⟨o, e, n⟩ := x.there z
  obtain ⟨ps, q⟩ := h o e
  exact n ps q
section
variable {P : Program} {w : World} {K : PySem.W.Frag} {mg : Str → Option Value} {base : Heap} {C CL : Addr} {T : List (Addr × Str)}
/-! ### cut_bands -/
abbrev sCut : Stmt := top 53
abbrev NCut : List Str := ["shop", "bands", "cutting", "left"]
theorem scCut : FnScope NCut ["shop", "bands", "cutting"] (defScope sCut) := ⟨rfl, rfl, rfl, by decide +kernel, rfl, by decide +kernel, by decide +kernel⟩
/-- the shop when the bands are cut -/
def cutS (s : Mu33.State) (g : Nat) (p : List Nat) : Mu33.State := { s with strips := Mu33.kept s.strips (Mu33.bands g) p, scrap := s.scrap + Mu33.wasted s.strips (Mu33.bands g) p }
def spCut (K : PySem.W.Frag) (C CL : Addr) (T : List (Addr × Str)) : Sp := fun vs H Q _ => ∃ (a b c : Addr) (s : Mu33.State) (A : Ad) (g : Nat) (p : List Nat), vs = [.ref a, .ref b, .ref c] ∧ ShopAt C CL H a s A ∧ Tabs T H ∧ CutAt K H A.ax b c s.strips (Mu33.bands g) p ∧ Mu33.able s.strips (Mu33.bands g) p = true ∧ (∀ x ∈ s.strips, 5 ≤ x) ∧
  ∀ (H' : Hp) (A' : Ad), ShopAt C CL H' a (cutS s g p) A' → Frame (foot a A) H H' → (∀ b ∈ foot a A', b ∈ foot a A ∨ NL H b) → Tabs T H' → Q .non H'
theorem waste_int {l h p : List Nat} {n : Nat} (e : p.length = h.length) (hp : ∀ j ∈ p, j < l.length) (ha : Mu33.able l h p = true) : ((n : Nat) : Int) + ((ZI l).sum - (ZI h).sum - (ZI (Mu33.kept l h p)).sum) = ((n + Mu33.wasted l h p : Nat) : Int) := by
  have z := waste_eq e hp ha
  have e1 : (ZI l).sum = (l.sum : Int) := sum_cast l
  have e2 : (ZI h).sum = (h.sum : Int) := sum_cast h
  have e3 : (ZI (Mu33.kept l h p)).sum = ((Mu33.kept l h p).sum : Int) := sum_cast _
  rw [e1, e2, e3]
  omega
theorem cal_cut (B : Bl mg) (X : Txl K mg C CL) (D : Df K mg "cut_bands" sCut) (c4 : Cal P w K mg base 2 "strips_after" ["strips", "bands", "cutting"] (spAfter K)) : Cal P w K mg base 3 "cut_bands" ["shop", "bands", "cutting"] (spCut K C CL T) := by
  obtain ⟨f, fd, F, m⟩ := D
  refine ⟨f, fd, ?_, m, F.kp, F.binds fun _ _ _ _ _ _ us hl => match us, hl with | [_, _, _], _ => rfl⟩
  refine F.ok scCut (fun vs H Q E h => by obtain ⟨a, b, c, s, A, g, p, rfl, _⟩ := h; rfl) (fun cdv A outer s H vs Q E hr h => ?_)
  refine ⟨_, pss_cons (ps_set (i := 3) scCut.nd rfl (Or.inl rfl) (pe_cal c4 hr rfl (pa_cons (pe_fld (pv 0) rfl) (pa_cons (pv 1) (pa_cons (pv 2) pa_nil)))))
    (pss_cons (ps_fldaug (pv 0) (pe_op op_sub (pe_op op_sub (pe_callB (cr_sum rfl) (by rfl) B.sum (by decide +kernel) (pa_cons (pe_fld (pv 0) rfl) pa_nil)) (pe_callB (cr_sum rfl) (by rfl) B.sum (by decide +kernel) (pa_cons (pv 1) pa_nil))) (pe_callB (cr_sum rfl) (by rfl) B.sum (by decide +kernel) (pa_cons (pv 3) pa_nil))) in_add)
    (pss_one (ps_fld (pv 0) (pv 3) rfl))), ?_⟩
  obtain ⟨a, b, c, s, A, g, p, rfl, SA, hT, CA, hab, h5, k⟩ := h
  refine ⟨_, rfl, a, C, _, _, _, rfl, SA.ob, X.cl, X.strips, SA.fstrips, _, rfl, _, rfl, A.ax, b, c, s.strips, Mu33.bands g, p, rfl, CA, hab, h5, fun H1 x s1 hx0 hx1 => ?_⟩
  have S1 := SA.same s1
  refine ⟨_, rfl, a, C, _, _, _, rfl, S1.ob, X.cl, X.scrap, S1.fscrap, _, rfl, a, C, _, _, _, rfl, S1.ob, X.cl, X.strips, S1.fstrips, A.ax, ZI s.strips, rfl, by rw [← Z_ZI]; exact SqL.of S1.hx, _, rfl, b, ZI (Mu33.bands g), rfl, by rw [← Z_ZI]; exact s1.seq CA.bands, _, _, rfl, rfl, _, rfl, x, ZI (Mu33.kept s.strips (Mu33.bands g) p), rfl, by rw [← Z_ZI]; exact SqL.of hx1, _, _, rfl, rfl, _, _, rfl, rfl, _, _, S1.ob, Nat.lt_of_le_of_lt S1.len (by decide), ?_⟩
  rw [waste_int CA.len CA.there hab]
  have S2 := S1.putOwn (s' := { s with scrap := s.scrap + Mu33.wasted s.strips (Mu33.bands g) p }) (fs := putF "scrap" (.int ((s.scrap + Mu33.wasted s.strips (Mu33.bands g) p : Nat) : Int)) A.fs) (q := A.ax) (by rw [putF_len S1.fscrap]; exact S1.len) (by rw [lk_ne (by decide +kernel)]; exact S1.fnew) (by rw [lk_ne (by decide +kernel)]; exact S1.fwidths) (by rw [lk_ne (by decide +kernel)]; exact S1.fpainted) (by rw [lk_ne (by decide +kernel)]; exact S1.fstock) (by rw [lk_ne (by decide +kernel)]; exact S1.fstrips) (by rw [lk_ne (by decide +kernel)]; exact S1.flanterns) (by rw [lk_ne (by decide +kernel)]; exact S1.fmade) (by rw [lk_ne (by decide +kernel)]; exact S1.fgone) (by rw [lk_ne (by decide +kernel)]; exact S1.fcome) lk_put (by rw [lk_ne (by decide +kernel)]; exact S1.faway) S1.hx (.inl rfl) rfl rfl rfl rfl
  have F1 : Frame (foot a A) H H1 := .same s1
  have F2 : Frame (foot a A) H (upd H1 a (.ins C A.dx (putF "scrap" (.int ((s.scrap + Mu33.wasted s.strips (Mu33.bands g) p : Nat) : Int)) A.fs))) := F1.trans (frame_upd (F := foot a A) foot_a fun _ z => by cases z) fun x hx => .inl hx
  have T2 : Tabs T (upd H1 a (.ins C A.dx (putF "scrap" (.int ((s.scrap + Mu33.wasted s.strips (Mu33.bands g) p : Nat) : Int)) A.fs))) := tabs_upd (hT.ext s1) S1.ob (fun _ z => by cases z) fun _ z => by cases z
  have hx2 : upd H1 a (.ins C A.dx (putF "scrap" (.int ((s.scrap + Mu33.wasted s.strips (Mu33.bands g) p : Nat) : Int)) A.fs)) x = some (.lst (Z (Mu33.kept s.strips (Mu33.bands g) p))) := by rw [upd_ne (lst_ne_ins hx1 S1.ob)]; exact hx1
  refine ⟨_, rfl, _, rfl, a, C, _, _, rfl, S2.ob, X.cl, X.strips, Nat.lt_of_le_of_lt S2.len (by decide), ?_⟩
  have nxF : x ∉ foot a A := SA.out (.none hx0)
  have S3 := S2.putOwn (s' := cutS s g p) (fs := putF "strips" (.ref x) (putF "scrap" (.int ((s.scrap + Mu33.wasted s.strips (Mu33.bands g) p : Nat) : Int)) A.fs)) (q := x) (by rw [putF_len S2.fstrips]; exact S2.len) (by rw [lk_ne (by decide +kernel)]; exact S2.fnew) (by rw [lk_ne (by decide +kernel)]; exact S2.fwidths) (by rw [lk_ne (by decide +kernel)]; exact S2.fpainted) (by rw [lk_ne (by decide +kernel)]; exact S2.fstock) lk_put (by rw [lk_ne (by decide +kernel)]; exact S2.flanterns) (by rw [lk_ne (by decide +kernel)]; exact S2.fmade) (by rw [lk_ne (by decide +kernel)]; exact S2.fgone) (by rw [lk_ne (by decide +kernel)]; exact S2.fcome) (by rw [lk_ne (by decide +kernel)]; exact S2.fscrap) (by rw [lk_ne (by decide +kernel)]; exact S2.faway) hx2 (.inr nxF) rfl rfl rfl rfl
  refine k _ _ S3 (F2.trans (frame_upd (F := foot a A) foot_a fun _ z => by cases z) fun x hx => .inl hx) (fun y hy => ?_) (tabs_upd T2 S2.ob (fun _ z => by cases z) fun _ z => by cases z)
  rcases foot_ax hy with z | z
  · exact .inl z
  · rw [z]
    exact .inr (.none hx0)
/-! ### make_lantern -/
abbrev sMake : Stmt := top 52
abbrev NMake : List Str := ["shop", "girth", "ring", "bands", "cutting", "number"]
theorem scMake : FnScope NMake ["shop", "girth"] (defScope sMake) := ⟨rfl, rfl, rfl, by decide +kernel, rfl, by decide +kernel, by decide +kernel⟩
def spMake (C CL : Addr) (T : List (Addr × Str)) : Sp := fun vs H Q _ => ∃ (a : Addr) (g : Nat), vs = [.ref a, .int g] ∧ Does C CL T H Q a (.make g)
theorem cal_make (B : Bl mg) (X : Txl K mg C CL) (D : Df K mg "make_lantern" sMake) (g1 : Gn mg "MOST_LANTERNS" 6) (c0 : Cal P w K mg base 1 "is_girth" ["girth"] spGirth) (c1 : Cal P w K mg base 4 "first_ring" ["shop", "girth"] (spFirst C)) (c2 : Cal P w K mg base 1 "bands_of" ["girth"] spBands) (c3 : Cal P w K mg base 5 "best_cutting" ["strips", "bands"] (spBest K T))
    (c4 : Cal P w K mg base 3 "cut_bands" ["shop", "bands", "cutting"] (spCut K C CL T)) (c5 : Cal P w K mg base 3 "stand_lantern" ["shop", "girth", "ring"] (spStand C CL T)) : Cal P w K mg base 6 "make_lantern" ["shop", "girth"] (spMake C CL T) := by
  obtain ⟨f, fd, F, m⟩ := D
  refine ⟨f, fd, ?_, m, F.kp, F.binds fun _ _ _ _ _ _ us hl => match us, hl with | [_, _], _ => rfl⟩
  refine F.ok scMake (fun vs H Q E h => by obtain ⟨a, g, rfl, _⟩ := h; rfl) (fun cdv A outer s H vs Q E hr h => ?_)
  refine ⟨_, pss_cons (ps_if (pt_not (pt_val (pe_cal c0 (hr.mono (by decide)) rfl (pa_cons (pv 1) pa_nil)))) (pss_one (ps_ret (pe_lst (pa_cons (pe_un un_neg pe_int) pa_nil)))) pss_nil)
    (pss_cons (ps_if (pt_cmpR op_ge (pe_callB call_lenD (by rfl) B.len PySem.boot_len (pa_cons (pe_fld (pv 0) rfl) pa_nil)) (pe_gn g1 rfl) (nomark _)) (pss_one (ps_ret (pe_lst (pa_cons (pe_un un_neg pe_int) pa_nil)))) pss_nil)
    (pss_cons (ps_set (i := 2) scMake.nd rfl (Or.inl rfl) (pe_cal c1 (hr.mono (by decide)) rfl (pa_cons (pv 0) (pa_cons (pv 1) pa_nil))))
    (pss_cons (ps_if (pt_cmpR op_eq (pe_callB call_len_seq (by rfl) B.len PySem.boot_len (pa_cons (pv 2) pa_nil)) pe_int (nomark _)) (pss_one (ps_ret (pe_lst (pa_cons (pe_un un_neg pe_int) pa_nil)))) pss_nil)
    (pss_cons (ps_set (i := 3) scMake.nd rfl (Or.inl rfl) (pe_cal c2 (hr.mono (by decide)) rfl (pa_cons (pv 1) pa_nil)))
    (pss_cons (ps_set (i := 4) scMake.nd rfl (Or.inl rfl) (pe_cal c3 hr rfl (pa_cons (pe_fld (pv 0) rfl) (pa_cons (pv 3) pa_nil))))
    (pss_cons (ps_if (pt_cmpR op_eq (pe_callB call_len_seq (by rfl) B.len PySem.boot_len (pa_cons (pv 4) pa_nil)) pe_int (nomark _)) (pss_one (ps_ret (pe_lst (pa_cons (pe_un un_neg pe_int) pa_nil)))) pss_nil)
    (pss_cons (ps_expr (pe_cal c4 (hr.mono (by decide)) rfl (pa_cons (pv 0) (pa_cons (pv 3) (pa_cons (pv 4) pa_nil)))))
    (pss_cons (ps_set (i := 5) scMake.nd rfl (Or.inl rfl) (pe_cal c5 (hr.mono (by decide)) rfl (pa_cons (pv 0) (pa_cons (pv 1) (pa_cons (pv 2) pa_nil)))))
    (pss_one (ps_ret (pe_op op_cat (pe_op op_cat (pe_lst (pa_cons (pv 5) (pa_cons (pe_callB call_len_seq (by rfl) B.len PySem.boot_len (pa_cons (pv 2) pa_nil)) pa_nil))) (pv 2)) (pv 4)))))))))))), ?_⟩
  obtain ⟨a, g, rfl, s, A, s', ans, SA, G, hT, hs, q⟩ := h
  unfold Mu33.step at hs
  dsimp only at hs
  -- a refusal
  have no : ∀ (H' : Hp) (z : Int), ExtN H H' → Tabs T H' → s' = s → ans = [z] → ∀ p, H' p = none → Q (.ref p) (upd H' p (.lst [V.int z])) := fun H' z e1 t1 e2 e3 p hp => by
    subst e2 e3
    have F1 : Frame (foot a A) H H' := .ext e1
    exact q _ A p ((SA.ext e1).same (same_upd hp)) (F1.trans (.same (F := foot a A) (same_upd hp)) fun x hx => .inl hx) (fun b hb => .inl hb) (t1.ext (same_upd hp)) (F1.live p (.none hp)) upd_same
  refine ⟨_, rfl, g, rfl, _, rfl, ?_⟩
  cases hg : Mu33.isGirth g with
  | false =>
    rw [hg, if_pos rfl] at hs
    cases hs
    exact iteT ⟨_, rfl, by show 1 ≤ sizeLine; decide, no H _ (ExtN.refl _) hT rfl rfl⟩
  | true =>
    rw [hg, if_neg (by decide)] at hs
    refine iteF ⟨_, rfl, a, C, _, _, _, rfl, SA.ob, X.cl, X.lanterns, SA.flanterns, A.ad, _, rfl, SA.hd, _, _, rfl, rfl, _, rfl, ?_⟩
    rw [kvs_len SA.ll]
    by_cases h6 : Mu33.LANTERNS ≤ s.lanterns.length
    · have h6' : 6 ≤ s.lanterns.length := h6
      rw [if_pos h6] at hs
      cases hs
      rw [decide_eq_true (show (6 : Int) ≤ ((s.lanterns.length : Nat) : Int) by omega)]
      exact iteT ⟨_, rfl, by show 1 ≤ sizeLine; decide, no H _ (ExtN.refl _) hT rfl rfl⟩
    · have h6' : ¬ 6 ≤ s.lanterns.length := h6
      rw [if_neg h6] at hs
      rw [decide_eq_false (show ¬ (6 : Int) ≤ ((s.lanterns.length : Nat) : Int) by omega)]
      refine iteF ⟨_, rfl, _, rfl, a, s, g, rfl, SA.toR G, fun H1 r s1 hr0 hr1 => ⟨_, rfl, r, _, rfl, .inl (SqL.of hr1), rfl, _, rfl, ?_⟩⟩
      cases hf : Mu33.first s g with
      | none =>
        rw [hf] at hs
        cases hs
        exact iteT ⟨_, rfl, by show 1 ≤ sizeLine; decide, no H1 _ (ExtN.of s1) (hT.ext s1) rfl rfl⟩
      | some l =>
        rw [hf] at hs hr1
        have hr1 : H1 r = some (.lst (Z l)) := hr1
        obtain ⟨l3, l6, lth, lfit⟩ := first_mem hf
        have zl : (Z l).length = l.length := List.length_map ..
        have hd : decide (V.int (((Z l).length : Nat) : Int) = V.int 0) = false := decide_eq_false fun z => by
          injection z with z
          omega
        show if decide (V.int (((Z l).length : Nat) : Int) = V.int 0) = true then _ else _
        rw [hd]
        refine iteF ⟨_, rfl, g, rfl, fun H2 b s2 hb0 hb2 => ?_⟩
        have s12 : Same H H2 := s1.trans s2
        have S2 := SA.same s12
        refine ⟨_, rfl, a, C, _, _, _, rfl, S2.ob, X.cl, X.strips, S2.fstrips, _, rfl, A.ax, b, s.strips, Mu33.bands g, rfl, SqL.of S2.hx, SqL.of hb2, Nat.le_refl 3, by show 0 < 3; decide, G.strips8, ?_, hT.ext s12, fun H3 c e23 T3 hc2 hc3 => ?_⟩
        · intro x hx
          simp only [Mu33.bands, List.mem_cons, List.not_mem_nil, or_false] at hx
          omega
        have e3 : ExtN H H3 := (ExtN.of s12).trans e23
        refine ⟨_, rfl, c, _, rfl, .inl (SqL.of hc3), rfl, _, rfl, ?_⟩
        cases hcut : Mu33.cutting s.strips (Mu33.bands g) with
        | none =>
          rw [hcut] at hs
          cases hs
          exact iteT ⟨_, rfl, by show 1 ≤ sizeLine; decide, no H3 _ e3 T3 rfl rfl⟩
        | some cut =>
          rw [hcut] at hs hc3 hc2
          cases hs
          have hc3 : H3 c = some (.lst (Z cut)) := hc3
          have hc2 : H2 c = none := hc2 (by simp)
          obtain ⟨cm, cab⟩ := cutting_mem hcut
          obtain ⟨clen, cth⟩ := rows_mem cm
          have clen3 : cut.length = 3 := clen
          have zc : (Z cut).length = cut.length := List.length_map ..
          have hd2 : decide (V.int (((Z cut).length : Nat) : Int) = V.int 0) = false := decide_eq_false fun z => by
            injection z with z
            omega
          show if decide (V.int (((Z cut).length : Nat) : Int) = V.int 0) = true then _ else _
          rw [hd2]
          have S3 := SA.ext e3
          have hb3 : H3 b = some (.lst (Z (Mu33.bands g))) := e23 _ _ hb2 fun _ z => by cases z
          have hr3 : H3 r = some (.lst (Z l)) := e23 _ _ (s2 _ _ hr1) fun _ z => by cases z
          have nrF : r ∉ foot a A := SA.out (.none hr0)
          have ncF : c ∉ foot a A := S2.out (.none hc2)
          refine iteF ⟨_, rfl, _, rfl, _, rfl, a, b, c, s, A, g, cut, rfl, S3, T3, ⟨SqL.of S3.hx, SqL.of hb3, SqL.of hc3, clen, Nat.le_refl 3, G.strips8, cth, ?_⟩, cab, G.strip5, fun H5 A5 S5 F35 fr5 T5 => ?_⟩
          · intro y hy
            simp only [Mu33.bands, List.mem_cons, List.not_mem_nil, or_false] at hy
            omega
          have F3 : Frame (foot a A) H H3 := .ext e3
          have F5 : Frame (foot a A) H H5 := F3.trans F35 fun x hx => .inl hx
          have hr5 := F35.keep r _ hr3 nrF fun _ z => by cases z
          have hc5 := F35.keep c _ hc3 ncF fun _ z => by cases z
          have nr5 : r ∉ foot a A5 := fun z => by
            rcases fr5 r z with y | y
            · exact nrF y
            · obtain ⟨ps, q⟩ := y _ hr3
              cases q
          have nc5 : c ∉ foot a A5 := fun z => by
            rcases fr5 c z with y | y
            · exact ncF y
            · obtain ⟨ps, q⟩ := y _ hc3
              cases q
          have lk : Mu33.lacks s l = none := by
            unfold Mu33.fits at lfit
            simp only [Bool.and_eq_true, Option.isNone_iff_eq_none] at lfit
            exact lfit.2.2
          refine ⟨_, rfl, _, rfl, _, rfl, a, r, g, cutS s g cut, A5, l, rfl, S5, T5, hr5, nr5, G.stock, G.six, G.next, fun k hk => ⟨lth k hk, lacks_none lk (lth k hk)⟩, by omega, fun H6 A6 S6 F6 fr6 T6 => ?_⟩
          have hr6 := F6.keep r _ hr5 nr5 fun _ z => by cases z
          have hc6 := F6.keep c _ hc5 nc5 fun _ z => by cases z
          refine ⟨_, rfl, _, rfl, r, _, rfl, .inl (SqL.of hr6), by show 2 ≤ sizeLine; decide, fun u hu => ⟨_, rfl, u, r, _, Z l, rfl, rfl, upd_same, ?_, ?_, fun v hv => ⟨_, rfl, v, c, _, Z cut, rfl, rfl, upd_same, ?_, ?_, fun t ht => ?_⟩⟩⟩
          · rw [upd_ne (ne_of_none hr6 hu)]
            exact hr6
          · rw [zl]
            show 2 + l.length ≤ sizeLine
            rw [sizeLine_eq]
            omega
          · have z := (same_upd hu (o := .lst [V.int ((s.next : Nat) : Int), V.int (((Z l).length : Nat) : Int)])) _ _ hc6
            rw [upd_ne (ne_of_none z hv)]
            exact z
          · rw [List.length_append, zl, zc]
            show 2 + l.length + cut.length ≤ sizeLine
            rw [sizeLine_eq]
            omega
          · have s6v := (same_upd hu (o := .lst [V.int ((s.next : Nat) : Int), V.int (((Z l).length : Nat) : Int)])).trans (same_upd hv (o := .lst ([V.int ((s.next : Nat) : Int), V.int (((Z l).length : Nat) : Int)] ++ Z l)))
            have F56 : Frame (foot a A) H H6 := F5.trans F6 fun y hy => by
              rcases fr5 y hy with z | z
              · exact .inl z
              · exact .inr (F3.live y z)
            refine q _ A6 t ?_ (F56.trans (.same (F := foot a A) (s6v.trans (same_upd ht))) fun x hx => .inl hx) (fun y hy => ?_) (T6.ext (s6v.trans (same_upd ht))) (F56.live t (.none ?_)) ?_
            · rw [made_stood]
              exact S6.same (s6v.trans (same_upd ht))
            · rcases fr6 y hy with z | z | z
              · rcases fr5 y z with z | z
                · exact .inl z
                · exact .inr (F3.live y z)
              · rw [z]
                exact .inr (.none hr0)
              · exact .inr (F5.live y z)
            · exact s6v.free ht
            · rw [upd_same, ← Z_ZV, zl]
              simp [Z, cutS]
end
end LR

namespace LR
open PySem PySem.Spec PyProof.Rows L2 LamX
/-! ### a lantern by its number -/
theorem find_at {s : Mu33.State} {i : Nat} {c : Mu33.Lantern} (h : Mu33.find s i = some c) : ∃ j : Nat, s.lanterns[j]? = some c ∧ c.id = i := by
  obtain ⟨h1, h2⟩ := find_mem h
  obtain ⟨j, hj⟩ := List.getElem?_of_mem h1
  exact ⟨j, hj, h2⟩
theorem find_no {s : Mu33.State} {i : Nat} (h : Mu33.find s i = none) : ∀ d ∈ s.lanterns, d.id ≠ i := fun d hd e => by
  unfold Mu33.find at h
  have z := List.find?_eq_none.mp h d hd
  simp at z
  exact z e
theorem id_inj {ls : List Mu33.Lantern} (p : ls.Pairwise fun a b => a.id < b.id) {i j : Nat} {c d : Mu33.Lantern} (h1 : ls[i]? = some c) (h2 : ls[j]? = some d) (e : c.id = d.id) : i = j := by
  obtain ⟨a1, a2⟩ := List.getElem?_eq_some_iff.mp h1
  obtain ⟨b1, b2⟩ := List.getElem?_eq_some_iff.mp h2
  rw [List.pairwise_iff_getElem] at p
  rcases Nat.lt_trichotomy i j with z | z | z
  · have := p i j a1 b1 z
    rw [a2, b2] at this
    omega
  · exact z
  · have := p j i b1 a1 z
    rw [a2, b2] at this
    omega
theorem put_set {s : Mu33.State} {j : Nat} {c d : Mu33.Lantern} (p : s.lanterns.Pairwise fun a b => a.id < b.id) (h : s.lanterns[j]? = some c) (e : d.id = c.id) : (s.lanterns.map fun x => if x.id = d.id then d else x) = s.lanterns.set j d := by
  refine List.ext_getElem? fun k => ?_
  rw [List.getElem?_map, List.getElem?_set]
  have hj := (List.getElem?_eq_some_iff.mp h).1
  by_cases z : j = k
  · subst z
    rw [if_pos rfl, if_pos hj, h]
    show some (if c.id = d.id then d else c) = some d
    rw [if_pos e.symm]
  · rw [if_neg z]
    cases q : s.lanterns[k]? with
    | none => rfl
    | some x =>
      show some (if x.id = d.id then d else x) = some x
      rw [if_neg fun y => z (id_inj p h q (by omega))]
theorem out_erase {ls : List Mu33.Lantern} {c : Mu33.Lantern} : ∀ {j : Nat}, ls.Pairwise (fun a b => a.id < b.id) → ls[j]? = some c → (ls.filter fun x => x.id != c.id) = ls.eraseIdx j := by
  induction ls with
  | nil => intro j _ h; simp at h
  | cons d ls ih =>
    intro j p h
    rw [List.pairwise_cons] at p
    cases j with
    | zero =>
      have e : d = c := by simpa using h
      subst e
      rw [List.eraseIdx_zero, List.tail_cons, List.filter_cons]
      rw [if_neg (by simp)]
      refine List.filter_eq_self.mpr fun x hx => ?_
      have := p.1 x hx
      simp
      omega
    | succ j =>
      have h' : ls[j]? = some c := by simpa using h
      have := p.1 c (List.mem_of_getElem? h')
      rw [List.eraseIdx_cons_succ, List.filter_cons, if_pos (by simp; omega), ih p.2 h']
theorem kvs_drop {c : Mu33.Lantern} : ∀ {ls : List Mu33.Lantern} {as : List Addr} {j : Nat}, ls.Pairwise (fun a b => a.id < b.id) → as.length = ls.length → ls[j]? = some c → dropK (kvsOf ls as) (Sum.inl ((c.id : Nat) : Int)) = kvsOf (ls.eraseIdx j) (as.eraseIdx j)
  | [], _, _, _, _, h => by simp at h
  | _ :: _, [], _, _, h, _ => by simp at h
  | d :: ls, b :: as, j, p, hl, h => by
    rw [List.pairwise_cons] at p
    have hl' : as.length = ls.length := by simpa using hl
    have keep : (∀ x ∈ ls, x.id ≠ c.id) → dropK (kvsOf ls as) (Sum.inl ((c.id : Nat) : Int)) = kvsOf ls as := fun hn => by
      unfold dropK
      refine List.filter_eq_self.mpr fun kv hkv => ?_
      unfold kvsOf at hkv
      obtain ⟨n, hn2⟩ := List.getElem?_of_mem hkv
      rw [List.getElem?_zipWith] at hn2
      cases e1 : ls[n]? with
      | none => rw [e1] at hn2; cases hn2
      | some x =>
        cases e2 : as[n]? with
        | none => rw [e1, e2] at hn2; cases hn2
        | some y =>
          rw [e1, e2] at hn2
          cases hn2
          refine decide_eq_true fun z => ?_
          injection z with z
          exact hn x (List.mem_of_getElem? e1) (by omega)
    cases j with
    | zero =>
      have e : d = c := by simpa using h
      subst e
      show dropK ((Sum.inl ((d.id : Nat) : Int), V.ref b) :: kvsOf ls as) _ = kvsOf ls as
      unfold dropK at keep ⊢
      rw [List.filter_cons, if_neg (by simp)]
      exact keep fun x hx => by
        have := p.1 x hx
        omega
    | succ j =>
      have h' : ls[j]? = some c := by simpa using h
      have q := p.1 c (List.mem_of_getElem? h')
      have ih := kvs_drop p.2 hl' h'
      show dropK ((Sum.inl ((d.id : Nat) : Int), V.ref b) :: kvsOf ls as) _ = (Sum.inl ((d.id : Nat) : Int), V.ref b) :: kvsOf (ls.eraseIdx j) (as.eraseIdx j)
      unfold dropK at ih ⊢
      rw [List.filter_cons, if_pos, ih]
      refine decide_eq_true fun z => ?_
      injection z with z
      omega
section
variable {C CL : Addr} {H : Hp} {a : Addr} {s : Mu33.State} {A : Ad}
/-- the lantern's places -/
theorem ShopAt.lanAt (x : ShopAt C CL H a s A) {j : Nat} {c : Mu33.Lantern} (h : s.lanterns[j]? = some c) : ∃ l r, A.las[j]? = some l ∧ A.ras[j]? = some r ∧ LanAt CL H l r c := by
  have h2 : j < s.lanterns.length := (List.getElem?_eq_some_iff.mp h).1
  have h1 : j < A.las.length := by rw [x.ll]; exact h2
  have h3 : j < A.ras.length := by rw [x.rl]; exact h2
  exact ⟨_, _, List.getElem?_eq_getElem h1, List.getElem?_eq_getElem h3, x.lan j c _ _ h (List.getElem?_eq_getElem h1) (List.getElem?_eq_getElem h3)⟩
theorem foot_las {l : Addr} (h : l ∈ A.las) : l ∈ foot a A := by simp [foot, h]
theorem foot_ras {l : Addr} (h : l ∈ A.ras) : l ∈ foot a A := by simp [foot, h]
theorem nodup_ne {α : Type} {l : List α} (n : l.Nodup) {i j : Nat} {x y : α} (h1 : l[i]? = some x) (h2 : l[j]? = some y) (e : i ≠ j) : x ≠ y := fun z => by
  subst z
  obtain ⟨a1, a2⟩ := List.getElem?_eq_some_iff.mp h1
  obtain ⟨b1, b2⟩ := List.getElem?_eq_some_iff.mp h2
  exact e ((List.getElem_inj n).mp (a2.trans b2.symm))
/-- one lantern changes in its place -/
theorem ShopAt.setLan (x : ShopAt C CL H a s A) {s' : Mu33.State} {H' : Hp} {j : Nat} {c c' : Mu33.Lantern} {l r r' : Addr} (hc : s.lanterns[j]? = some c) (hl : A.las[j]? = some l) (hr : A.ras[j]? = some r) (kp : ∀ b ∈ foot a A, b ≠ l → b ≠ r → H' b = H b) (hn : LanAt CL H' l r' c') (hid : c'.id = c.id) (hr' : r' = r ∨ r' ∉ foot a A)
    (e1 : s'.new = s.new) (e2 : s'.sorts = s.sorts) (e3 : s'.stock = s.stock) (e4 : s'.strips = s.strips) (e5 : s'.next = s.next) (e6 : s'.lanterns = s.lanterns.set j c') (e7 : s'.bought = s.bought) (e8 : s'.scrap = s.scrap) (e9 : s'.away = s.away) (e10 : s'.gone = s.gone) : ShopAt C CL H' a s' { A with ras := A.ras.set j r' } := by
  have ml := List.mem_of_getElem? hl
  have mr := List.mem_of_getElem? hr
  obtain ⟨dl, fl, el⟩ := x.lasAt ml
  obtain ⟨rl, er⟩ := x.rasAt mr
  have nlr : r ≠ l := lst_ne_ins er el
  obtain ⟨n1, n2, n3, n4, n5, n6, n7, n8, n9, n10, g1, g2, g3, g4, g5⟩ := x.nds
  have L : ∀ {b : Addr} {z : List V}, b ∈ foot a A → H b = some (.lst z) → b ≠ r → H' b = some (.lst z) := fun {b z} m e n => by
    rw [kp b m (lst_ne_ins e el) n]
    exact e
  have nal : a ≠ l := fun z => by
    have n := x.ndl
    rw [List.nodup_cons] at n
    exact n.1 (z ▸ ml)
  have hj : j < s.lanterns.length := (List.getElem?_eq_some_iff.mp hc).1
  have ekv : kvsOf (s.lanterns.set j c') A.las = kvsOf s.lanterns A.las := by
    refine List.ext_getElem? fun k => ?_
    unfold kvsOf
    rw [List.getElem?_zipWith, List.getElem?_zipWith, List.getElem?_set]
    by_cases z : j = k
    · subst z
      rw [if_pos rfl, if_pos hj, hc, hl]
      show some _ = some _
      rw [hid]
    · rw [if_neg z]
  refine ⟨by rw [kp a foot_a nal (lst_ne_ins er x.ob).symm]; exact x.ob, x.len, by rw [e1]; exact x.fnew, x.fwidths, x.fpainted, x.fstock, x.fstrips, x.flanterns, by rw [e5]; exact x.fmade, x.fgone, by rw [e7]; exact x.fcome, by rw [e8]; exact x.fscrap, by rw [e9]; exact x.faway, ?_, ?_, ?_, ?_, by rw [e10]; exact L (by simp [foot]) x.hg (g5 r mr), ?_, ?_, ?_, ?_, ?_, x.ndl⟩
  · rw [wl_eq e2]
    exact L (by simp [foot]) x.hw (n7 r mr)
  · rw [pl_eq e2]
    exact L (by simp [foot]) x.hp (n8 r mr)
  · rw [e3]
    exact L (by simp [foot]) x.hk (n9 r mr)
  · rw [e4]
    exact L (by simp [foot]) x.hx (n10 r mr)
  · rw [e6, ekv]
    show H' A.ad = _
    rw [kp A.ad foot_d (ins_ne_dK el x.hd).symm (lst_ne_dK er x.hd).symm]
    exact x.hd
  · rw [e6, List.length_set]
    exact x.ll
  · show (A.ras.set j r').length = s'.lanterns.length
    rw [e6, List.length_set, List.length_set]
    exact x.rl
  · intro i d la ra h1 h2 h3
    rw [e6, List.getElem?_set] at h1
    have h3' : (A.ras.set j r')[i]? = some ra := h3
    rw [List.getElem?_set] at h3'
    have hjr : j < A.ras.length := (List.getElem?_eq_some_iff.mp hr).1
    by_cases z : j = i
    · subst z
      rw [if_pos rfl, if_pos hj] at h1
      rw [if_pos rfl, if_pos hjr] at h3'
      cases h1
      cases h3'
      have h2' : A.las[j]? = some la := h2
      rw [hl] at h2'
      cases h2'
      exact hn
    · rw [if_neg z] at h1 h3'
      have m1 := List.mem_of_getElem? h2
      have m2 := List.mem_of_getElem? h3'
      have ndl := x.ndl
      rw [List.nodup_cons] at ndl
      have nd := x.nd
      simp only [List.nodup_cons] at nd
      obtain ⟨dd, ff, e7⟩ := x.lasAt m1
      obtain ⟨zz, e8⟩ := x.rasAt m2
      refine (x.lan i d la ra h1 h2 h3').keep (fun o e => ?_) fun o e => ?_
      · rw [kp la (foot_las m1) (fun y => nodup_ne ndl.2 hl h2 z y.symm) (lst_ne_ins er e7).symm]
        exact e
      · rw [kp ra (foot_ras m2) (lst_ne_ins e8 el) fun y => nodup_ne nd.2.2.2.2.2 hr h3' z y.symm]
        exact e
  · show (A.aw :: A.ap :: A.ak :: A.ax :: A.ag :: A.ras.set j r').Nodup
    rcases hr' with z | z
    · have e : A.ras.set j r' = A.ras := by
        refine List.ext_getElem? fun k => ?_
        rw [List.getElem?_set]
        by_cases y : j = k
        · subst y
          rw [if_pos rfl, if_pos (List.getElem?_eq_some_iff.mp hr).1, hr, z]
        · rw [if_neg y]
      rw [e]
      exact x.nd
    · have n := x.nd
      simp only [foot, List.mem_cons, List.mem_append, not_or] at z
      obtain ⟨z1, z2, z3, z4, z5, z6, zg, z7, z8⟩ := z
      have sub : ∀ {b : Addr}, b ∈ A.ras.set j r' → b ∈ A.ras ∨ b = r' := fun {b} hb => List.mem_or_eq_of_mem_set hb
      simp only [List.nodup_cons, List.mem_cons, not_or] at n ⊢
      obtain ⟨⟨m1, m2, m3, h1, m4⟩, ⟨m5, m6, h2, m7⟩, ⟨m8, h3, m9⟩, ⟨h4, m10⟩, h5, m11⟩ := n
      refine ⟨⟨m1, m2, m3, h1, fun y => ?_⟩, ⟨m5, m6, h2, fun y => ?_⟩, ⟨m8, h3, fun y => ?_⟩, ⟨h4, fun y => ?_⟩, fun y => ?_, ?_⟩
      · rcases sub y with u | u
        · exact m4 u
        · exact z2 u.symm
      · rcases sub y with u | u
        · exact m7 u
        · exact z3 u.symm
      · rcases sub y with u | u
        · exact m9 u
        · exact z4 u.symm
      · rcases sub y with u | u
        · exact m10 u
        · exact z5 u.symm
      · rcases sub y with u | u
        · exact h5 u
        · exact zg u.symm
      · have out : ∀ (k : Nat) (hk : k < A.ras.length), A.ras[k] ≠ r' := fun k hk e => z8 (e ▸ List.getElem_mem hk)
        rw [List.Nodup, List.pairwise_iff_getElem] at m11 ⊢
        intro p q hp hq hpq
        rw [List.getElem_set, List.getElem_set]
        rw [List.length_set] at hp hq
        by_cases y1 : j = p
        · have y2 : ¬ j = q := by omega
          rw [if_pos y1, if_neg y2]
          exact (out q hq).symm
        · rw [if_neg y1]
          by_cases y2 : j = q
          · rw [if_pos y2]
            exact out p hp
          · rw [if_neg y2]
            exact m11 p q hp hq hpq
/-- a lantern goes -/
theorem ShopAt.dropLan (x : ShopAt C CL H a s A) {s' : Mu33.State} {j : Nat} {c : Mu33.Lantern} (p : s.lanterns.Pairwise fun a b => a.id < b.id) (hc : s.lanterns[j]? = some c)
    (e1 : s'.new = s.new) (e2 : s'.sorts = s.sorts) (e3 : s'.stock = s.stock) (e4 : s'.strips = s.strips) (e5 : s'.next = s.next) (e6 : s'.lanterns = s.lanterns.filter fun x => x.id != c.id) (e7 : s'.bought = s.bought) (e8 : s'.scrap = s.scrap) (e9 : s'.away = s.away) (e10 : s'.gone = s.gone) :
    ShopAt C CL (upd H A.ad (.dK (dropK (kvsOf s.lanterns A.las) (Sum.inl ((c.id : Nat) : Int))))) a s' { A with las := A.las.eraseIdx j, ras := A.ras.eraseIdx j } := by
  rw [kvs_drop p x.ll hc]
  rw [out_erase p hc] at e6
  have hj : j < s.lanterns.length := (List.getElem?_eq_some_iff.mp hc).1
  have u : ∀ {b : Addr} {z : List V}, H b = some (.lst z) → upd H A.ad (.dK (kvsOf (s.lanterns.eraseIdx j) (A.las.eraseIdx j))) b = some (.lst z) := fun {b z} e => by rw [upd_ne (lst_ne_dK e x.hd)]; exact e
  refine ⟨by rw [upd_ne (ins_ne_dK x.ob x.hd)]; exact x.ob, x.len, by rw [e1]; exact x.fnew, x.fwidths, x.fpainted, x.fstock, x.fstrips, x.flanterns, by rw [e5]; exact x.fmade, x.fgone, by rw [e7]; exact x.fcome, by rw [e8]; exact x.fscrap, by rw [e9]; exact x.faway, ?_, ?_, ?_, ?_, by rw [e10]; exact u x.hg, ?_, ?_, ?_, ?_, ?_, ?_⟩
  · rw [wl_eq e2]
    exact u x.hw
  · rw [pl_eq e2]
    exact u x.hp
  · rw [e3]
    exact u x.hk
  · rw [e4]
    exact u x.hx
  · rw [e6]
    exact upd_same
  · rw [e6]
    show (A.las.eraseIdx j).length = _
    rw [List.length_eraseIdx, List.length_eraseIdx, x.ll]
  · rw [e6]
    show (A.ras.eraseIdx j).length = _
    rw [List.length_eraseIdx, List.length_eraseIdx, x.rl]
  · intro i d la ra h1 h2 h3
    rw [e6, List.getElem?_eraseIdx] at h1
    have h2' : (A.las.eraseIdx j)[i]? = some la := h2
    have h3' : (A.ras.eraseIdx j)[i]? = some ra := h3
    rw [List.getElem?_eraseIdx] at h2' h3'
    have go : ∀ k : Nat, s.lanterns[k]? = some d → A.las[k]? = some la → A.ras[k]? = some ra → LanAt CL (upd H A.ad (.dK (kvsOf (s.lanterns.eraseIdx j) (A.las.eraseIdx j)))) la ra d := fun k g1 g2 g3 => by
      obtain ⟨dd, ff, e7⟩ := x.lasAt (List.mem_of_getElem? g2)
      obtain ⟨zz, e8⟩ := x.rasAt (List.mem_of_getElem? g3)
      exact (x.lan k d la ra g1 g2 g3).keep (fun o e => by rw [upd_ne (ins_ne_dK e7 x.hd)]; exact e) fun o e => by rw [upd_ne (lst_ne_dK e8 x.hd)]; exact e
    by_cases z : i < j
    · rw [if_pos z] at h1 h2' h3'
      exact go i h1 h2' h3'
    · rw [if_neg z] at h1 h2' h3'
      exact go (i + 1) h1 h2' h3'
  · show (A.aw :: A.ap :: A.ak :: A.ax :: A.ag :: A.ras.eraseIdx j).Nodup
    refine x.nd.sublist ?_
    exact .cons_cons _ (.cons_cons _ (.cons_cons _ (.cons_cons _ (.cons_cons _ (List.eraseIdx_sublist _ _)))))
  · show (a :: A.las.eraseIdx j).Nodup
    exact x.ndl.sublist (.cons_cons _ (List.eraseIdx_sublist _ _))
end
end LR

/-! max(xs, key=f), the same way -/
namespace LR
open PySem PySem.Spec PyProof.Rows L2
/-- how the key goes: J g s: the state s lies under the ghost g; V g i k: under g the value k is the key of the i-th item -/
structure KeyX (γ : Type) (pg : Program) (w : World) (A : Around) (q S : Addr) (wr : List Addr) (G : Array GenState → Array GenState → Prop) (n : Nat) (P : Nat → Value → Prop) (St : Nat → Shared → Prop) (J : γ → Shared → Prop) (V : γ → Nat → Value → Prop) (bt : Nat → Nat → Bool) : Prop where
  keep : ∀ g s s', J g s → Moved (S :: wr) G s s' → J g s'
  turn : ∀ i v g (s : Shared) (o : Obj) (Q : Value → Shared → Prop) (E : Value → Shared → Prop), i < n → P i v → J g s → St (i + 1) s → s.heap.get? S = some o → (∃ xs c, o.data = .seq xs c) →
    (∀ k g' s', J g' s' → St (i + 1) s' → s'.heap.get? S = some o → V g' i k → (∀ j k', V g j k' → V g' j k') → Q k s') → wpAny (model pg w) A (call (.ref q) [v]) Q E s
  cmp : ∀ i j ki kj g (s : Shared) (Q : Value → Shared → Prop) (E : Value → Shared → Prop), J g s → V g i ki → V g j kj → Q (.bool (bt i j)) s → wpAny (model pg w) A (richCompare .Gt ki kj) Q E s
section
variable {γ : Type} {pg : Program} {w : World} {A : Around} {R : Result → Shared → Prop} {I q S : Addr} {fp wr : List Addr} {G : Array GenState → Array GenState → Prop} {n : Nat} {P : Nat → Value → Prop} {St : Nat → Shared → Prop} {J : γ → Shared → Prop} {V : γ → Nat → Value → Prop} {bt : Nat → Nat → Bool}
theorem xloop (W : WalksS pg w A.in1 I fp wr G n P St) (nS : S ∉ fp) (KG : KeyX γ pg w A.in1 q S wr G n P St J V bt) (kw : List (Str × Value)) :
    ∀ (left j : Nat) (g : γ) (s : Shared) (vb kb : Value) (c : Nat), n - (j + 1) = left → j + 1 ≤ n → J g s → St (j + 1) s → P (argBest bt j) vb → V g (argBest bt j) kb → s.heap.get? S = some (two vb kb c) →
      (∀ v g' s', P (argBest bt (n - 1)) v → J g' s' → R (.ok (.ret v)) s') → codeAny (model pg w) A (.builtin "max.loop" ⟨[.ref I, .ref q, .ref S], kw⟩) R s := by
  have nSw : S ∉ wr := fun z => nS (W.sub _ z)
  have more : ∀ b ∈ wr, b ∈ S :: wr := fun b z => List.mem_cons_of_mem _ z
  have nm : (toString "max" ++ toString ".loop" : String) = "max.loop" := by decide
  have off : ∀ {b : Addr}, b ∉ S :: wr → S ≠ b := fun z e => z (e ▸ List.mem_cons_self)
  intro left
  induction left with
  | zero =>
    intro j g s vb kb c hl hj hJ hst hP hV hS hR
    have ej : j + 1 = n := by omega
    refine codeAny_builtin F.entry_max_loop ?_
    rw [Around.under_plainId F.plain_max_loop _]
    show wpAny _ A.in1 (seqItems? (.ref S) >>= _) _ _ _
    refine wpAny_bind (wpAny_seqItems hS rfl (wpAny_bind (wpAny_tryCatch (W.done s _ _ (ej ▸ hst) fun s1 mv => ?_))))
    refine wpAny_bind (wpAny_updateSeq (mv.heap S _ nSw hS) rfl (wpAny_bind (wpAny_letGo (wpAny_pure (hR vb g _ (by rw [← ej]; exact hP) (KG.keep g _ _ hJ ?_))))))
    exact (mv.mono more).then_heap (tk := s1.toks) (Nat.le_refl _) fun b o z e => (Heap.get?_update_other _ _ (off z)).trans e
  | succ left ih =>
    intro j g s vb kb c hl hj hJ hst hP hV hS hR
    have jn : j + 1 < n := by omega
    refine codeAny_builtin F.entry_max_loop ?_
    rw [Around.under_plainId F.plain_max_loop _]
    show wpAny _ A.in1 (seqItems? (.ref S) >>= _) _ _ _
    refine wpAny_bind (wpAny_seqItems hS rfl (wpAny_bind (wpAny_tryCatch (W.item (j + 1) s _ _ jn hst fun v s1 hv st1 mv => ?_))))
    refine wpAny_bind (wpAny_tryCatch (wpAny_holding (KG.turn (j + 1) v g s1 _ _ _ jn hv (KG.keep g _ _ hJ (mv.mono more)) st1 (mv.heap S _ nSw hS) ⟨_, _, rfl⟩ fun kx g2 s2 J2 st2 hS2 V2 old => ?_)))
    show wpAny _ A.in1 (tryCatch (holding [v, kx] (richCompare .Gt kx kb >>= _)) _ >>= _) _ _ _
    refine wpAny_bind (wpAny_tryCatch (wpAny_holding (wpAny_bind (KG.cmp (j + 1) (argBest bt j) kx kb g2 s2 _ _ J2 V2 (old _ _ hV) ?_))))
    refine wpAny_bind (wpAny_holding (wpAny_truthy_bool (wpAny_bind (wpAny_letGo (wpAny_pure ?_)))))
    cases hb : bt (j + 1) (argBest bt j) with
    | false =>
      simp only [Bool.false_eq_true, if_false]
      refine wpAny_bind (wpAny_letGo ?_)
      rw [nm]
      have ea : argBest bt (j + 1) = argBest bt j := by simp only [argBest, hb, Bool.false_eq_true, if_false]
      exact wpAny_pure ⟨plainId_quiet F.plain_max_loop _, ih (j + 1) g2 s2 vb kb c (by omega) jn J2 st2 (by rw [ea]; exact hP) (by rw [ea]; exact old _ _ hV) hS2 hR⟩
    | true =>
      simp only [if_true]
      refine wpAny_bind (wpAny_updateSeq hS2 rfl (wpAny_bind (wpAny_letGo ?_)))
      rw [nm]
      have ea : argBest bt (j + 1) = j + 1 := by simp only [argBest, hb, if_true]
      have mv2 : Moved (S :: wr) G s2 { s2 with heap := s2.heap.update S (Obj.mapSeq fun _ => #[v, kx]), toks := s2.toks } := (Moved.refl W.grefl).then_heap (tk := s2.toks) (Nat.le_refl _) fun b o z e => (Heap.get?_update_other _ _ (off z)).trans e
      refine wpAny_pure ⟨plainId_quiet F.plain_max_loop _, ih (j + 1) g2 _ v kx _ (by omega) jn (KG.keep g2 _ _ J2 mv2) (W.frame _ s2 _ s2.toks st2 (Nat.le_refl _) fun b z o e => ?_) (by rw [ea]; exact hv) (by rw [ea]; exact V2) (Heap.get?_update_self _ hS2 rfl) hR⟩
      exact (Heap.get?_update_other _ _ (fun e2 : S = b => nS (e2 ▸ z))).trans e
theorem xfirst (W : WalksS pg w A.in1 I fp wr G n P St) (nS : S ∉ fp) (KG : KeyX γ pg w A.in1 q S wr G n P St J V bt) (kw : List (Str × Value)) (hn : 0 < n) {g : γ} {s : Shared} {c : Nat} (hJ : J g s) (hst : St 0 s)
    (hS : s.heap.get? S = some { cls := .type "list", dict := none, data := .seq #[] c, slots := #[] }) (hR : ∀ v g' s', P (argBest bt (n - 1)) v → J g' s' → R (.ok (.ret v)) s') :
    codeAny (model pg w) A (.builtin "max.loop" ⟨[.ref I, .ref q, .ref S], kw⟩) R s := by
  have nSw : S ∉ wr := fun z => nS (W.sub _ z)
  have nm : (toString "max" ++ toString ".loop" : String) = "max.loop" := by decide
  have off : ∀ {b : Addr}, b ∉ S :: wr → S ≠ b := fun z e => z (e ▸ List.mem_cons_self)
  refine codeAny_builtin F.entry_max_loop ?_
  rw [Around.under_plainId F.plain_max_loop _]
  show wpAny _ A.in1 (seqItems? (.ref S) >>= _) _ _ _
  refine wpAny_bind (wpAny_seqItems hS rfl (wpAny_bind (wpAny_tryCatch (W.item 0 s _ _ hn hst fun v s1 hv st1 mv => ?_))))
  refine wpAny_bind (wpAny_tryCatch (wpAny_holding (KG.turn 0 v g s1 _ _ _ hn hv (KG.keep g _ _ hJ (mv.mono fun b z => List.mem_cons_of_mem _ z)) st1 (mv.heap S _ nSw hS) ⟨_, _, rfl⟩ fun kx g2 s2 J2 st2 hS2 V2 old => ?_)))
  refine wpAny_bind (m := updateSeq S (fun _ => #[v, kx])) (wpAny_updateSeq hS2 rfl ?_)
  rw [nm]
  have mv2 : Moved (S :: wr) G s2 { s2 with heap := s2.heap.update S (Obj.mapSeq fun _ => #[v, kx]), toks := s2.toks } := (Moved.refl W.grefl).then_heap (tk := s2.toks) (Nat.le_refl _) fun b o z e => (Heap.get?_update_other _ _ (off z)).trans e
  refine wpAny_pure ⟨plainId_quiet F.plain_max_loop _, xloop W nS KG kw _ 0 g2 _ v kx _ rfl hn (KG.keep g2 _ _ J2 mv2) (W.frame _ s2 _ s2.toks st2 (Nat.le_refl _) fun b z o e => ?_) hv V2 (Heap.get?_update_self _ hS2 rfl) hR⟩
  exact (Heap.get?_update_other _ _ (fun e2 : S = b => nS (e2 ▸ z))).trans e
end
section
variable {pg : Program} {w : World} {A : Around} {E : Value → Shared → Prop} {s : Shared}
/-- max(x, key=f) -/
theorem call_maxK {x : Value} {q : Addr} {Q : Value → Shared → Prop} {γ : Type}
    (h : wpAny (model pg w) A.in1 (pyIter x) (fun it s2 => ∃ I fp wr G n P St, ∃ (J : γ → Shared → Prop) (V : γ → Nat → Value → Prop) (bt : Nat → Nat → Bool) (g : γ), it = .ref I ∧ WalksS pg w A.in1 I fp wr G n P St ∧ St 0 s2 ∧ (∀ b ∈ fp, b < s2.heap.objs.size) ∧ 0 < n ∧
      KeyX γ pg w A.in1 q s2.heap.objs.size wr G n P St J V bt ∧ J g s2 ∧ (∀ v g' s', P (argBest bt (n - 1)) v → J g' s' → Q v s')) E s) :
    wpAny (model pg w) A (call (.builtin "max") [x] [(Str.ofString "key", .ref q)]) Q E s := by
  have nm : (toString "max" ++ toString ".loop" : String) = "max.loop" := by decide
  refine PyProof.Rows.kmk_tree F.kind_max F.plain_max F.entry_max (PyProof.Rows.kmk_max_key _ _) ?_
  have bp : Builtin.Builtins.bindParams "max" ["key", "default"] 0 ⟨[], [(Str.ofString "key", .ref q)]⟩ = pure [some (.ref q), none] := rfl
  refine wpAny_bind (m := Builtin.Builtins.bindParams "max" ["key", "default"] 0 ⟨[], [(Str.ofString "key", .ref q)]⟩) (wpAny_of_eq bp (wpAny_bind (wpAny_pure (wpAny_bind (wpAny_mono h (fun it s2 h2 => ?_) fun _ _ e => e)))))
  obtain ⟨I, fp, wr, G, n, P, St, J, V, bt, g, rfl, W, hst, lt, hn, KG, hJ, h1⟩ := h2
  refine wpAny_bind (wpAny_newObj_type ?_)
  have nS : s2.heap.objs.size ∉ fp := fun z => Nat.lt_irrefl _ (lt _ z)
  rw [nm]
  have mv : Moved (s2.heap.objs.size :: wr) G s2 { s2 with heap := s2.heap.push { cls := .type "list", data := .seq #[] 0 }, toks := s2.toks } := (Moved.refl W.grefl).then_heap (tk := s2.toks) (Nat.le_refl _) fun b o _ e => Heap.get?_push_of_some _ e
  have st1 := W.frame 0 s2 (s2.heap.push { cls := .type "list", data := .seq #[] 0 }) s2.toks hst (Nat.le_refl _) fun b _ o e => Heap.get?_push_of_some _ e
  exact wpAny_pure ⟨plainId_quiet F.plain_max_loop _, xfirst W nS KG _ hn (KG.keep g _ _ hJ mv) st1 (Heap.get?_push_size _ rfl) h1⟩
end
end LR

namespace LR
open PySem PySem.Spec PyProof.Rows L2 LamX
/-- max(e, key=lambda p: body) -/
def tMaxK (K : PySem.W.Frag) (T : List (Addr × Str)) (slot : Nat) (te tb : TE) : TE := fun σ H Q => te σ H fun x H1 => ∃ (a : Addr) (as : List Addr) (ds : List PyData), x = .ref a ∧ as.length = ds.length ∧ 0 < as.length ∧ PySem.W.AlikeAll ds ∧ PyData.depthAll ds ≤ 50 ∧ Tabs T H1 ∧
  ∀ H2, ExtN H1 H2 → Tabs T H2 → SqL K H2 a (RF as) ∧
    (∀ (i : Nat) (b : Addr) (d : PyData) (H' : Hp), as[i]? = some b → ds[i]? = some d → Same H2 H' → tb (σ.set slot (some (.ref b))) H' fun k H'' => Same H' H'' ∧ Dp K H'' k d) ∧
    ∀ (i : Nat) (b : Addr) (d : PyData) (ds' : List PyData), ds = d :: ds' → as[i]? = some b → ds[i]? = some (PySem.W.maxD d ds') → ∀ H', Same H2 H' → Q (.ref b) H'
section
variable {X : Cx}
theorem maxK_run {pins : List (Addr × Obj)} {σ : L2.St} {H3 : Hp} {s : Shared} {params : Arguments} {body : Expr} {scope : Scope} {f c' a : Addr} {pm ctv : Value} {i k : Nat} {p : Str} {tb : TE} {as : List Addr} {ds : List PyData} {Q : VK} (hc : X.calm = true)
    (I : L2.Inv X ((f, lamO X params body scope pm c' ctv) :: pins) σ H3 s) (L : Lam1 X.env.scope scope p) (hN : X.N.Nodup) (hi : X.N[i]? = some p) (hco : H3 c' = some (CodeO c' (X.env.qual ++ "<lambda>"))) (hr : Room (k + 2) X.A)
    (hbind : ∀ u, bindArgs (PySem.W.kla_fn "<lambda>" (X.env.qual ++ "<lambda>") params body scope (cloFrom X.env.cells scope.names []) pm (.ref c') ctv) ⟨[u], []⟩ = pure [(p, u)])
    (hbody : ∀ (s : Shared) (H : Hp), Room k (X.A.in1.deeper (lamEnv X scope s.heap.objs.size f c')) → PE (lmCx X X.A.in1 X.stack s H scope f c') body tb)
    (hl : as.length = ds.length) (h0 : 0 < as.length) (hal : PySem.W.AlikeAll ds) (hdep : PyData.depthAll ds ≤ 50) (hq : SqL X.K H3 a (RF as))
    (step : ∀ (j : Nat) (b : Addr) (d : PyData) (H' : Hp), as[j]? = some b → ds[j]? = some d → Same H3 H' → tb (σ.set i (some (.ref b))) H' fun k H'' => Same H' H'' ∧ Dp X.K H'' k d)
    (h1 : ∀ (j : Nat) (b : Addr) (d : PyData) (ds' : List PyData), ds = d :: ds' → as[j]? = some b → ds[j]? = some (PySem.W.maxD d ds') → ∀ H', Same H3 H' → Q (.ref b) H') :
    wpAny (model X.prog X.w) X.A (call (.builtin "max") [.ref a] [(Str.ofString "key", .ref f)]) (EP X pins σ Q) X.xe s := by
  obtain ⟨its, rv, pl, _⟩ := I.list hq
  have eits := vals_refs rv
  have nsz : its.toArray.size = as.length := by rw [List.size_toArray, eits, List.length_map]
  refine call_maxK (γ := Hp) (PySem.W.iter_listW (A := X.A.in1) (I.ok.hd hc) pl.isList fun s2 e2 W st hfp hw hk => ?_)
  have lta : a < s.heap.objs.size := by
    obtain ⟨_, e, _⟩ := pl.isList
    exact Heap.lt_size e
  have sz2 : s2.heap.objs.size = s.heap.objs.size + 1 := by rw [e2]; exact Heap.size_push ..
  obtain ⟨oI, nI⟩ := own_new I (Nat.le_refl s.heap.objs.size)
  obtain ⟨oS, nS⟩ := own_new (b := s2.heap.objs.size) I (by rw [sz2]; exact Nat.le_succ _)
  have neIS : s.heap.objs.size ≠ s2.heap.objs.size := by rw [sz2]; exact Nat.ne_of_lt (Nat.lt_succ_self _)
  have pinF : (f, lamO X params body scope pm c' ctv) ∈ X.pn ++ ((f, lamO X params body scope pm c' ctv) :: pins) := List.mem_append_right _ List.mem_cons_self
  refine ⟨_, _, _, _, _, _, _, fun H s' => L2.Inv X ((f, lamO X params body scope pm c' ctv) :: pins) σ H s' ∧ Same H3 H ∧ H s.heap.objs.size = none ∧ H s2.heap.objs.size = none,
    fun H j v => ∃ (x : V) (dd : PyData), RelV x v ∧ ds[j]? = some dd ∧ Dp X.K H x dd, fun j l => PySem.W.dataLt (ds.getD l .none) (ds.getD j .none), H3, rfl, W, st, hfp, by omega, ⟨?_, ?_, ?_⟩, ⟨?_, Same.refl _, nI, nS⟩, ?_⟩
  · -- keep
    intro H s3 s4 ⟨J, sm, n1, n2⟩ mv
    exact ⟨turned2 J mv oS oI n2 n1, sm, n1, n2⟩
  · -- turn
    intro j v H s3 o Q' E' hj hv ⟨J, sm, n1, n2⟩ st3 hS ⟨xo, co, eo⟩ hQ'
    obtain ⟨⟨oit, git, git2, git3⟩, hL3⟩ := st3
    obtain ⟨b, hb, ev⟩ : ∃ b, as[j]? = some b ∧ v = .ref b := by
      have e : its[j]? = some v := by simpa using hv
      rw [eits, List.getElem?_map] at e
      cases q : as[j]? with
      | none =>
        rw [q] at e
        cases e
      | some b =>
        rw [q] at e
        exact ⟨b, rfl, (Option.some.inj e).symm⟩
    subst ev
    have hjd : j < ds.length := by
      rw [← hl]
      exact (List.getElem?_eq_some_iff.mp hb).1
    have J2 := pin_more J git n1 oI.loc oI.fs (fun v z => by rw [git3] at z; cases z)
    have hSo : ∀ v, o.data ≠ .cell v := fun v z => by
      rw [eo] at z
      cases z
    have J3 := pin_more J2 hS n2 oS.loc oS.fs hSo
    refine wpAny_mono (lam_run (E := E') (v := .ref b) J3 L hN hi rfl J3.env0.in1 (J.pin _ pinF).1 (sm _ _ hco) (hbind _) hr.in1 (fun hr2 => hbody s3 H hr2) (step j b ds[j] H hb (List.getElem?_eq_getElem hjd) sm)) (fun kx s4 ⟨x, H4, J4, rx, s34, hd4⟩ => ?_) fun _ _ z => z
    have pS := J4.pin (s2.heap.objs.size, o) (List.mem_append_right _ List.mem_cons_self)
    have pI := J4.pin (s.heap.objs.size, oit) (List.mem_append_right _ (List.mem_cons_of_mem _ List.mem_cons_self))
    obtain ⟨its4, rv4, pl4, _⟩ := J4.list ((sm.trans s34).seq hq)
    have e4 := vals_refs rv4
    refine hQ' kx H4 s4 ⟨pin_less (pin_less J4), sm.trans s34, pI.2.1, pS.2.1⟩ ⟨⟨oit, pI.1, git2, git3⟩, ?_⟩ pS.1 ⟨x, _, rx, List.getElem?_eq_getElem hjd, hd4⟩ fun l k' ⟨x', d', r', g', hd'⟩ => ⟨x', d', r', g', dp_same s34 d' x' hd'⟩
    have e5 : its4 = its := by rw [e4, eits]
    rw [← e5]
    exact pl4.isList
  · -- cmp
    intro j l kj kl H s3 Q' E' ⟨J, sm, n1, n2⟩ ⟨x, dx, rx, gx, hx⟩ ⟨y, dy, ry, gy, hy⟩ hQ'
    obtain ⟨as1, r1⟩ := Dp.reads J dx x kj hx rx
    obtain ⟨as2, r2⟩ := Dp.reads J dy y kl hy ry
    have ex : ds.getD j .none = dx := by rw [List.getD_eq_getElem?_getD, gx]; rfl
    have ey : ds.getD l .none = dy := by rw [List.getD_eq_getElem?_getD, gy]; rfl
    have m1 := List.mem_of_getElem? gx
    have m2 := List.mem_of_getElem? gy
    rw [ex, ey] at hQ'
    refine PySem.W.rcGt_alike dx dy X.A.in1 s3 kj kl _ _ r1 r2 (hal.1 _ m1 _ m2) (hal.2 _ m1) ?_ X.prog X.w E' Q' hQ'
    have u1 := hr.units
    have u2 : dx.depth ≤ 50 := Nat.le_trans (depth_le m1) hdep
    have u3 := Nat.min_le_left dx.depth dy.depth
    show X.A.units + 1 + _ < _
    omega
  · rw [e2]
    exact I.kept (t' := s.toks) fun b o e => Heap.get?_push_of_some _ e
  · intro v H s3 hv ⟨J, sm, _, _⟩
    cases hds : ds with
    | nil =>
      rw [hds] at hl
      have z : as.length = 0 := hl
      omega
    | cons d0 dr =>
      have e3 : its.toArray.size - 1 = dr.length := by
        rw [nsz, hl, hds]
        rfl
      obtain ⟨le, e4⟩ := PySem.W.argBest_fold (fun a b => PySem.W.dataLt b a) PyData.none d0 dr dr.length (Nat.le_refl _)
      rw [List.take_length] at e4
      rw [e3] at hv
      rw [hds] at hv
      generalize argBest (fun i j => PySem.W.dataLt ((d0 :: dr).getD j PyData.none) ((d0 :: dr).getD i PyData.none)) dr.length = m at le e4 hv
      have e : its[m]? = some v := by simpa using hv
      rw [eits, List.getElem?_map] at e
      cases q : as[m]? with
      | none =>
        rw [q] at e
        cases e
      | some b =>
        rw [q] at e
        have ev : Value.ref b = v := Option.some.inj e
        subst ev
        have hm : m < (d0 :: dr).length := by simp; omega
        refine ⟨.ref b, H, pin_less J, rfl, h1 m b d0 dr hds q ?_ H sm⟩
        rw [List.getD_eq_getElem?_getD, List.getElem?_eq_getElem hm] at e4
        rw [hds, List.getElem?_eq_getElem hm]
        exact congrArg some e4
/-- max(e, key=lambda p: body) -/
theorem pe_maxK {T : List (Addr × Str)} {c P : Addr} {k i : Nat} {p : Str} {e : Expr} {params : Arguments} {body : Expr} {scope : Scope} {te tb : TE} {np pos lpos kp1 : Pos} (hc : X.calm = true) (hg : Gl X "max") (hm : X.mg "max" = none) (he : PE X e te)
    (TB : TabB X.base X.mg c P) (hcode : X.env.code = .ref c) (hmT : (P, X.env.qual ++ "<lambda>") ∈ T) (hu : ∀ q ∈ T, q.1 = P → q.2 = X.env.qual ++ "<lambda>") (hr : Room (k + 2) X.A) (L : Lam1 X.env.scope scope p) (hN : X.N.Nodup) (hi : X.N[i]? = some p) (hdef : defaultsOf params X.env = ([], []))
    (hbind : ∀ (q : Str) (cl : List (Str × Addr)) (pm cv ctv u : Value), bindArgs (PySem.W.kla_fn "<lambda>" q params body scope cl pm cv ctv) ⟨[u], []⟩ = pure [(p, u)])
    (hbody : ∀ (s : Shared) (H : Hp) (f c' : Addr), Room k (X.A.in1.deeper (lamEnv X scope s.heap.objs.size f c')) → PE (lmCx X X.A.in1 X.stack s H scope f c') body tb)
    (hse : backTo pos (starEach [e] X.env) = (false, eval e X.env) :: backTo pos (starEach [] X.env) := by rfl) (hs1 : starEach [e] X.env = (false, eval e X.env) :: starEach [] X.env := by rfl) (hpl : (backTo pos (starEach [e] X.env)).any (·.1) = false := by rfl) :
    PE X (.Call (.Name "max" np) [e] [⟨some "key", .Lambda params body scope lpos, kp1⟩] pos) (tMaxK X.K T i te tb) := by
  refine ⟨fun pins s σ H Q I h => ?_⟩
  refine wpAny_Call_Name_kw (ld_blt I hg hm (show bootBuiltins "max" = some (.builtin "max") by decide +kernel) ?_)
  refine PyProof.Rows.callWith_kw ?_ hse hpl (by rfl) (by rfl)
  rw [hse]
  refine Calls.spliced_cons (thn (he.run pins s σ H _ I h) fun u s1 ⟨v, H1, I1, r1, q1⟩ => Calls.spliced_nil ?_)
  obtain ⟨a, as, ds, ev, hl, h0, hal, hdep, hT, q2⟩ := q1
  subst ev
  obtain rfl : u = Value.ref a := r1
  refine PyProof.Rows.kws_cons (LamX.lam_make2 I1 TB hcode hmT hu hT hdef (L.has I1.ok) fun f c' pm ctv H2 s2 I2 eN T2 hf hfn hfr hco => ?_)
  obtain ⟨hq3, step, h1⟩ := q2 H2 eN T2
  have fL : f ≠ X.env.locals := fun z => by
    obtain ⟨m, ⟨o, es, ep, ho, hd, _⟩, _⟩ := I2.loc
    rw [← z, hf] at ho
    cases ho
    cases hd
  have ffs : f ∉ X.fs := fun z => hfr (by
    rcases I2.ok.stk with e1 | ⟨e1, e2⟩
    · rw [e1]
      exact z
    · rw [e1]
      unfold frs
      rw [List.filterMap_cons, e2]
      exact List.mem_cons_of_mem _ z)
  have J2 := pin_more I2 hf hfn fL ffs (fun v z => by cases z)
  refine PyProof.Rows.kws_nil ?_
  exact maxK_run hc J2 L hN hi hco hr (fun u => hbind _ _ _ _ _ u) (fun s H hr2 => hbody s H f c' hr2) hl h0 hal hdep hq3 step h1
end
end LR

namespace LR
open PySem PySem.Spec PyProof.Rows L2 LamX
/-- the numbers of the lanterns, as the dict's keys -/
def idsI (ls : List Mu33.Lantern) : List Int := ls.map fun c => ((c.id : Nat) : Int)
theorem kvs_keys : ∀ {ls : List Mu33.Lantern} {as : List Addr}, as.length = ls.length → (kvsOf ls as).map (·.1) = (idsI ls).map Sum.inl
  | [], _, _ => rfl
  | _ :: _, [], h => by simp at h
  | d :: ls, b :: as, h => by
    show Sum.inl ((d.id : Nat) : Int) :: (kvsOf ls as).map (·.1) = Sum.inl ((d.id : Nat) : Int) :: (idsI ls).map Sum.inl
    rw [kvs_keys (by simpa using h)]
theorem ids_sorted {ls : List Mu33.Lantern} (p : ls.Pairwise fun a b => a.id < b.id) : (idsI ls).Pairwise (· ≤ ·) := by
  unfold idsI
  rw [List.pairwise_map]
  exact p.imp fun {a b} h => by omega
section
variable {P : Program} {w : World} {K : PySem.W.Frag} {mg : Str → Option Value} {base : Heap} {C CL : Addr} {T : List (Addr × Str)}
/-! ### standing -/
abbrev sStanding : Stmt := top 11
theorem scStanding : FnScope ["shop", "number"] ["shop"] (defScope sStanding) := ⟨rfl, rfl, rfl, by decide +kernel, rfl, by decide +kernel, by decide +kernel⟩
def spStanding (C CL : Addr) : Sp := fun vs H Q _ => ∃ (a : Addr) (s : Mu33.State) (A : Ad), vs = [.ref a] ∧ ShopAt C CL H a s A ∧ Good s ∧
  ∀ (H' : Hp) (p : Addr), Same H H' → H p = none → H' p = some (.lst (RF A.las)) → Q (.ref p) H'
theorem cal_standing (B : Bl mg) (X : Txl K mg C CL) (D : Df K mg "standing" sStanding) : Cal P w K mg base 1 "standing" ["shop"] (spStanding C CL) := by
  obtain ⟨f, fd, F, m⟩ := D
  refine ⟨f, fd, ?_, m, F.kp, F.binds fun _ _ _ _ _ _ us hl => match us, hl with | [_], _ => rfl⟩
  refine F.ok scStanding (fun vs H Q E h => by obtain ⟨a, s, A, rfl, _⟩ := h; rfl) (fun cdv A outer s H vs Q E hr h => ?_)
  have hu : (A.deeper (envOfC "standing" (defScope sStanding) s.heap.objs.size f cdv)).units + 1 < cLine := by
    have := hr.un
    omega
  refine ⟨_, pss_one (ps_ret (pe_lc (own := [("number", 1)]) (g := gName 1) (tt := tYes) (te := tDGet (tFld K (tVar 0) "lanterns") (tVar 1)) rfl scStanding.nd (pi_list (pe_callB (call_sortedDI rfl) (by rfl) B.sorted (by decide +kernel) (pa_cons (pe_fld (pv 0) rfl) pa_nil))) (blkOk_by (own := [("number", 1)]) (N := ["shop", "number"]) (sc := defScope sStanding) (by decide +kernel))
      (fun _ _ _ _ _ => pg_name (i := 1) scStanding.nd rfl (Or.inl rfl)) (fun _ _ _ _ _ => pts_nil) (fun _ _ _ _ _ => pe_dget hu (pe_fld (pv 0) rfl) (pv 1) (fun _ _ => rfl)))), ?_⟩
  obtain ⟨a, s, A, rfl, SA, G, k⟩ := h
  have h6 := G.six
  have il : (idsI s.lanterns).length = s.lanterns.length := List.length_map ..
  refine ⟨_, rfl, a, C, _, _, _, rfl, SA.ob, X.cl, X.lanterns, SA.flanterns, A.ad, _, idsI s.lanterns, rfl, .inl SA.hd, kvs_keys SA.ll, by omega, fun ys p hperm hsort hp => ?_⟩
  have ey : ys = idsI s.lanterns := List.Perm.eq_of_pairwise (fun x y _ _ h1 h2 => Int.le_antisymm h1 h2) hsort (ids_sorted G.ids) hperm
  subst ey
  have s1 := same_upd (o := .lst ((idsI s.lanterns).map V.int)) hp
  refine ⟨p, rfl, ⟨_, SqL.of upd_same⟩, fun D hD => lc_map (K := K) (a := p) (xs := (idsI s.lanterns).map V.int) (RF A.las) hD (SqL.of upd_same) (by rw [List.length_map, List.length_map, il, SA.ll]) (by rw [List.length_map]; omega) (fun x => rfl) ?_ fun H2 s2 hD2 => k H2 D (s1.trans s2) (s1.free hD) hD2⟩
  intro i x y H' Q' hx hy s2 k'
  obtain ⟨l, hl, rfl⟩ := RF_get hy
  have hi : i < s.lanterns.length := by
    have := (List.getElem?_eq_some_iff.mp hl).1
    rw [← SA.ll]
    exact this
  have S2 := SA.same (s1.trans s2)
  have hc := List.getElem?_eq_getElem hi
  have ex : x = .int ((s.lanterns[i].id : Nat) : Int) := by
    unfold idsI at hx
    rw [List.getElem?_map, List.getElem?_map, hc] at hx
    exact (Option.some.inj hx).symm
  rw [ex]
  refine ⟨_, rfl, a, C, _, _, _, rfl, S2.ob, X.cl, X.lanterns, S2.flanterns, _, rfl, A.ad, _, rfl, ?_, k' H' (Same.refl _)⟩
  have g := DGet.k (k := Sum.inl ((s.lanterns[i].id : Nat) : Int)) S2.hd
  rw [kvs_at G.ids hc hl] at g
  exact g
/-! ### oil_when_full -/
abbrev sFull : Stmt := top 12
theorem scFull : FnScope ["lantern"] ["lantern"] (defScope sFull) := ⟨rfl, rfl, rfl, by decide +kernel, rfl, by decide +kernel, by decide +kernel⟩
def spFull (CL : Addr) : Sp := fun vs H Q _ => ∃ (l r : Addr) (c : Mu33.Lantern), vs = [.ref l] ∧ LanAt CL H l r c ∧ c.girth ≤ 60 ∧ Q (.int ((Mu33.room c : Nat) : Int)) H
theorem cal_full (X : Txl K mg C CL) (D : Df K mg "oil_when_full" sFull) : Cal P w K mg base 1 "oil_when_full" ["lantern"] (spFull CL) := by
  obtain ⟨f, fd, F, m⟩ := D
  refine ⟨f, fd, ?_, m, F.kp, F.binds fun _ _ _ _ _ _ us hl => match us, hl with | [_], _ => rfl⟩
  refine F.ok scFull (fun vs H Q E h => by obtain ⟨l, r, c, rfl, _⟩ := h; rfl) (fun cdv A outer s H vs Q E hr h => ?_)
  refine ⟨_, pss_one (ps_ret (pe_op op_mulN (pe_fld (pv 0) rfl) (pe_fld (pv 0) rfl))), ?_⟩
  obtain ⟨l, r, c, rfl, ⟨⟨dl, fs, e1, e2, e3, e4, e5⟩, e6⟩, hg, k⟩ := h
  exact ⟨_, rfl, l, CL, dl, _, _, rfl, e1, X.lcl, X.girth, e3, _, rfl, l, CL, dl, _, _, rfl, e1, X.lcl, X.girth, e3, c.girth, c.girth, rfl, rfl, by omega, k⟩
/-! ### brass_in -/
abbrev sBrassIn : Stmt := top 13
theorem scBrassIn : FnScope ["lantern"] ["lantern"] (defScope sBrassIn) := ⟨rfl, rfl, rfl, by decide +kernel, rfl, by decide +kernel, by decide +kernel⟩
def spBrassIn (CL : Addr) : Sp := fun vs H Q _ => ∃ (l r : Addr) (c : Mu33.Lantern), vs = [.ref l] ∧ LanAt CL H l r c ∧ ∀ H', Same H H' → Q (.int ((Mu33.brass c : Nat) : Int)) H'
theorem cal_brassIn (B : Bl mg) (X : Txl K mg C CL) (D : Df K mg "brass_in" sBrassIn) (c1 : Cal P w K mg base 1 "bands_of" ["girth"] spBands) : Cal P w K mg base 2 "brass_in" ["lantern"] (spBrassIn CL) := by
  obtain ⟨f, fd, F, m⟩ := D
  refine ⟨f, fd, ?_, m, F.kp, F.binds fun _ _ _ _ _ _ us hl => match us, hl with | [_], _ => rfl⟩
  refine F.ok scBrassIn (fun vs H Q E h => by obtain ⟨l, r, c, rfl, _⟩ := h; rfl) (fun cdv A outer s H vs Q E hr h => ?_)
  refine ⟨_, pss_one (ps_ret (pe_callB (cr_sum rfl) (by rfl) B.sum (by decide +kernel) (pa_cons (pe_cal c1 hr rfl (pa_cons (pe_fld (pv 0) rfl) pa_nil)) pa_nil))), ?_⟩
  obtain ⟨l, r, c, rfl, ⟨⟨dl, fs, e1, e2, e3, e4, e5⟩, e6⟩, k⟩ := h
  refine ⟨_, rfl, l, CL, dl, _, _, rfl, e1, X.lcl, X.girth, e3, c.girth, rfl, fun H1 p s1 hp hp1 => ⟨p, ZI (Mu33.bands c.girth), rfl, by rw [← Z_ZI]; exact SqL.of hp1, ?_⟩⟩
  have e : (ZI (Mu33.bands c.girth)).sum = ((Mu33.brass c : Nat) : Int) := by
    unfold Mu33.brass
    rw [total_sum]
    exact sum_cast _
  rw [e]
  exact k H1 s1
/-! ### tell_lantern -/
abbrev sTLan : Stmt := top 14
theorem scTLan : FnScope ["shop", "number", "lantern"] ["shop", "number"] (defScope sTLan) := ⟨rfl, rfl, rfl, by decide +kernel, rfl, by decide +kernel, by decide +kernel⟩
def spTLan (C CL : Addr) (T : List (Addr × Str)) : Sp := fun vs H Q _ => ∃ (a : Addr) (i : Nat), vs = [.ref a, .int i] ∧ Does C CL T H Q a (.lantern i)
/-- the lantern of that number, as get tells it -/
theorem get_no {H : Hp} {a : Addr} {s : Mu33.State} {A : Ad} {i : Nat} (SA : ShopAt C CL H a s A) (h : Mu33.find s i = none) : DGet H A.ad (.int (i : Nat)) none := by
  have g := DGet.k (k := Sum.inl ((i : Nat) : Int)) SA.hd
  rw [kvs_none (find_no h)] at g
  exact g
theorem get_lan {H : Hp} {a : Addr} {s : Mu33.State} {A : Ad} {i j : Nat} {c : Mu33.Lantern} {l : Addr} (SA : ShopAt C CL H a s A) (G : Good s) (h : s.lanterns[j]? = some c) (hi : c.id = i) (hl : A.las[j]? = some l) : DGet H A.ad (.int (i : Nat)) (some (.ref l)) := by
  have g := DGet.k (k := Sum.inl ((c.id : Nat) : Int)) SA.hd
  rw [kvs_at G.ids h hl] at g
  rw [← hi]
  exact g
theorem isD {H : Hp} {a : Addr} {kvs : List (Key × V)} (h : H a = some (.dK kvs)) : IsD H a := .inl ⟨kvs, .inl h⟩
theorem cal_tlan (B : Bl mg) (X : Txl K mg C CL) (D : Df K mg "tell_lantern" sTLan) : Cal P w K mg base 1 "tell_lantern" ["shop", "number"] (spTLan C CL T) := by
  obtain ⟨f, fd, F, m⟩ := D
  refine ⟨f, fd, ?_, m, F.kp, F.binds fun _ _ _ _ _ _ us hl => match us, hl with | [_, _], _ => rfl⟩
  refine F.ok scTLan (fun vs H Q E h => by obtain ⟨a, i, rfl, _⟩ := h; rfl) (fun cdv A outer s H vs Q E hr h => ?_)
  have hu : (A.deeper (envOfC "tell_lantern" (defScope sTLan) s.heap.objs.size f cdv)).units + 1 < cLine := by
    have := hr.un
    omega
  refine ⟨_, pss_cons (ps_set (i := 2) scTLan.nd rfl (Or.inl rfl) (pe_dget1 hu (pe_fld (pv 0) rfl) (pv 1) ⟨rfl, rfl, rfl, rfl⟩))
    (pss_cons (ps_if (pt_cmp (pc_isN (pv 2))) (pss_one (ps_ret (pe_lst (pa_cons (pe_un un_neg pe_int) pa_nil)))) pss_nil)
    (pss_one (ps_ret (pe_op op_cat (pe_lst (pa_cons (pe_fld (pv 2) rfl) (pa_cons (pe_fld (pv 2) rfl) (pa_cons (pe_callB call_len_seq (by rfl) B.len PySem.boot_len (pa_cons (pe_fld (pv 2) rfl) pa_nil)) pa_nil)))) (pe_fld (pv 2) rfl))))), ?_⟩
  obtain ⟨a, i, rfl, s, A, s', ans, SA, G, hT, hs, q⟩ := h
  unfold Mu33.step at hs
  dsimp only at hs
  refine ⟨_, rfl, a, C, _, _, _, rfl, SA.ob, X.cl, X.lanterns, SA.flanterns, A.ad, rfl, isD SA.hd, _, rfl, ?_⟩
  cases hf : Mu33.find s i with
  | none =>
    rw [hf] at hs
    cases hs
    refine ⟨none, get_no SA hf, _, rfl, true, rfl, iteT ⟨_, rfl, by show 1 ≤ sizeLine; decide, ans1 (q.ans SA hT)⟩⟩
  | some c =>
    rw [hf] at hs
    cases hs
    obtain ⟨j, hj, hi⟩ := find_at hf
    obtain ⟨l, r, hl, hr', LA⟩ := SA.lanAt hj
    have LO := G.lan c (List.mem_of_getElem? hj)
    have h6 := LO.ring6
    refine ⟨some (.ref l), get_lan SA G hj hi hl, _, rfl, false, rfl, iteF ?_⟩
    obtain ⟨⟨dl, fs, e1, e2, e3, e4, e5⟩, e6⟩ := LA
    have zl : (Z c.ring).length = c.ring.length := List.length_map ..
    refine ⟨_, rfl, l, CL, dl, _, _, rfl, e1, X.lcl, X.girth, e3, _, rfl, l, CL, dl, _, _, rfl, e1, X.lcl, X.oil, e5, _, rfl, l, CL, dl, _, _, rfl, e1, X.lcl, X.ring, e4, r, _, rfl, .inl (SqL.of e6), by show 3 ≤ sizeLine; decide, fun u hu' => ?_⟩
    have s1 := same_upd (o := .lst [V.int ((c.girth : Nat) : Int), V.int ((c.has : Nat) : Int), V.int (((Z c.ring).length : Nat) : Int)]) hu'
    refine ⟨_, rfl, l, CL, dl, _, _, rfl, s1 _ _ e1, X.lcl, X.ring, e4, u, r, _, Z c.ring, rfl, rfl, upd_same, s1 _ _ e6, ?_, fun v hv => ?_⟩
    · rw [zl]
      show 3 + c.ring.length ≤ sizeLine
      rw [sizeLine_eq]
      omega
    · have s2 := s1.trans (same_upd (o := .lst ([V.int ((c.girth : Nat) : Int), V.int ((c.has : Nat) : Int), V.int (((Z c.ring).length : Nat) : Int)] ++ Z c.ring)) hv)
      refine q.ans SA hT _ v s2 (s1.free hv) ?_
      rw [upd_same, ← Z_ZV, zl]
      rfl
/-! ### tell_strips -/
abbrev sTStr : Stmt := top 18
abbrev NTStr : List Str := ["shop", "in_bands", "lantern"]
theorem scTStr : FnScope NTStr ["shop"] (defScope sTStr) := ⟨rfl, rfl, rfl, by decide +kernel, rfl, by decide +kernel, by decide +kernel⟩
def spTStr (C CL : Addr) (T : List (Addr × Str)) : Sp := fun vs H Q _ => ∃ a : Addr, vs = [.ref a] ∧ Does C CL T H Q a .strips
theorem cal_tstr (B : Bl mg) (X : Txl K mg C CL) (D : Df K mg "tell_strips" sTStr) (c1 : Cal P w K mg base 1 "standing" ["shop"] (spStanding C CL)) (c2 : Cal P w K mg base 2 "brass_in" ["lantern"] (spBrassIn CL)) : Cal P w K mg base 3 "tell_strips" ["shop"] (spTStr C CL T) := by
  obtain ⟨f, fd, F, m⟩ := D
  refine ⟨f, fd, ?_, m, F.kp, F.binds fun _ _ _ _ _ _ us hl => match us, hl with | [_], _ => rfl⟩
  refine F.ok scTStr (fun vs H Q E h => by obtain ⟨a, rfl, _⟩ := h; rfl) (fun cdv A outer s H vs Q E hr h => ?_)
  refine ⟨_, pss_cons (ps_set (i := 1) scTStr.nd rfl (Or.inl rfl) (pe_callB (cr_sum rfl) (by rfl) B.sum (by decide +kernel) (pa_cons (pe_lc (own := [("lantern", 2)]) (g := gName 2) (tt := tYes) (te := tCall (spBrassIn CL) [] E0 (tCons (tVar 2) tNil)) rfl scTStr.nd (pi_list (pe_cal c1 (hr.mono (by decide)) rfl (pa_cons (pv 0) pa_nil))) (blkOk_by (own := [("lantern", 2)]) (N := NTStr) (sc := defScope sTStr) (by decide +kernel))
      (fun _ _ _ _ _ => pg_name (i := 2) scTStr.nd rfl (Or.inl rfl)) (fun _ _ _ _ _ => pts_nil) (fun _ _ _ _ _ => pe_cal c2 hr rfl (pa_cons (pv 2) pa_nil))) pa_nil)))
    (pss_one (ps_ret (pe_op op_cat (pe_lst (pa_cons (pe_fld (pv 0) rfl) (pa_cons (pv 1) (pa_cons (pe_fld (pv 0) rfl) (pa_cons (pe_fld (pv 0) rfl) (pa_cons (pe_callB call_len_seq (by rfl) B.len PySem.boot_len (pa_cons (pe_fld (pv 0) rfl) pa_nil)) pa_nil)))))) (pe_fld (pv 0) rfl)))), ?_⟩
  obtain ⟨a, rfl, s, A, s', ans, SA, G, hT, hs, q⟩ := h
  unfold Mu33.step at hs
  dsimp only at hs
  cases hs
  have h6 := G.six
  have h8 := G.strips8
  refine ⟨_, rfl, a, s, A, rfl, SA, G, fun H1 p s1 hp hp1 => ⟨p, rfl, ⟨_, SqL.of hp1⟩, fun D hD => lc_map (K := K) (a := p) (xs := RF A.las) (Z (s.lanterns.map Mu33.brass)) hD (SqL.of hp1) (by simp [SA.ll]) (by rw [List.length_map, SA.ll]; omega) (fun x => rfl) ?_ fun H2 s2 hD2 => ?_⟩⟩
  · intro i x y H' Q' hx hy s2 k'
    obtain ⟨l, hl, rfl⟩ := RF_get hx
    obtain ⟨n, hn, rfl⟩ := Z_get hy
    rw [List.getElem?_map] at hn
    cases hc : s.lanterns[i]? with
    | none => rw [hc] at hn; cases hn
    | some c =>
      rw [hc] at hn
      cases hn
      obtain ⟨l', r, hl', hr', LA⟩ := (SA.same (s1.trans s2)).lanAt hc
      rw [hl] at hl'
      cases hl'
      exact ⟨_, rfl, l, r, c, rfl, LA, fun H2 s3 => k' H2 s3⟩
  · have e : (ZI (s.lanterns.map Mu33.brass)).sum = ((Mu33.banded s : Nat) : Int) := by
      unfold Mu33.banded
      rw [total_sum]
      exact sum_cast _
    have s3 := s1.trans s2
    have S3 := SA.same s3
    have zl : (Z s.strips).length = s.strips.length := List.length_map ..
    refine ⟨D, ZI (s.lanterns.map Mu33.brass), rfl, by rw [← Z_ZI]; exact SqL.of hD2, ?_⟩
    rw [e]
    refine ⟨_, rfl, a, C, _, _, _, rfl, S3.ob, X.cl, X.brass_come, S3.fcome, _, rfl, _, rfl, a, C, _, _, _, rfl, S3.ob, X.cl, X.scrap, S3.fscrap, _, rfl, a, C, _, _, _, rfl, S3.ob, X.cl, X.brass_gone, S3.faway, _, rfl, a, C, _, _, _, rfl, S3.ob, X.cl, X.strips, S3.fstrips, A.ax, _, rfl, .inl (SqL.of S3.hx), by show 5 ≤ sizeLine; decide, fun u hu' => ?_⟩
    have s4 := same_upd (o := .lst [V.int ((s.bought : Nat) : Int), V.int ((Mu33.banded s : Nat) : Int), V.int ((s.scrap : Nat) : Int), V.int ((s.away : Nat) : Int), V.int (((Z s.strips).length : Nat) : Int)]) hu'
    have S4 := S3.same s4
    refine ⟨_, rfl, a, C, _, _, _, rfl, S4.ob, X.cl, X.strips, S4.fstrips, u, A.ax, _, Z s.strips, rfl, rfl, upd_same, S4.hx, ?_, fun v hv => ?_⟩
    · rw [zl]
      show 5 + s.strips.length ≤ sizeLine
      rw [sizeLine_eq]
      omega
    · refine q.ans SA hT _ v (s3.trans (s4.trans (same_upd hv))) ((s3.trans s4).free hv) ?_
      rw [upd_same, ← Z_ZV, zl]
      rfl
end
end LR

namespace LR
open PySem PySem.Spec PyProof.Rows L2 LamX
theorem foot_drop {a b : Addr} {A : Ad} {fs : List (Str × V)} {j : Nat} (h : b ∈ foot a { A with las := A.las.eraseIdx j, ras := A.ras.eraseIdx j }) : b ∈ foot a A := by
  have h' : b ∈ a :: A.aw :: A.ap :: A.ak :: A.ax :: A.ad :: A.ag :: (A.las.eraseIdx j ++ A.ras.eraseIdx j) := h
  simp only [foot, List.mem_cons, List.mem_append] at h' ⊢
  rcases h' with h | h | h | h | h | h | h | h | h
  · exact .inl h
  · exact .inr (.inl h)
  · exact .inr (.inr (.inl h))
  · exact .inr (.inr (.inr (.inl h)))
  · exact .inr (.inr (.inr (.inr (.inl h))))
  · exact .inr (.inr (.inr (.inr (.inr (.inl h)))))
  · exact .inr (.inr (.inr (.inr (.inr (.inr (.inl h))))))
  · exact .inr (.inr (.inr (.inr (.inr (.inr (.inr (.inl (List.mem_of_mem_eraseIdx h))))))))
  · exact .inr (.inr (.inr (.inr (.inr (.inr (.inr (.inr (List.mem_of_mem_eraseIdx h))))))))
section
variable {P : Program} {w : World} {K : PySem.W.Frag} {mg : Str → Option Value} {base : Heap} {C CL : Addr} {T : List (Addr × Str)}
/-! ### sell_lantern -/
abbrev sSell : Stmt := top 15
abbrev NSell : List Str := ["shop", "number", "lantern", "sort"]
theorem scSell : FnScope NSell ["shop", "number"] (defScope sSell) := ⟨rfl, rfl, rfl, by decide +kernel, rfl, by decide +kernel, by decide +kernel⟩
def spSell (C CL : Addr) (T : List (Addr × Str)) : Sp := fun vs H Q _ => ∃ (a : Addr) (i : Nat), vs = [.ref a, .int i] ∧ Does C CL T H Q a (.sell i)
theorem cal_sell (B : Bl mg) (X : Txl K mg C CL) (D : Df K mg "sell_lantern" sSell) (c1 : Cal P w K mg base 2 "brass_in" ["lantern"] (spBrassIn CL)) : Cal P w K mg base 3 "sell_lantern" ["shop", "number"] (spSell C CL T) := by
  obtain ⟨f, fd, F, m⟩ := D
  refine ⟨f, fd, ?_, m, F.kp, F.binds fun _ _ _ _ _ _ us hl => match us, hl with | [_, _], _ => rfl⟩
  refine F.ok scSell (fun vs H Q E h => by obtain ⟨a, i, rfl, _⟩ := h; rfl) (fun cdv A outer s H vs Q E hr h => ?_)
  have hu : (A.deeper (envOfC "sell_lantern" (defScope sSell) s.heap.objs.size f cdv)).units + 1 < cLine := by
    have := hr.un
    omega
  refine ⟨_, pss_cons (ps_set (i := 2) scSell.nd rfl (Or.inl rfl) (pe_dget1 hu (pe_fld (pv 0) rfl) (pv 1) ⟨rfl, rfl, rfl, rfl⟩))
    (pss_cons (ps_if (pt_cmp (pc_isN (pv 2))) (pss_one (ps_ret (pe_lst (pa_cons (pe_un un_neg pe_int) pa_nil)))) pss_nil)
    (pss_cons (ps_for PassesOwn.never rfl (pi_list (pe_fld (pv 2) rfl)) (pg_name (i := 3) scSell.nd rfl (Or.inl rfl))
      (pss_one (ps_augS (pe_fld (pv 0) rfl) (pv 3) get_list pe_int ip_add set_list)))
    (pss_cons (ps_fldaug (pv 0) (pe_cal c1 hr rfl (pa_cons (pv 2) pa_nil)) in_add)
    (pss_cons (ps_expr (pe_dpop1 (pe_fld (pv 0) rfl) (pv 1) ⟨rfl, rfl, rfl, rfl⟩))
    (pss_one (ps_ret (pe_lst (pa_cons (pe_fld (pv 2) rfl) pa_nil)))))))), ?_⟩
  obtain ⟨a, i, rfl, s, A, s', ans, SA, G, hT, hs, q⟩ := h
  unfold Mu33.step at hs
  dsimp only at hs
  refine ⟨_, rfl, a, C, _, _, _, rfl, SA.ob, X.cl, X.lanterns, SA.flanterns, A.ad, rfl, isD SA.hd, _, rfl, ?_⟩
  cases hf : Mu33.find s i with
  | none =>
    rw [hf] at hs
    cases hs
    refine ⟨none, get_no SA hf, _, rfl, true, rfl, iteT ⟨_, rfl, by show 1 ≤ sizeLine; decide, ans1 (q.ans SA hT)⟩⟩
  | some c =>
    rw [hf] at hs
    cases hs
    obtain ⟨j, hj, hi⟩ := find_at hf
    subst hi
    obtain ⟨l, r, hl, hr', LA⟩ := SA.lanAt hj
    have LO := G.lan c (List.mem_of_getElem? hj)
    refine ⟨some (.ref l), get_lan SA G hj rfl hl, _, rfl, false, rfl, iteF ?_⟩
    obtain ⟨⟨dl, fs, e1, e2, e3, e4, e5⟩, e6⟩ := LA
    have rng : ∀ {H' : Hp} {s1 : Mu33.State}, ShopAt C CL H' a s1 A → s1.lanterns = s.lanterns → LanAt CL H' l r c := fun {H' s1} S e => S.lan j c l r (by rw [e]; exact hj) hl hr'
    refine ⟨_, rfl, l, CL, dl, _, _, rfl, e1, X.lcl, X.ring, e4, r, rfl, ⟨_, SqL.of e6⟩, for_list (K := K) (a := r) (xs := Z c.ring) (fun n σ H' => ∃ v3 : Option V, σ = [some (.ref a), some (.int ((c.id : Nat) : Int)), some (.ref l), v3] ∧ ShopAt C CL H' a { s with gone := goneTo s c.ring n } A ∧ Frame (foot a A) H H' ∧ Tabs T H')
      ⟨none, rfl, by rw [goneTo_zero G.gone]; exact SA, .refl, hT⟩ (fun n σ H' _ h => by
        obtain ⟨_, _, S1, _⟩ := h
        exact SqL.of (rng S1 rfl).ring) ?_ ?_⟩
    · rintro n x σ H1 hx ⟨v3, rfl, S1, F1, T1⟩
      obtain ⟨k, hk, rfl⟩ := Z_get hx
      have hkl := LO.there k (List.mem_of_getElem? hk)
      have eg := goneTo_get (s := s) (l := c.ring) (i := n) hkl
      refine ⟨_, rfl, a, C, _, _, _, rfl, S1.ob, X.cl, X.panes_gone, S1.fgone, _, rfl, A.ag, _, _, _, rfl, rfl, SqL.of S1.hg, atI_nat (Z_at eg), _, _, rfl, rfl, A.ag, _, _, k, rfl, rfl, S1.hg, ixN_nat (by rw [List.length_map]; show k < (goneTo s c.ring n).length; rw [goneTo_len]; exact hkl), _, rfl, ?_, F1.trans (frame_upd (F := foot a A) foot_g fun _ z => by cases z) (fun x hx => .inl hx), tabs_lst T1 S1.hg⟩
      have ez : (Z (goneTo s c.ring n)).set k (V.int (((s.gone.getD k 0 + Mu33.count k (c.ring.take n) : Nat) : Int) + 1)) = Z (goneTo s c.ring (n + 1)) := by
        rw [← goneTo_step hk hkl]
        unfold Z
        rw [List.map_set]
        rfl
      show ShopAt C CL (upd H1 A.ag (.lst ((Z (goneTo s c.ring n)).set k _))) a _ A
      rw [ez]
      exact S1.putGone (s' := { s with gone := goneTo s c.ring (n + 1) }) rfl rfl rfl rfl rfl rfl rfl rfl rfl
    · rintro σ H2 ⟨v3, rfl, S2, F2, T2⟩
      have zl : (Z c.ring).length = c.ring.length := List.length_map ..
      rw [zl] at S2
      refine ⟨_, rfl, a, C, _, _, _, rfl, S2.ob, X.cl, X.brass_gone, S2.faway, _, rfl, l, r, c, rfl, rng S2 rfl, fun H3 s3 => ?_⟩
      have S3 := S2.same s3
      refine ⟨_, _, rfl, rfl, _, _, S3.ob, Nat.lt_of_le_of_lt S3.len (by decide), ?_⟩
      have S4 := S3.putOwn (s' := { s with gone := goneTo s c.ring c.ring.length, away := s.away + Mu33.brass c }) (fs := putF "brass_gone" (.int (((s.away : Nat) : Int) + ((Mu33.brass c : Nat) : Int))) A.fs) (q := A.ax) (by rw [putF_len S3.faway]; exact S3.len) (by rw [lk_ne (by decide +kernel)]; exact S3.fnew) (by rw [lk_ne (by decide +kernel)]; exact S3.fwidths) (by rw [lk_ne (by decide +kernel)]; exact S3.fpainted) (by rw [lk_ne (by decide +kernel)]; exact S3.fstock) (by rw [lk_ne (by decide +kernel)]; exact S3.fstrips) (by rw [lk_ne (by decide +kernel)]; exact S3.flanterns) (by rw [lk_ne (by decide +kernel)]; exact S3.fmade) (by rw [lk_ne (by decide +kernel)]; exact S3.fgone) (by rw [lk_ne (by decide +kernel)]; exact S3.fcome) (by rw [lk_ne (by decide +kernel)]; exact S3.fscrap) (by rw [lk_put]; rfl) S3.hx (.inl rfl) rfl rfl rfl rfl
      have F3 : Frame (foot a A) H H3 := F2.trans (.same (F := foot a A) s3) fun x hx => .inl hx
      have F4 : Frame (foot a A) H (upd H3 a (.ins C A.dx (putF "brass_gone" (.int (((s.away : Nat) : Int) + ((Mu33.brass c : Nat) : Int))) A.fs))) := F3.trans (frame_upd (F := foot a A) foot_a fun _ z => by cases z) fun x hx => .inl hx
      have T4 : Tabs T (upd H3 a (.ins C A.dx (putF "brass_gone" (.int (((s.away : Nat) : Int) + ((Mu33.brass c : Nat) : Int))) A.fs))) := tabs_upd (T2.ext s3) S3.ob (fun _ z => by cases z) fun _ z => by cases z
      refine ⟨_, rfl, a, C, _, _, _, rfl, S4.ob, X.cl, X.lanterns, S4.flanterns, A.ad, rfl, isD S4.hd, _, rfl, _, Sum.inl ((c.id : Nat) : Int), .ref l, S4.hd, rfl, kvs_at G.ids hj hl, ?_⟩
      have eg : (Mu33.sold s c).gone = goneTo s c.ring c.ring.length := by
        unfold Mu33.sold goneTo
        simp only [List.take_length]
      have S5 := S4.dropLan (s' := Mu33.sold s c) G.ids hj rfl rfl rfl rfl rfl rfl rfl rfl rfl eg
      have T5 := tabs_upd (o := .dK (dropK (kvsOf s.lanterns A.las) (Sum.inl ((c.id : Nat) : Int)))) T4 S4.hd (fun _ z => by cases z) fun _ z => by cases z
      have F5 : Frame (foot a A) H _ := F4.trans (frame_upd (F := foot a A) (o := .dK (dropK (kvsOf s.lanterns A.las) (Sum.inl ((c.id : Nat) : Int)))) foot_d fun _ z => by cases z) fun x hx => .inl hx
      obtain ⟨⟨dl4, fs4, f1, f2, f3, f4, f5⟩, f6⟩ := S4.lan j c l r hj hl hr'
      refine ⟨_, rfl, l, CL, dl4, _, _, rfl, by rw [upd_ne (ins_ne_dK f1 S4.hd)]; exact f1, X.lcl, X.oil, f5, by show 1 ≤ sizeLine; decide, fun p hp => ?_⟩
      refine q _ _ p (S5.same (same_upd hp)) (F5.trans (.same (F := foot a A) (same_upd hp)) fun x hx => .inl hx) (fun b hb => .inl (foot_drop (fs := []) hb)) (T5.ext (same_upd hp)) (F5.live p (.none hp)) ?_
      rw [upd_same]
      rfl
end
end LR

namespace LR
open PySem PySem.Spec PyProof.Rows L2 LamX
/-- what glass tells of the first n sorts -/
def glassTo (s : Mu33.State) (n : Nat) : List Nat := (List.range n).flatMap fun k => [s.stock.getD k 0, Mu33.standing s k, s.gone.getD k 0]
theorem glassTo_more (s : Mu33.State) (n : Nat) : glassTo s (n + 1) = glassTo s n ++ [s.stock.getD n 0, Mu33.standing s n, s.gone.getD n 0] := by
  unfold glassTo
  rw [List.range_succ, List.flatMap_append]
  simp
theorem glassTo_len (s : Mu33.State) : ∀ n, (glassTo s n).length = 3 * n
  | 0 => rfl
  | n + 1 => by
    rw [glassTo_more, List.length_append, glassTo_len s n]
    show 3 * n + 3 = _
    omega
section
variable {P : Program} {w : World} {K : PySem.W.Frag} {mg : Str → Option Value} {base : Heap} {C CL : Addr} {T : List (Addr × Str)}
/-! ### tell_glass -/
abbrev sGlass : Stmt := top 17
abbrev NGlass : List Str := ["shop", "told", "sort", "there", "in_lanterns", "lantern"]
theorem scGlass : FnScope NGlass ["shop"] (defScope sGlass) := ⟨rfl, rfl, rfl, by decide +kernel, rfl, by decide +kernel, by decide +kernel⟩
def spGlass (C CL : Addr) (T : List (Addr × Str)) : Sp := fun vs H Q _ => ∃ a : Addr, vs = [.ref a] ∧ Does C CL T H Q a .glass
theorem cal_glass (B : Bl mg) (X : Txl K mg C CL) (D : Df K mg "tell_glass" sGlass) (c1 : Cal P w K mg base 1 "standing" ["shop"] (spStanding C CL)) : Cal P w K mg base 2 "tell_glass" ["shop"] (spGlass C CL T) := by
  obtain ⟨f, fd, F, m⟩ := D
  refine ⟨f, fd, ?_, m, F.kp, F.binds fun _ _ _ _ _ _ us hl => match us, hl with | [_], _ => rfl⟩
  refine F.ok scGlass (fun vs H Q E h => by obtain ⟨a, rfl, _⟩ := h; rfl) (fun cdv A outer s H vs Q E hr h => ?_)
  refine ⟨_, pss_cons (ps_set (i := 1) scGlass.nd rfl (Or.inl rfl) (pe_lst pa_nil))
    (pss_cons (ps_for PassesOwn.never rfl (pi_enum (by rfl) B.enumerate (pa_cons (pe_fld (pv 0) rfl) pa_nil)) (pg_tup rfl (pgs_cons (pg_name (i := 2) scGlass.nd rfl (Or.inr rfl)) (pgs_cons (pg_name (i := 3) scGlass.nd rfl (Or.inl rfl)) pgs_nil)))
      (pss_cons (ps_set (i := 4) scGlass.nd rfl (Or.inl rfl) (pe_callB (cr_sum rfl) (by rfl) B.sum (by decide +kernel) (pa_cons (pe_lc (own := [("lantern", 5)]) (g := gName 5) (tt := tYes) (te := tBM K "list" (rCntI K) (tFld K (tVar 5) "ring") (tCons (tVar 2) tNil)) rfl scGlass.nd (pi_list (pe_cal c1 hr rfl (pa_cons (pv 0) pa_nil))) (blkOk_by (own := [("lantern", 5)]) (N := NGlass) (sc := defScope sGlass) (by decide +kernel))
          (fun _ _ _ _ _ => pg_name (i := 5) scGlass.nd rfl (Or.inl rfl)) (fun _ _ _ _ _ => pts_nil) (fun _ _ _ _ _ => pe_bm PySem.F.plainAttrs_list PySem.F.slot_list_count PySem.F.type_list_count mt_lcount (pe_fld (pv 5) rfl) (pa_cons (pv 2) pa_nil))) pa_nil)))
      (pss_one (ps_expr (pe_bm PySem.F.plainAttrs_list PySem.F.slot_list_extend PySem.F.type_list_extend mt_extend (pv 1) (pa_cons (pe_lst (pa_cons (pv 3) (pa_cons (pv 4) (pa_cons (pe_ix ix_list (pe_fld (pv 0) rfl) (pv 2) (fun _ _ => rfl)) pa_nil)))) pa_nil))))))
    (pss_one (ps_ret (pv 1)))), ?_⟩
  obtain ⟨a, rfl, s, A, s', ans, SA, G, hT, hs, q⟩ := h
  unfold Mu33.step at hs
  dsimp only at hs
  cases hs
  have h6 := G.six
  have h4 := G.sort4
  have zl : (Z s.stock).length = s.sorts.length := by rw [List.length_map, G.stock]
  refine ⟨by decide, fun t ht => ?_⟩
  have S0 := SA.same (same_upd (o := .lst []) ht)
  refine ⟨_, rfl, a, C, _, _, _, rfl, S0.ob, X.cl, X.stock, S0.fstock, A.ak, _, rfl, SqL.of S0.hk, for_it (walk_enum (K := K) (a := A.ak) (xs := Z s.stock)) (fun n σ H' => ∃ v2 v3 v4 v5 : Option V, σ = [some (.ref a), some (.ref t), v2, v3, v4, v5] ∧ Same H H' ∧ H' t = some (.lst (Z (glassTo s n)))) ⟨none, none, none, none, rfl, same_upd ht, upd_same⟩ ?_ ?_ ?_⟩
  · rintro n σ H' hn ⟨v2, v3, v4, v5, rfl, s1, _⟩
    exact SqL.of (SA.same s1).hk
  · rintro n x σ H1 H2 hn ⟨v2, v3, v4, v5, rfl, s1, ht1⟩ ⟨u, y, z, rfl, hu, rfl, ey, ez⟩
    cases ey
    obtain ⟨b, hb, rfl⟩ := Z_get ez
    have eb : s.stock.getD n 0 = b := by rw [List.getD_eq_getElem?_getD, hb]; rfl
    have hns : n < s.sorts.length := by rw [← zl]; exact hn
    have hng : n < s.gone.length := by rw [G.gone]; exact hns
    have eg : s.gone[n]? = some (s.gone.getD n 0) := by rw [List.getElem?_eq_getElem hng, List.getD_eq_getElem?_getD, List.getElem?_eq_getElem hng]; rfl
    have s2 := s1.trans (same_upd (o := .tup [.int (n : Nat), .int b]) hu)
    have ht2 : upd H1 u (.tup [.int (n : Nat), .int b]) t = some (.lst (Z (glassTo s n))) := (same_upd hu) _ _ ht1
    refine ⟨u, _, rfl, .inl (.inl upd_same), rfl, _, _, rfl, _, _, rfl, rfl, ?_⟩
    refine ⟨_, rfl, a, s, A, rfl, SA.same s2, G, fun H3 p s3 hp hp3 => ⟨p, rfl, ⟨_, SqL.of hp3⟩, fun D hD => lc_map (K := K) (a := p) (xs := RF A.las) (Z (s.lanterns.map fun c => Mu33.count n c.ring)) hD (SqL.of hp3) (by simp [SA.ll]) (by rw [List.length_map, SA.ll]; omega) (fun x => rfl) ?_ fun H4 s4 hD4 => ?_⟩⟩
    · intro i x y H' Q' hx hy s4 k'
      obtain ⟨l, hl, rfl⟩ := RF_get hx
      obtain ⟨k, hk, rfl⟩ := Z_get hy
      rw [List.getElem?_map] at hk
      cases hc : s.lanterns[i]? with
      | none => rw [hc] at hk; cases hk
      | some c =>
        rw [hc] at hk
        cases hk
        obtain ⟨l', r, hl', hr', ⟨⟨dl, fs, e1, e2, e3, e4, e5⟩, e6⟩⟩ := (SA.same (s2.trans (s3.trans s4))).lanAt hc
        rw [hl] at hl'
        cases hl'
        refine ⟨_, rfl, l, CL, dl, _, _, rfl, e1, X.lcl, X.ring, e4, .inl ⟨rfl, _, SqL.of e6⟩, _, rfl, r, ZI c.ring, _, rfl, rfl, by rw [← Z_ZI]; exact SqL.of e6, ?_⟩
        rw [count_ZI]
        exact k' H' (Same.refl _)
    · have e : (ZI (s.lanterns.map fun c => Mu33.count n c.ring)).sum = ((Mu33.standing s n : Nat) : Int) := by
        unfold Mu33.standing
        rw [total_sum]
        exact sum_cast _
      have s5 := s2.trans (s3.trans s4)
      have S5 := SA.same s5
      have ht5 := s4 _ _ (s3 _ _ ht2)
      refine ⟨D, ZI (s.lanterns.map fun c => Mu33.count n c.ring), rfl, by rw [← Z_ZI]; exact SqL.of hD4, ?_⟩
      rw [e]
      refine ⟨_, rfl, .inl ⟨rfl, _, SqL.of ht5⟩, _, rfl, _, rfl, _, rfl, a, C, _, _, _, rfl, S5.ob, X.cl, X.panes_gone, S5.fgone, _, rfl, A.ag, _, _, _, rfl, rfl, SqL.of S5.hg, atI_nat (Z_at eg), by show 3 ≤ sizeLine; decide, fun v hv => ?_⟩
      have s6 := same_upd (o := .lst [V.int (b : Nat), V.int ((Mu33.standing s n : Nat) : Int), V.int ((s.gone.getD n 0 : Nat) : Int)]) hv
      refine ⟨t, v, _, _, rfl, rfl, s6 _ _ ht5, upd_same, ?_, _, _, _, _, rfl, fun b o e => ?_, ?_⟩
      · rw [List.length_map, glassTo_len]
        show 3 * n + 3 ≤ sizeLine
        rw [sizeLine_eq]
        omega
      · rw [upd_ne (ne_of_none e ht)]
        exact s6 _ _ (s5 _ _ e)
      · rw [upd_same, glassTo_more, eb]
        unfold Z
        rw [List.map_append]
        rfl
  · rintro σ H2 ⟨v2, v3, v4, v5, rfl, s2, ht2⟩
    rw [zl] at ht2
    refine ⟨_, rfl, q.ans SA hT H2 t s2 ht ?_⟩
    rw [ht2, ← Z_ZV]
    rfl
end
end LR

namespace LR
open PySem PySem.Spec PyProof.Rows L2 LamX
/-- whether a pane of the sort k does at the place j -/
def mendBy (s : Mu33.State) (l : List Nat) (j k : Nat) : Bool := decide (Mu33.width s k = Mu33.width s (l.getD j 0)) && (decide (1 ≤ s.stock.getD k 0) && (Mu33.dark s (l.set j k)).isNone)
theorem foot_set {a b r' : Addr} {A : Ad} {j : Nat} (h : b ∈ foot a { A with ras := A.ras.set j r' }) : b ∈ foot a A ∨ b = r' := by
  have h' : b ∈ a :: A.aw :: A.ap :: A.ak :: A.ax :: A.ad :: A.ag :: (A.las ++ A.ras.set j r') := h
  simp only [foot, List.mem_cons, List.mem_append] at h' ⊢
  rcases h' with h | h | h | h | h | h | h | h | h
  · exact .inl (.inl h)
  · exact .inl (.inr (.inl h))
  · exact .inl (.inr (.inr (.inl h)))
  · exact .inl (.inr (.inr (.inr (.inl h))))
  · exact .inl (.inr (.inr (.inr (.inr (.inl h)))))
  · exact .inl (.inr (.inr (.inr (.inr (.inr (.inl h))))))
  · exact .inl (.inr (.inr (.inr (.inr (.inr (.inr (.inl h)))))))
  · exact .inl (.inr (.inr (.inr (.inr (.inr (.inr (.inr (.inl h))))))))
  · rcases List.mem_or_eq_of_mem_set h with z | z
    · exact .inl (.inr (.inr (.inr (.inr (.inr (.inr (.inr (.inr z))))))))
    · exact .inr z
section
variable {P : Program} {w : World} {K : PySem.W.Frag} {mg : Str → Option Value} {base : Heap} {C CL : Addr} {T : List (Addr × Str)}
/-! ### can_mend -/
abbrev sCanM : Stmt := top 58
abbrev NCanM : List Str := ["shop", "ring", "place", "sort", "mended"]
theorem scCanM : FnScope NCanM ["shop", "ring", "place", "sort"] (defScope sCanM) := ⟨rfl, rfl, rfl, by decide +kernel, rfl, by decide +kernel, by decide +kernel⟩
def spCanM (K : PySem.W.Frag) (C : Addr) : Sp := fun vs H Q _ => ∃ (a r : Addr) (s : Mu33.State) (l : List Nat) (j k : Nat), vs = [.ref a, .ref r, .int j, .int k] ∧ ShopR C H a s ∧ SqL K H r (Z l) ∧ RingOk s l ∧ j < l.length ∧ k < s.sorts.length ∧ ∀ H', Same H H' → Q (.bl (mendBy s l j k)) H'
theorem cal_canM (X : Txs K C) (D : Df K mg "can_mend" sCanM) (c1 : Cal P w K mg base 1 "dark_place" ["shop", "ring"] (spDark K C)) : Cal P w K mg base 2 "can_mend" ["shop", "ring", "place", "sort"] (spCanM K C) := by
  obtain ⟨f, fd, F, m⟩ := D
  refine ⟨f, fd, ?_, m, F.kp, F.binds fun _ _ _ _ _ _ us hl => match us, hl with | [_, _, _, _], _ => rfl⟩
  refine F.ok scCanM (fun vs H Q E h => by obtain ⟨a, r, s, l, j, k, rfl, _⟩ := h; rfl) (fun cdv A outer s H vs Q E hr h => ?_)
  refine ⟨_, pss_cons (ps_if (PW.pt (pw_or (pt_cmpR op_eq (pe_ix ix_list (pe_fld (pv 0) rfl) (pv 3) (fun _ _ => rfl)) pe_int (nomark _)) (pw_or1 (pt_cmpR op_ne (pe_ix ix_list (pe_fld (pv 0) rfl) (pv 3) (fun _ _ => rfl)) (pe_ix ix_list (pe_fld (pv 0) rfl) (pe_ix ix_list (pv 1) (pv 2) (fun _ _ => rfl)) (fun _ _ => rfl)) (nomark _))))) (pss_one (ps_ret pe_bl)) pss_nil)
    (pss_cons (ps_set (i := 4) scCanM.nd rfl (Or.inl rfl) (pe_op op_cat (pe_op op_cat (pe_slice sl_list (pv 1) po_none (po_some (pv 2))) (pe_lst (pa_cons (pv 3) pa_nil))) (pe_slice sl_list (pv 1) (po_some (pe_op op_add (pv 2) pe_int)) po_none)))
    (pss_one (ps_ret (pe_cmp (pc_isN (pe_cal c1 hr rfl (pa_cons (pv 0) (pa_cons (pv 4) pa_nil)))) rfl)))), ?_⟩
  obtain ⟨a, r, s, l, j, k, rfl, SR, hl, hR, hj, hk, kont⟩ := h
  have SR0 := SR
  obtain ⟨⟨dx, fs, aw, ap, ak, h1, h2, h3, h4, h5, h6, h7⟩, r1, r2, r3⟩ := SR
  have hlen : (Z l).length = l.length := List.length_map ..
  have h10 := hR.few
  have gj := getD_at hj
  have gk : s.stock[k]? = some (s.stock.getD k 0) := getD_at (by rw [r1]; exact hk)
  have hlj := hR.there _ (List.mem_of_getElem? gj)
  refine ⟨_, rfl, a, C, dx, _, _, rfl, h1, X.cl, X.stock, h4, _, rfl, ak, _, _, _, rfl, rfl, SqL.of h7, atI_nat (Z_at gk), rfl, _, rfl, ?_⟩
  by_cases c0 : s.stock.getD k 0 = 0
  · have ed : decide (V.int ((s.stock.getD k 0 : Nat) : Int) = V.int 0) = true := by rw [c0]; exact decide_eq_true rfl
    rw [ed]
    refine iteT (iteT ?_)
    have e2 : mendBy s l j k = false := by
      unfold mendBy
      rw [c0]
      simp
    rw [e2] at kont
    exact kont H (Same.refl _)
  · have ed : decide (V.int ((s.stock.getD k 0 : Nat) : Int) = V.int 0) = false := decide_eq_false fun z => by
      injection z with z
      omega
    rw [ed]
    refine iteF ⟨_, rfl, a, C, dx, _, _, rfl, h1, X.cl, X.widths, h2, _, rfl, aw, _, _, _, rfl, rfl, SqL.of h5, atI_nat (Z_at (Wl_get hk)), _, rfl, a, C, dx, _, _, rfl, h1, X.cl, X.widths, h2, _, rfl, _, rfl, r, _, _, _, rfl, rfl, hl, atI_nat (Z_at gj), aw, _, _, _, rfl, rfl, SqL.of h5, atI_nat (Z_at (Wl_get hlj)), rfl, _, rfl, ?_⟩
    by_cases cw : Mu33.width s k = Mu33.width s (l.getD j 0)
    · have ew : decide (V.int ((Mu33.width s k : Nat) : Int) = V.int ((Mu33.width s (l.getD j 0) : Nat) : Int)) = true := by rw [cw]; exact decide_eq_true rfl
      rw [ew]
      refine iteF ⟨_, rfl, _, rfl, _, rfl, r, _, rfl, hl, fun u hu => ?_⟩
      rw [cut_to (Z l) (by rw [hlen]; omega)] at *
      refine ⟨_, rfl, by show 1 ≤ sizeLine; decide, fun t ht => ?_⟩
      have nut : u ≠ t := ne_of_none (upd_same (H := H) (a := u)) ht
      refine ⟨u, t, _, _, rfl, rfl, by rw [upd_ne nut]; exact upd_same, upd_same, ?_, fun x hx => ?_⟩
      · rw [List.length_take, hlen, sizeLine_eq]
        show min j l.length + 1 ≤ _
        omega
      have s3 : Same H (upd (upd (upd H u (.lst ((Z l).take j))) t (.lst [V.int ((k : Nat) : Int)])) x (.lst ((Z l).take j ++ [V.int ((k : Nat) : Int)]))) := ((same_upd hu).trans (same_upd ht)).trans (same_upd hx)
      refine ⟨_, rfl, _, rfl, _, _, rfl, rfl, _, rfl, r, _, rfl, s3.seq hl, fun y hy => ?_⟩
      have ej : ((j : Nat) : Int) + 1 = ((j + 1 : Nat) : Int) := by omega
      rw [ej, cut_from (Z l) (by rw [hlen]; omega)]
      have nxy : x ≠ y := ne_of_none (upd_same (H := upd (upd H u (.lst ((Z l).take j))) t (.lst [V.int ((k : Nat) : Int)])) (a := x)) hy
      refine ⟨x, y, _, _, rfl, rfl, by rw [upd_ne nxy]; exact upd_same, upd_same, ?_, fun z hz => ?_⟩
      · rw [List.length_append, List.length_take, List.length_drop, hlen, sizeLine_eq]
        show min j l.length + 1 + _ ≤ _
        omega
      have s4 := s3.trans ((same_upd (o := .lst ((Z l).drop (j + 1))) hy).trans (same_upd (o := .lst ((Z l).take j ++ [V.int ((k : Nat) : Int)] ++ (Z l).drop (j + 1))) hz))
      have ez : (Z l).take j ++ [V.int ((k : Nat) : Int)] ++ (Z l).drop (j + 1) = Z (l.set j k) := by
        rw [← set_slices hj]
        unfold Z
        rw [List.map_append, List.map_append, List.map_take, List.map_drop]
        rfl
      refine ⟨_, rfl, _, rfl, a, z, s, l.set j k, rfl, SR0.same s4, SqL.of (by rw [upd_same, ez]), ⟨by rw [List.length_set]; exact h10, fun q hq => ?_⟩, ?_⟩
      · rcases List.mem_or_eq_of_mem_set hq with z | z
        · exact hR.there q z
        · rw [z]
          exact hk
      · have e2 : mendBy s l j k = (Mu33.dark s (l.set j k)).isNone := by
          unfold mendBy
          rw [decide_eq_true cw, decide_eq_true (show 1 ≤ s.stock.getD k 0 by omega), Bool.true_and, Bool.true_and]
        exact qeq (congrArg V.bl ((oV_non _).trans e2.symm)) (kont _ s4)
    · have ew : decide (V.int ((Mu33.width s k : Nat) : Int) = V.int ((Mu33.width s (l.getD j 0) : Nat) : Int)) = false := decide_eq_false fun z => by
        injection z with z
        omega
      rw [ew]
      refine iteT ?_
      have e2 : mendBy s l j k = false := by
        unfold mendBy
        rw [decide_eq_false cw, Bool.false_and]
      rw [e2] at kont
      exact kont H (Same.refl _)
/-! ### mending_sort -/
abbrev sMendS : Stmt := top 57
abbrev NMendS : List Str := ["shop", "ring", "place", "sort"]
theorem scMendS : FnScope NMendS ["shop", "ring", "place"] (defScope sMendS) := ⟨rfl, rfl, rfl, by decide +kernel, rfl, by decide +kernel, by decide +kernel⟩
def spMendS (K : PySem.W.Frag) (C : Addr) : Sp := fun vs H Q _ => ∃ (a r : Addr) (s : Mu33.State) (l : List Nat) (j : Nat), vs = [.ref a, .ref r, .int j] ∧ ShopR C H a s ∧ SqL K H r (Z l) ∧ RingOk s l ∧ j < l.length ∧ ∀ H', Same H H' → Q (oV ((List.range s.sorts.length).find? (mendBy s l j))) H'
theorem cal_mendS (B : Bl mg) (X : Txs K C) (D : Df K mg "mending_sort" sMendS) (c1 : Cal P w K mg base 2 "can_mend" ["shop", "ring", "place", "sort"] (spCanM K C)) : Cal P w K mg base 3 "mending_sort" ["shop", "ring", "place"] (spMendS K C) := by
  obtain ⟨f, fd, F, m⟩ := D
  refine ⟨f, fd, ?_, m, F.kp, F.binds fun _ _ _ _ _ _ us hl => match us, hl with | [_, _, _], _ => rfl⟩
  refine F.ok scMendS (fun vs H Q E h => by obtain ⟨a, r, s, l, j, rfl, _⟩ := h; rfl) (fun cdv A outer s H vs Q E hr h => ?_)
  refine ⟨_, pss_cons (ps_for PassesOwn.never rfl (pi_range1 rfl B.range (pa_cons (pe_callB call_len_seq (by rfl) B.len PySem.boot_len (pa_cons (pe_fld (pv 0) rfl) pa_nil)) pa_nil)) (pg_name (i := 3) scMendS.nd rfl (Or.inl rfl))
      (pss_one (ps_if (pt_val (pe_cal c1 hr rfl (pa_cons (pv 0) (pa_cons (pv 1) (pa_cons (pv 2) (pa_cons (pv 3) pa_nil)))))) (pss_one (ps_ret (pv 3))) pss_nil)))
    (pss_one (ps_ret pe_non)), ?_⟩
  obtain ⟨a, r, s, l, j, rfl, SR, hl, hR, hj, kont⟩ := h
  have SR0 := SR
  obtain ⟨⟨dx, fs, aw, ap, ak, h1, h2, h3, h4, h5, h6, h7⟩, r1, r2, r3⟩ := SR
  have zl : (Z s.stock).length = s.sorts.length := by rw [List.length_map, r1]
  refine ⟨_, rfl, a, C, dx, _, _, rfl, h1, X.cl, X.stock, h4, ak, _, rfl, .inl (SqL.of h7), _, rfl, by rw [zl]; omega, by rw [zl]; omega, ?_⟩
  have e0 : (((Z s.stock).length : Nat) : Int).toNat = s.sorts.length := by rw [zl]; rfl
  rw [e0]
  refine for_range (lo := 0) (n := s.sorts.length) (fun i σ H' => Same H H' ∧ (∀ q, q < i → mendBy s l j q = false) ∧ ∃ v3 : Option V, σ = [some (.ref a), some (.ref r), some (.int (j : Nat)), v3]) ⟨Same.refl _, fun q hq => absurd hq (by omega), none, rfl⟩ ?_ ?_
  · rintro i σ H1 hi ⟨s1, no, v3, rfl⟩
    have ei : (0 : Int) + (i : Int) = ((i : Nat) : Int) := by omega
    refine ⟨_, rfl, _, rfl, _, rfl, _, rfl, a, r, s, l, j, i, by rw [ei]; rfl, SR0.same s1, s1.seq hl, hR, hj, hi, fun H2 s2 => ⟨_, rfl, ?_⟩⟩
    cases c : mendBy s l j i with
    | true =>
      refine iteT ⟨_, rfl, ?_⟩
      rw [ei]
      have e := kont H2 (s1.trans s2)
      rw [find_range_some hi c no] at e
      exact e
    | false =>
      refine iteF ⟨s1.trans s2, fun q hq => ?_, _, rfl⟩
      by_cases e : q = i
      · rw [e]
        exact c
      · exact no q (by omega)
  · rintro σ H1 ⟨s1, no, v3, rfl⟩
    have e := kont H1 s1
    rw [find_range_none no] at e
    exact e
/-! ### mend_lantern -/
abbrev sMend : Stmt := top 56
abbrev NMend : List Str := ["shop", "number", "place", "lantern", "sort"]
theorem scMend : FnScope NMend ["shop", "number", "place"] (defScope sMend) := ⟨rfl, rfl, rfl, by decide +kernel, rfl, by decide +kernel, by decide +kernel⟩
def spMend (C CL : Addr) (T : List (Addr × Str)) : Sp := fun vs H Q _ => ∃ (a : Addr) (i j : Nat), vs = [.ref a, .int i, .int j] ∧ Does C CL T H Q a (.mend i j)
theorem cal_mend (B : Bl mg) (X : Txl K mg C CL) (D : Df K mg "mend_lantern" sMend) (c1 : Cal P w K mg base 3 "mending_sort" ["shop", "ring", "place"] (spMendS K C)) : Cal P w K mg base 4 "mend_lantern" ["shop", "number", "place"] (spMend C CL T) := by
  obtain ⟨f, fd, F, m⟩ := D
  refine ⟨f, fd, ?_, m, F.kp, F.binds fun _ _ _ _ _ _ us hl => match us, hl with | [_, _, _], _ => rfl⟩
  refine F.ok scMend (fun vs H Q E h => by obtain ⟨a, i, j, rfl, _⟩ := h; rfl) (fun cdv A outer s H vs Q E hr h => ?_)
  have hu : (A.deeper (envOfC "mend_lantern" (defScope sMend) s.heap.objs.size f cdv)).units + 1 < cLine := by
    have := hr.un
    omega
  refine ⟨_, pss_cons (ps_set (i := 3) scMend.nd rfl (Or.inl rfl) (pe_dget1 hu (pe_fld (pv 0) rfl) (pv 1) ⟨rfl, rfl, rfl, rfl⟩))
    (pss_cons (ps_if (pt_cmp (pc_isN (pv 3))) (pss_one (ps_ret (pe_lst (pa_cons (pe_un un_neg pe_int) pa_nil)))) pss_nil)
    (pss_cons (ps_if (pt_cmpR op_ge (pv 2) (pe_callB call_len_seq (by rfl) B.len PySem.boot_len (pa_cons (pe_fld (pv 3) rfl) pa_nil)) (nomark _)) (pss_one (ps_ret (pe_lst (pa_cons (pe_un un_neg pe_int) pa_nil)))) pss_nil)
    (pss_cons (ps_set (i := 4) scMend.nd rfl (Or.inl rfl) (pe_cal c1 hr rfl (pa_cons (pv 0) (pa_cons (pe_fld (pv 3) rfl) (pa_cons (pv 2) pa_nil)))))
    (pss_cons (ps_if (pt_cmp (pc_isN (pv 4))) (pss_one (ps_ret (pe_lst (pa_cons (pe_un un_neg pe_int) pa_nil)))) pss_nil)
    (pss_cons (ps_augS (pe_fld (pv 0) rfl) (pe_ix ix_list (pe_fld (pv 3) rfl) (pv 2) (fun _ _ => rfl)) get_list pe_int ip_add set_list)
    (pss_cons (ps_augS (pe_fld (pv 0) rfl) (pv 4) get_list pe_int ip_sub set_list)
    (pss_cons (ps_asg (pv 4) (pg_sub (pe_fld (pv 3) rfl) (pv 2) set_list))
    (pss_one (ps_ret (pe_lst (pa_cons (pv 4) pa_nil))))))))))), ?_⟩
  obtain ⟨a, i, j, rfl, s, A, s', ans, SA, G, hT, hs, q⟩ := h
  unfold Mu33.step at hs
  dsimp only at hs
  refine ⟨_, rfl, a, C, _, _, _, rfl, SA.ob, X.cl, X.lanterns, SA.flanterns, A.ad, rfl, isD SA.hd, _, rfl, ?_⟩
  cases hf : Mu33.find s i with
  | none =>
    rw [hf] at hs
    cases hs
    refine ⟨none, get_no SA hf, _, rfl, true, rfl, iteT ⟨_, rfl, by show 1 ≤ sizeLine; decide, ans1 (q.ans SA hT)⟩⟩
  | some c =>
    rw [hf] at hs
    dsimp only at hs
    obtain ⟨n, hn, hi⟩ := find_at hf
    subst hi
    obtain ⟨l, r, hl, hr', LA⟩ := SA.lanAt hn
    have LO := G.lan c (List.mem_of_getElem? hn)
    have h6 := LO.ring6
    refine ⟨some (.ref l), get_lan SA G hn rfl hl, _, rfl, false, rfl, iteF ?_⟩
    obtain ⟨⟨dl, fs, e1, e2, e3, e4, e5⟩, e6⟩ := LA
    have zl : (Z c.ring).length = c.ring.length := List.length_map ..
    refine ⟨_, rfl, _, rfl, l, CL, dl, _, _, rfl, e1, X.lcl, X.ring, e4, r, _, rfl, .inl (SqL.of e6), _, _, rfl, rfl, _, rfl, ?_⟩
    rw [zl]
    by_cases c1 : c.ring.length ≤ j
    · rw [if_pos c1] at hs
      cases hs
      rw [decide_eq_true (show ((c.ring.length : Nat) : Int) ≤ (j : Nat) by omega)]
      exact iteT ⟨_, rfl, by show 1 ≤ sizeLine; decide, ans1 (q.ans SA hT)⟩
    · rw [if_neg c1] at hs
      rw [decide_eq_false (show ¬ ((c.ring.length : Nat) : Int) ≤ (j : Nat) by omega)]
      have hj : j < c.ring.length := by omega
      refine iteF ⟨_, rfl, _, rfl, l, CL, dl, _, _, rfl, e1, X.lcl, X.ring, e4, _, rfl, a, r, s, c.ring, j, rfl, SA.toR G, SqL.of e6, ⟨by omega, LO.there⟩, hj, fun H1 s1 => ?_⟩
      have em : (List.range s.sorts.length).find? (mendBy s c.ring j) = Mu33.mender s c j := rfl
      rw [em]
      cases hm : Mu33.mender s c j with
      | none =>
        rw [hm] at hs
        cases hs
        refine ⟨_, rfl, true, rfl, iteT ⟨_, rfl, by show 1 ≤ sizeLine; decide, fun p hp => ?_⟩⟩
        exact q.ans SA hT _ p (s1.trans (same_upd hp)) (s1.free hp) upd_same
      | some k =>
        rw [hm] at hs
        cases hs
        have hk : k < s.sorts.length := mender_lt hm
        have hk1 : 1 ≤ s.stock.getD k 0 := by
          have z := List.find?_some (p := mendBy s c.ring j) (em.trans hm)
          unfold mendBy at z
          simp only [Bool.and_eq_true, decide_eq_true_eq] at z
          exact z.2.1
        have S1 := SA.same s1
        obtain ⟨⟨dl1, fs1, f1, f2, f3, f4, f5⟩, f6⟩ := S1.lan n c l r hn hl hr'
        have gj := getD_at hj
        have hlj := LO.there _ (List.mem_of_getElem? gj)
        have gg : s.gone[c.ring.getD j 0]? = some (s.gone.getD (c.ring.getD j 0) 0) := getD_at (by rw [G.gone]; exact hlj)
        have gk : s.stock[k]? = some (s.stock.getD k 0) := getD_at (by rw [G.stock]; exact hk)
        refine ⟨_, rfl, false, rfl, iteF ?_⟩
        refine ⟨_, rfl, a, C, _, _, _, rfl, S1.ob, X.cl, X.panes_gone, S1.fgone, _, rfl, l, CL, dl1, _, _, rfl, f1, X.lcl, X.ring, f4, _, rfl, r, _, _, _, rfl, rfl, SqL.of f6, atI_nat (Z_at gj), A.ag, _, _, _, rfl, rfl, SqL.of S1.hg, atI_nat (Z_at gg), _, _, rfl, rfl, A.ag, _, _, c.ring.getD j 0, rfl, rfl, S1.hg, ixN_nat (by rw [List.length_map, G.gone]; exact hlj), ?_⟩
        have ez : (Z s.gone).set (c.ring.getD j 0) (V.int (((s.gone.getD (c.ring.getD j 0) 0 : Nat) : Int) + 1)) = Z (s.gone.set (c.ring.getD j 0) (s.gone.getD (c.ring.getD j 0) 0 + 1)) := by
          unfold Z
          rw [List.map_set]
          rfl
        rw [ez]
        have S2 := S1.putGone (s' := { s with gone := s.gone.set (c.ring.getD j 0) (s.gone.getD (c.ring.getD j 0) 0 + 1) }) rfl rfl rfl rfl rfl rfl rfl rfl rfl
        have F1 : Frame (foot a A) H H1 := .same s1
        have F2 : Frame (foot a A) H (upd H1 A.ag (.lst (Z (s.gone.set (c.ring.getD j 0) (s.gone.getD (c.ring.getD j 0) 0 + 1))))) := F1.trans (frame_upd (F := foot a A) foot_g fun _ z => by cases z) fun x hx => .inl hx
        have T2 : Tabs T (upd H1 A.ag (.lst (Z (s.gone.set (c.ring.getD j 0) (s.gone.getD (c.ring.getD j 0) 0 + 1))))) := tabs_lst (hT.ext s1) S1.hg
        generalize upd H1 A.ag (.lst (Z (s.gone.set (c.ring.getD j 0) (s.gone.getD (c.ring.getD j 0) 0 + 1)))) = H2 at S2 F2 T2 ⊢
        refine ⟨_, rfl, a, C, _, _, _, rfl, S2.ob, X.cl, X.stock, S2.fstock, _, rfl, A.ak, _, _, _, rfl, rfl, SqL.of S2.hk, atI_nat (Z_at gk), _, _, rfl, rfl, A.ak, _, _, k, rfl, rfl, S2.hk, ixN_nat (by rw [List.length_map]; show k < s.stock.length; rw [G.stock]; exact hk), ?_⟩
        have ez2 : (Z s.stock).set k (V.int (((s.stock.getD k 0 : Nat) : Int) - 1)) = Z (s.stock.set k (s.stock.getD k 0 - 1)) := by
          unfold Z
          rw [List.map_set]
          congr 1
          show V.int _ = V.int _
          congr 1
          omega
        have ez2' : (Z ({ s with gone := s.gone.set (c.ring.getD j 0) (s.gone.getD (c.ring.getD j 0) 0 + 1) } : Mu33.State).stock).set k (V.int (((s.stock.getD k 0 : Nat) : Int) - 1)) = Z (s.stock.set k (s.stock.getD k 0 - 1)) := ez2
        rw [ez2']
        have S3 := S2.putStock (s' := { s with stock := s.stock.set k (s.stock.getD k 0 - 1), gone := s.gone.set (c.ring.getD j 0) (s.gone.getD (c.ring.getD j 0) 0 + 1) }) rfl rfl rfl rfl rfl rfl rfl rfl rfl
        have F3 : Frame (foot a A) H (upd H2 A.ak (.lst (Z (s.stock.set k (s.stock.getD k 0 - 1))))) := F2.trans (frame_upd (F := foot a A) foot_k fun _ z => by cases z) fun x hx => .inl hx
        have T3 : Tabs T (upd H2 A.ak (.lst (Z (s.stock.set k (s.stock.getD k 0 - 1))))) := tabs_lst T2 S2.hk
        have S3 : ShopAt C CL (upd H2 A.ak (.lst (Z (s.stock.set k (s.stock.getD k 0 - 1))))) a { s with stock := s.stock.set k (s.stock.getD k 0 - 1), gone := s.gone.set (c.ring.getD j 0) (s.gone.getD (c.ring.getD j 0) 0 + 1) } A := S3
        generalize upd H2 A.ak (.lst (Z (s.stock.set k (s.stock.getD k 0 - 1)))) = H3 at S3 F3 T3 ⊢
        obtain ⟨⟨dl3, fs3, g1, g2, g3, g4, g5⟩, g6⟩ := S3.lan n c l r hn hl hr'
        refine ⟨_, rfl, _, rfl, l, CL, dl3, _, _, rfl, g1, X.lcl, X.ring, g4, _, rfl, r, _, _, j, rfl, rfl, g6, ixN_nat (by rw [zl]; exact hj), ?_⟩
        have ez3 : (Z c.ring).set j (V.int ((k : Nat) : Int)) = Z (c.ring.set j k) := by
          unfold Z
          rw [List.map_set]
        have ez3' : (Z c.ring).set j (oV (some k)) = Z (c.ring.set j k) := ez3
        rw [ez3']
        have nlr : l ≠ r := (lst_ne_ins g6 g1).symm
        have S4 := S3.setLan (s' := Mu33.mended s c j k) (H' := upd H3 r (.lst (Z (c.ring.set j k)))) (c' := { c with ring := c.ring.set j k }) (r' := r) hn hl hr' (fun b _ _ nb => upd_ne nb) ⟨⟨dl3, fs3, by rw [upd_ne nlr]; exact g1, g2, g3, g4, g5⟩, upd_same⟩ rfl (.inl rfl) rfl rfl rfl rfl rfl (put_set G.ids hn rfl) rfl rfl rfl rfl
        have F4 : Frame (foot a A) H (upd H3 r (.lst (Z (c.ring.set j k)))) := F3.trans (frame_upd (F := foot a A) (foot_ras (List.mem_of_getElem? hr')) fun _ z => by cases z) fun x hx => .inl hx
        have T4 : Tabs T (upd H3 r (.lst (Z (c.ring.set j k)))) := tabs_lst T3 g6
        refine ⟨_, rfl, by show 1 ≤ sizeLine; decide, fun p hp => ?_⟩
        refine q _ _ p (S4.same (same_upd hp)) (F4.trans (.same (F := foot a A) (same_upd hp)) fun x hx => .inl hx) (fun b hb => ?_) (T4.ext (same_upd hp)) (F4.live p (.none hp)) ?_
        · rcases foot_set hb with z | z
          · exact .inl z
          · rw [z]
            exact .inl (foot_ras (List.mem_of_getElem? hr'))
        · rw [upd_same]
          rfl
end
end LR

namespace LR
open PySem PySem.Spec PyProof.Rows L2 LamX
theorem set_same {α : Type} {l : List α} {n : Nat} {x : α} (h : l[n]? = some x) : l.set n x = l := by
  refine List.ext_getElem? fun k => ?_
  rw [List.getElem?_set]
  by_cases c : n = k
  · subst c
    rw [if_pos rfl, if_pos (List.getElem?_eq_some_iff.mp h).1, h]
  · rw [if_neg c]
theorem ad_same {A : Ad} {n : Nat} {r : Addr} (h : A.ras[n]? = some r) : ({ A with ras := A.ras.set n r } : Ad) = A := by
  rw [set_same h]
section
variable {C CL : Addr} {H : Hp} {a : Addr} {s : Mu33.State} {A : Ad}
/-- one lantern's oil changes -/
theorem ShopAt.putOil (x : ShopAt C CL H a s A) {s' : Mu33.State} {n : Nat} {c : Mu33.Lantern} {l r dl : Addr} {fs : List (Str × V)} {v : Nat} (hc : s.lanterns[n]? = some c) (hl : A.las[n]? = some l) (hr : A.ras[n]? = some r) (e : H l = some (.ins CL dl fs))
    (e1 : s'.new = s.new) (e2 : s'.sorts = s.sorts) (e3 : s'.stock = s.stock) (e4 : s'.strips = s.strips) (e5 : s'.next = s.next) (e6 : s'.lanterns = s.lanterns.set n { c with has := v }) (e7 : s'.bought = s.bought) (e8 : s'.scrap = s.scrap) (e9 : s'.away = s.away) (e10 : s'.gone = s.gone) :
    ShopAt C CL (upd H l (.ins CL dl (putF "oil" (.int ((v : Nat) : Int)) fs))) a s' A := by
  obtain ⟨⟨dl2, fs2, g1, g2, g3, g4, g5⟩, g6⟩ := x.lan n c l r hc hl hr
  rw [e] at g1
  cases g1
  have nlr : r ≠ l := lst_ne_ins g6 e
  have S := x.setLan (s' := s') (H' := upd H l (.ins CL dl (putF "oil" (.int ((v : Nat) : Int)) fs))) (c' := { c with has := v }) (r' := r) hc hl hr (fun b _ nb _ => upd_ne nb) ⟨⟨dl, _, upd_same, by rw [putF_len g5]; exact g2, by rw [lk_ne (by decide +kernel)]; exact g3, by rw [lk_ne (by decide +kernel)]; exact g4, lk_put⟩, by rw [upd_ne nlr]; exact g6⟩ rfl (.inl rfl) e1 e2 e3 e4 e5 e6 e7 e8 e9 e10
  rw [ad_same hr] at S
  exact S
end
/-- the lanterns when the first n have burnt -/
def dryTo (s : Mu33.State) (n : Nat) : List Mu33.Lantern := (s.lanterns.take n).map (fun c => { c with has := c.has - Mu33.thirst s c }) ++ s.lanterns.drop n
theorem dryTo_zero (s : Mu33.State) : dryTo s 0 = s.lanterns := rfl
theorem dryTo_all (s : Mu33.State) : dryTo s s.lanterns.length = (Mu33.dry s).lanterns := by
  unfold dryTo
  rw [List.take_length, List.drop_length, List.append_nil]
  rfl
theorem dryTo_at {s : Mu33.State} {n : Nat} {c : Mu33.Lantern} (h : s.lanterns[n]? = some c) : (dryTo s n)[n]? = some c := by
  have hn := (List.getElem?_eq_some_iff.mp h).1
  unfold dryTo
  rw [List.getElem?_append_right (by rw [List.length_map, List.length_take]; omega), List.length_map, List.length_take, List.getElem?_drop]
  rw [show n + (n - min n s.lanterns.length) = n by omega]
  exact h
theorem dryTo_more {s : Mu33.State} {n : Nat} {c : Mu33.Lantern} (h : s.lanterns[n]? = some c) : (dryTo s n).set n { c with has := c.has - Mu33.thirst s c } = dryTo s (n + 1) := by
  have hn := (List.getElem?_eq_some_iff.mp h).1
  unfold dryTo
  rw [List.set_append, if_neg (by rw [List.length_map, List.length_take]; omega), List.length_map, List.length_take, take_more h, List.map_append, List.append_assoc]
  congr 1
  rw [show n - min n s.lanterns.length = 0 by omega]
  have ed : s.lanterns.drop n = c :: s.lanterns.drop (n + 1) := by
    rw [List.drop_eq_getElem_cons hn]
    congr 1
    rw [List.getElem?_eq_getElem hn] at h
    exact Option.some.inj h
  rw [ed]
  rfl
def burntTo (s : Mu33.State) (n : Nat) : Nat := ((s.lanterns.take n).map fun c => Mu33.thirst s c).sum
theorem burntTo_more {s : Mu33.State} {n : Nat} {c : Mu33.Lantern} (h : s.lanterns[n]? = some c) : burntTo s (n + 1) = burntTo s n + Mu33.thirst s c := by
  unfold burntTo
  rw [take_more h, List.map_append, List.sum_append]
  simp
section
variable {P : Program} {w : World} {K : PySem.W.Frag} {mg : Str → Option Value} {base : Heap} {C CL : Addr} {T : List (Addr × Str)}
/-! ### fill_lantern -/
abbrev sFill : Stmt := top 61
abbrev NFill : List Str := ["shop", "number", "n", "lantern"]
theorem scFill : FnScope NFill ["shop", "number", "n"] (defScope sFill) := ⟨rfl, rfl, rfl, by decide +kernel, rfl, by decide +kernel, by decide +kernel⟩
def spFill (C CL : Addr) (T : List (Addr × Str)) : Sp := fun vs H Q _ => ∃ (a : Addr) (i n : Nat), vs = [.ref a, .int i, .int n] ∧ Does C CL T H Q a (.fill i n)
theorem cal_fill (X : Txl K mg C CL) (D : Df K mg "fill_lantern" sFill) (c1 : Cal P w K mg base 1 "oil_when_full" ["lantern"] (spFull CL)) : Cal P w K mg base 2 "fill_lantern" ["shop", "number", "n"] (spFill C CL T) := by
  obtain ⟨f, fd, F, m⟩ := D
  refine ⟨f, fd, ?_, m, F.kp, F.binds fun _ _ _ _ _ _ us hl => match us, hl with | [_, _, _], _ => rfl⟩
  refine F.ok scFill (fun vs H Q E h => by obtain ⟨a, i, n, rfl, _⟩ := h; rfl) (fun cdv A outer s H vs Q E hr h => ?_)
  have hu : (A.deeper (envOfC "fill_lantern" (defScope sFill) s.heap.objs.size f cdv)).units + 1 < cLine := by
    have := hr.un
    omega
  refine ⟨_, pss_cons (ps_set (i := 3) scFill.nd rfl (Or.inl rfl) (pe_dget1 hu (pe_fld (pv 0) rfl) (pv 1) ⟨rfl, rfl, rfl, rfl⟩))
    (pss_cons (ps_if (pt_cmp (pc_isN (pv 3))) (pss_one (ps_ret (pe_lst (pa_cons (pe_un un_neg pe_int) pa_nil)))) pss_nil)
    (pss_cons (ps_if (pt_cmpR op_gt (pe_op op_add (pe_fld (pv 3) rfl) (pv 2)) (pe_cal c1 hr rfl (pa_cons (pv 3) pa_nil)) (nomark _)) (pss_one (ps_ret (pe_lst (pa_cons (pe_un un_neg pe_int) pa_nil)))) pss_nil)
    (pss_cons (ps_fldaug (pv 3) (pv 2) in_add)
    (pss_one (ps_ret (pe_lst (pa_cons (pe_fld (pv 3) rfl) pa_nil))))))), ?_⟩
  obtain ⟨a, i, n, rfl, s, A, s', ans, SA, G, hT, hs, q⟩ := h
  unfold Mu33.step at hs
  dsimp only at hs
  refine ⟨_, rfl, a, C, _, _, _, rfl, SA.ob, X.cl, X.lanterns, SA.flanterns, A.ad, rfl, isD SA.hd, _, rfl, ?_⟩
  cases hf : Mu33.find s i with
  | none =>
    rw [hf] at hs
    cases hs
    refine ⟨none, get_no SA hf, _, rfl, true, rfl, iteT ⟨_, rfl, by show 1 ≤ sizeLine; decide, ans1 (q.ans SA hT)⟩⟩
  | some c =>
    rw [hf] at hs
    dsimp only at hs
    obtain ⟨j, hj, hi⟩ := find_at hf
    subst hi
    obtain ⟨l, r, hl, hr', LA⟩ := SA.lanAt hj
    have LA0 := LA
    have LO := G.lan c (List.mem_of_getElem? hj)
    refine ⟨some (.ref l), get_lan SA G hj rfl hl, _, rfl, false, rfl, iteF ?_⟩
    obtain ⟨⟨dl, fs, e1, e2, e3, e4, e5⟩, e6⟩ := LA
    refine ⟨_, rfl, l, CL, dl, _, _, rfl, e1, X.lcl, X.oil, e5, _, rfl, _, _, rfl, rfl, _, rfl, l, r, c, rfl, LA0, LO.girth60, _, _, rfl, rfl, _, rfl, ?_⟩
    by_cases c1 : Mu33.room c < c.has + n
    · rw [if_pos c1] at hs
      cases hs
      rw [decide_eq_true (show ((Mu33.room c : Nat) : Int) < ((c.has : Nat) : Int) + (n : Nat) by omega)]
      exact iteT ⟨_, rfl, by show 1 ≤ sizeLine; decide, ans1 (q.ans SA hT)⟩
    · rw [if_neg c1] at hs
      cases hs
      rw [decide_eq_false (show ¬ ((Mu33.room c : Nat) : Int) < ((c.has : Nat) : Int) + (n : Nat) by omega)]
      refine iteF ⟨_, rfl, l, CL, dl, _, _, rfl, e1, X.lcl, X.oil, e5, _, rfl, _, _, rfl, rfl, _, _, e1, Nat.lt_of_le_of_lt e2 (by decide), ?_⟩
      have S1 := SA.putOil (s' := Mu33.put s { c with has := c.has + n }) (v := c.has + n) hj hl hr' e1 rfl rfl rfl rfl rfl (put_set G.ids hj rfl) rfl rfl rfl rfl
      have F1 : Frame (foot a A) H (upd H l (.ins CL dl (putF "oil" (.int ((c.has + n : Nat) : Int)) fs))) := frame_upd (foot_las (List.mem_of_getElem? hl)) fun _ z => by cases z
      have T1 : Tabs T (upd H l (.ins CL dl (putF "oil" (.int ((c.has + n : Nat) : Int)) fs))) := tabs_upd hT e1 (fun _ z => by cases z) fun _ z => by cases z
      refine ⟨_, rfl, l, CL, dl, _, _, rfl, upd_same, X.lcl, X.oil, lk_put, by show 1 ≤ sizeLine; decide, fun p hp => ?_⟩
      refine q _ A p (S1.same (same_upd hp)) (F1.trans (.same (F := foot a A) (same_upd hp)) fun x hx => .inl hx) (fun b hb => .inl hb) (T1.ext (same_upd hp)) (F1.live p (.none hp)) ?_
      rw [upd_same]
      rfl
/-! ### burnt_in_a_night -/
abbrev sBurnt : Stmt := top 63
abbrev NBurnt : List Str := ["shop", "lantern", "painted", "sort"]
theorem scBurnt : FnScope NBurnt ["shop", "lantern"] (defScope sBurnt) := ⟨rfl, rfl, rfl, by decide +kernel, rfl, by decide +kernel, by decide +kernel⟩
def spBurnt (C CL : Addr) : Sp := fun vs H Q _ => ∃ (a l r : Addr) (s : Mu33.State) (c : Mu33.Lantern), vs = [.ref a, .ref l] ∧ ShopR C H a s ∧ LanAt CL H l r c ∧ c.ring.length ≤ 6 ∧ (∀ k ∈ c.ring, k < s.sorts.length) ∧ ∀ H', Same H H' → Q (.int ((Mu33.thirst s c : Nat) : Int)) H'
theorem cal_burnt (B : Bl mg) (X : Txl K mg C CL) (D : Df K mg "burnt_in_a_night" sBurnt) (g1 : Gn mg "BURNT_PART" 50) : Cal P w K mg base 1 "burnt_in_a_night" ["shop", "lantern"] (spBurnt C CL) := by
  obtain ⟨f, fd, F, m⟩ := D
  refine ⟨f, fd, ?_, m, F.kp, F.binds fun _ _ _ _ _ _ us hl => match us, hl with | [_, _], _ => rfl⟩
  refine F.ok scBurnt (fun vs H Q E h => by obtain ⟨a, l, r, s, c, rfl, _⟩ := h; rfl) (fun cdv A outer s H vs Q E hr h => ?_)
  refine ⟨_, pss_cons (ps_set (i := 2) scBurnt.nd rfl (Or.inl rfl) (pe_callB (cr_sum rfl) (by rfl) B.sum (by decide +kernel) (pa_cons (pe_lc (own := [("sort", 3)]) (g := gName 3) (tt := tYes) (te := tOp (rIxL K) (tFld K (tVar 0) "painted") (tVar 3)) rfl scBurnt.nd (pi_list (pe_fld (pv 1) rfl)) (blkOk_by (own := [("sort", 3)]) (N := NBurnt) (sc := defScope sBurnt) (by decide +kernel))
      (fun _ _ _ _ _ => pg_name (i := 3) scBurnt.nd rfl (Or.inl rfl)) (fun _ _ _ _ _ => pts_nil) (fun _ _ _ _ _ => pe_ix ix_list (pe_fld (pv 0) rfl) (pv 3) (fun _ _ => rfl))) pa_nil)))
    (pss_one (ps_ret (pe_callB (call_min2 rfl) (by rfl) B.min (by decide +kernel) (pa_cons (pe_op op_add (pv 2) (pe_op op_fdivNN (pe_fld (pv 1) rfl) (pe_gn g1 rfl))) (pa_cons (pe_fld (pv 1) rfl) pa_nil))))), ?_⟩
  obtain ⟨a, l, r, s, c, rfl, SR, LA, h6, hth, k⟩ := h
  obtain ⟨⟨dx, fs, aw, ap, ak, h1, h2, h3, h4, h5, hP, h7⟩, r1, r2, r3⟩ := SR
  obtain ⟨⟨dl, fl, e1, e2, e3, e4, e5⟩, e6⟩ := LA
  refine ⟨_, rfl, l, CL, dl, _, _, rfl, e1, X.lcl, X.ring, e4, r, rfl, ⟨_, SqL.of e6⟩, fun D hD => lc_map (K := K) (a := r) (xs := Z c.ring) (Z (c.ring.map fun k => b01 (Mu33.painted s k))) hD (SqL.of e6) (by simp) (by rw [List.length_map]; omega) (fun x => rfl) ?_ fun H1 s1 hD1 => ?_⟩
  · intro i x y H' Q' hx hy s1 k'
    obtain ⟨n, hn, rfl⟩ := Z_get hx
    have ey : y = .int ((b01 (Mu33.painted s n) : Nat) : Int) := by
      rw [List.getElem?_map, List.getElem?_map, hn] at hy
      exact (Option.some.inj hy).symm
    rw [ey] at k'
    exact ⟨_, rfl, a, C, dx, _, _, rfl, s1 _ _ h1, X.cl, X.painted, h3, _, rfl, ap, _, _, _, rfl, rfl, SqL.of (s1 _ _ hP), atI_nat (Z_at (Pl_get (hth n (List.mem_of_getElem? hn)))), k' H' (Same.refl _)⟩
  · have e : (ZI (c.ring.map fun k => b01 (Mu33.painted s k))).sum = (((c.ring.filter fun k => Mu33.painted s k).length : Nat) : Int) := by
      rw [← painted_sum]
      exact sum_cast _
    refine ⟨D, ZI (c.ring.map fun k => b01 (Mu33.painted s k)), rfl, by rw [← Z_ZI]; exact SqL.of hD1, ?_⟩
    rw [e]
    refine ⟨_, rfl, _, rfl, l, CL, dl, _, _, rfl, s1 _ _ e1, X.lcl, X.oil, e5, c.has, 50, rfl, rfl, ⟨by omega, by omega⟩, _, _, rfl, rfl, _, rfl, l, CL, dl, _, _, rfl, s1 _ _ e1, X.lcl, X.oil, e5, _, _, rfl, ?_⟩
    refine qeq (congrArg V.int ?_) (k H1 s1)
    unfold Mu33.thirst
    by_cases z : ((c.has : Nat) : Int) < (((c.ring.filter fun k => Mu33.painted s k).length : Nat) : Int) + ((c.has / 50 : Nat) : Int)
    · rw [if_pos z]
      omega
    · rw [if_neg z]
      omega
/-! ### burn_night -/
abbrev sNight : Stmt := top 62
abbrev NNight : List Str := ["shop", "burnt", "lantern", "burns"]
theorem scNight : FnScope NNight ["shop"] (defScope sNight) := ⟨rfl, rfl, rfl, by decide +kernel, rfl, by decide +kernel, by decide +kernel⟩
def spNight (C CL : Addr) (T : List (Addr × Str)) : Sp := fun vs H Q _ => ∃ a : Addr, vs = [.ref a] ∧ Does C CL T H Q a .night
theorem cal_night (X : Txl K mg C CL) (D : Df K mg "burn_night" sNight) (c1 : Cal P w K mg base 1 "standing" ["shop"] (spStanding C CL)) (c2 : Cal P w K mg base 1 "burnt_in_a_night" ["shop", "lantern"] (spBurnt C CL)) : Cal P w K mg base 2 "burn_night" ["shop"] (spNight C CL T) := by
  obtain ⟨f, fd, F, m⟩ := D
  refine ⟨f, fd, ?_, m, F.kp, F.binds fun _ _ _ _ _ _ us hl => match us, hl with | [_], _ => rfl⟩
  refine F.ok scNight (fun vs H Q E h => by obtain ⟨a, rfl, _⟩ := h; rfl) (fun cdv A outer s H vs Q E hr h => ?_)
  refine ⟨_, pss_cons (ps_set (i := 1) scNight.nd rfl (Or.inl rfl) pe_int)
    (pss_cons (ps_for PassesOwn.never rfl (pi_list (pe_cal c1 hr rfl (pa_cons (pv 0) pa_nil))) (pg_name (i := 2) scNight.nd rfl (Or.inl rfl))
      (pss_cons (ps_set (i := 3) scNight.nd rfl (Or.inl rfl) (pe_cal c2 hr rfl (pa_cons (pv 0) (pa_cons (pv 2) pa_nil))))
      (pss_cons (ps_fldaug (pv 2) (pv 3) in_sub)
      (pss_one (ps_aug (i := 1) scNight.nd rfl (Or.inl rfl) (pv 3) ip_add)))))
    (pss_one (ps_ret (pe_lst (pa_cons (pv 1) pa_nil))))), ?_⟩
  obtain ⟨a, rfl, s, A, s', ans, SA, G, hT, hs, q⟩ := h
  unfold Mu33.step at hs
  dsimp only at hs
  cases hs
  refine ⟨_, rfl, a, s, A, rfl, SA, G, fun H1 p s1 hp hp1 => ⟨p, rfl, ⟨_, SqL.of hp1⟩, ?_⟩⟩
  have npF : p ∉ foot a A := SA.out (.none hp)
  have S1 := SA.same s1
  refine for_list (K := K) (a := p) (xs := RF A.las) (fun n σ H' => ∃ v2 v3 : Option V, σ = [some (.ref a), some (.int ((burntTo s n : Nat) : Int)), v2, v3] ∧ ShopAt C CL H' a { s with lanterns := dryTo s n } A ∧ Frame (foot a A) H1 H' ∧ Tabs T H')
    ⟨none, none, rfl, S1, .refl, hT.ext s1⟩ (fun n σ H' _ h => by
      obtain ⟨_, _, _, _, F2, _⟩ := h
      exact SqL.of (F2.keep p _ hp1 npF fun _ z => by cases z)) ?_ ?_
  · rintro n x σ H2 hx ⟨v2, v3, rfl, S2, F2, T2⟩
    obtain ⟨l, hl, rfl⟩ := RF_get hx
    have hn : n < s.lanterns.length := by
      have := (List.getElem?_eq_some_iff.mp hl).1
      rw [← SA.ll]
      exact this
    have hc := List.getElem?_eq_getElem hn
    obtain ⟨l', r, hl', hr', LA⟩ := S2.lanAt (dryTo_at hc)
    rw [hl] at hl'
    cases hl'
    have LO := G.lan _ (List.mem_of_getElem? hc)
    have SR : ShopR C H2 a { s with lanterns := dryTo s n } := ⟨⟨A.dx, A.fs, A.aw, A.ap, A.ak, S2.ob, S2.fwidths, S2.fpainted, S2.fstock, S2.hw, S2.hp, S2.hk⟩, G.stock, G.sort4, fun y hy => (G.wide y hy).2⟩
    refine ⟨_, rfl, _, rfl, a, l, r, { s with lanterns := dryTo s n }, s.lanterns[n], rfl, SR, LA, LO.ring6, LO.there, fun H3 s3 => ?_⟩
    have et : Mu33.thirst { s with lanterns := dryTo s n } s.lanterns[n] = Mu33.thirst s s.lanterns[n] := rfl
    rw [et]
    have S3 := S2.same s3
    obtain ⟨⟨dl, fl, e1, e2, e3, e4, e5⟩, e6⟩ := LA.keep (fun o e => s3 _ _ e) fun o e => s3 _ _ e
    have tle := thirst_le s s.lanterns[n]
    refine ⟨_, rfl, l, CL, dl, _, _, rfl, e1, X.lcl, X.oil, e5, _, rfl, _, _, rfl, rfl, _, _, e1, Nat.lt_of_le_of_lt e2 (by decide), ?_⟩
    have ev : ((s.lanterns[n].has : Nat) : Int) - ((Mu33.thirst s s.lanterns[n] : Nat) : Int) = ((s.lanterns[n].has - Mu33.thirst s s.lanterns[n] : Nat) : Int) := by omega
    rw [ev]
    have S4 := S3.putOil (s' := { s with lanterns := dryTo s (n + 1) }) (v := s.lanterns[n].has - Mu33.thirst s s.lanterns[n]) (dryTo_at hc) hl hr' e1 rfl rfl rfl rfl rfl (dryTo_more hc).symm rfl rfl rfl rfl
    refine ⟨_, rfl, _, rfl, _, _, rfl, rfl, some (.ref l), some (.int ((Mu33.thirst s s.lanterns[n] : Nat) : Int)), ?_, S4, (F2.trans (.same (F := foot a A) s3) fun x hx => .inl hx).trans (frame_upd (F := foot a A) (foot_las (List.mem_of_getElem? hl)) fun _ z => by cases z) (fun x hx => .inl hx), tabs_upd (T2.ext s3) e1 (fun _ z => by cases z) fun _ z => by cases z⟩
    rw [burntTo_more hc]
    rfl
  · rintro σ H2 ⟨v2, v3, rfl, S2, F2, T2⟩
    have el : (RF A.las).length = s.lanterns.length := by rw [List.length_map, SA.ll]
    rw [el, dryTo_all] at S2
    rw [el]
    have S2 : ShopAt C CL H2 a (Mu33.dry s) A := S2
    have F02 : Frame (foot a A) H H2 := (Frame.same (F := foot a A) s1).trans F2 fun x hx => .inl hx
    refine ⟨_, rfl, by show 1 ≤ sizeLine; decide, fun u hu => ?_⟩
    refine q _ A u (S2.same (same_upd hu)) (F02.trans (.same (F := foot a A) (same_upd hu)) fun x hx => .inl hx) (fun b hb => .inl hb) (T2.ext (same_upd hu)) (F02.live u (.none hu)) ?_
    rw [upd_same, burnt_eq]
    unfold burntTo
    rw [List.take_length]
    rfl
end
end LR

namespace LR
open PySem PySem.Spec PyProof.Rows L2 LamX
/-- what those hold that are full, of the first i -/
def heldTo (ho r : List Nat) (i : Nat) : List Nat := (((ho.zip r).take i).filter fun x => x.2 == 1).map fun x => x.1
theorem heldTo_more {ho r : List Nat} {i h b : Nat} (h1 : ho[i]? = some h) (h2 : r[i]? = some b) : heldTo ho r (i + 1) = if b = 1 then heldTo ho r i ++ [h] else heldTo ho r i := by
  have e : (ho.zip r)[i]? = some (h, b) := by
    rw [List.getElem?_zip_eq_some]
    exact ⟨h1, h2⟩
  unfold heldTo
  rw [take_more e, List.filter_append, List.map_append]
  by_cases c : b = 1
  · rw [if_pos c]
    simp [c]
  · rw [if_neg c]
    simp [c]
theorem heldTo_len (ho r : List Nat) (i : Nat) : (heldTo ho r i).length ≤ ho.length := by
  unfold heldTo
  rw [List.length_map]
  have z := List.length_filter_le (fun x : Nat × Nat => x.2 == 1) ((ho.zip r).take i)
  rw [List.length_take, List.length_zip] at z
  omega
theorem held_sum : ∀ ho r : List Nat, (((ho.zip r).filter fun x => x.2 == 1).map fun x => x.1).sum = heldIn ho r
  | [], r => by simp [heldIn]
  | _ :: _, [] => by simp [heldIn]
  | h :: ho, b :: r => by
    have ih := held_sum ho r
    unfold heldIn at *
    rw [List.zip_cons_cons, List.filter_cons, List.zipWith_cons_cons, List.sum_cons, ← ih]
    by_cases c : b = 1
    · simp [c]
    · simp [c]
theorem dec_one (b : Nat) : decide (V.int ((b : Nat) : Int) = V.int 1) = decide (b = 1) := decide_eq_decide.mpr ⟨fun z => by injection z with z; omega, fun z => by rw [z]; rfl⟩
section
variable {P : Program} {w : World} {K : PySem.W.Frag} {mg : Str → Option Value} {base : Heap} {C CL : Addr} {T : List (Addr × Str)}
/-! ### oil_in_full -/
abbrev sHeld : Stmt := top 65
abbrev NHeld : List Str := ["holds", "full", "held", "is_full"]
theorem scHeld : FnScope NHeld ["holds", "full"] (defScope sHeld) := ⟨rfl, rfl, rfl, by decide +kernel, rfl, by decide +kernel, by decide +kernel⟩
def spHeld (K : PySem.W.Frag) : Sp := fun vs H Q _ => ∃ (a b : Addr) (ho r : List Nat), vs = [.ref a, .ref b] ∧ SqL K H a (Z ho) ∧ SqL K H b (Z r) ∧ ho.length ≤ 6 ∧ r.length = ho.length ∧ ∀ H', Same H H' → Q (.int ((heldIn ho r : Nat) : Int)) H'
theorem cal_held (B : Bl mg) (D : Df K mg "oil_in_full" sHeld) : Cal P w K mg base 1 "oil_in_full" ["holds", "full"] (spHeld K) := by
  obtain ⟨f, fd, F, m⟩ := D
  refine ⟨f, fd, ?_, m, F.kp, F.binds fun _ _ _ _ _ _ us hl => match us, hl with | [_, _], _ => rfl⟩
  refine F.ok scHeld (fun vs H Q E h => by obtain ⟨a, b, ho, r, rfl, _⟩ := h; rfl) (fun cdv A outer s H vs Q E hr h => ?_)
  refine ⟨_, pss_one (ps_ret (pe_callB (cr_sum rfl) (by rfl) B.sum (by decide +kernel) (pa_cons (pe_lc (own := [("held", 2), ("is_full", 3)]) (g := gTup K 2 (gCons (gName 2) (gCons (gName 3) gNil))) (tt := tTest (tOp rEq (tVar 3) (tC (.int 1)))) (te := tVar 2) rfl scHeld.nd (pi_zip (by rfl) B.zip (pa_cons (pv 0) (pa_cons (pv 1) pa_nil))) (blkOk_by (own := [("held", 2), ("is_full", 3)]) (N := NHeld) (sc := defScope sHeld) (by decide +kernel))
      (fun _ _ _ _ _ => pg_tup rfl (pgs_cons (pg_name (i := 2) scHeld.nd rfl (Or.inl rfl)) (pgs_cons (pg_name (i := 3) scHeld.nd rfl (Or.inl rfl)) pgs_nil))) (fun _ _ _ _ _ => pts_one (pt_cmpR op_eq (pv 3) pe_int (nomark _))) (fun _ _ _ _ _ => pv 2)) pa_nil))), ?_⟩
  obtain ⟨a, b, ho, r, rfl, ha, hb, h6, hl, k⟩ := h
  refine ⟨_, rfl, _, rfl, a, b, _, _, rfl, ha, hb, fun D hD => lc_it (walk_zip (K := K) (a := a) (b := b) (xs := Z ho) (ys := Z r) (n := ho.length) (by simp; omega)) (fun i H' => Same H H' ∧ H' D = some (.lst (Z (heldTo ho r i)))) ⟨same_upd hD, upd_same⟩ (fun i H' _ q => ⟨q.1.seq ha, q.1.seq hb⟩) ?_ fun H1 q => ?_⟩
  · rintro i x H1 H2 hi ⟨s1, hD1⟩ ⟨t, y, z, rfl, ht, rfl, ey, ez⟩
    obtain ⟨h, hh, rfl⟩ := Z_get ey
    obtain ⟨b', hb', rfl⟩ := Z_get ez
    have s2 := same_upd (o := .tup [.int h, .int b']) ht
    refine ⟨t, _, rfl, .inl (.inl upd_same), rfl, _, _, rfl, _, _, rfl, rfl, rfl, _, rfl, rfl, _, rfl, ?_⟩
    have e := heldTo_more hh hb'
    show if decide (V.int ((b' : Nat) : Int) = V.int 1) = true then _ else _
    rw [dec_one]
    have hz := heldTo_len ho r i
    by_cases c : b' = 1
    · rw [decide_eq_true c]
      rw [if_pos c] at e
      refine iteT ⟨_, rfl, Z (heldTo ho r i), s2 _ _ hD1, by rw [List.length_map, sizeLine_eq]; omega, fun d o q => ?_, ?_⟩
      · rw [upd_ne (ne_of_none q hD)]
        exact s2 _ _ (s1 _ _ q)
      · rw [upd_same, e]
        unfold Z
        rw [List.map_append]
        rfl
    · rw [decide_eq_false c]
      rw [if_neg c] at e
      exact iteF ⟨s1.trans s2, by rw [e]; exact s2 _ _ hD1⟩
  · refine ⟨D, ZI (heldTo ho r ho.length), rfl, by rw [← Z_ZI]; exact SqL.of q.2, ?_⟩
    have e : (ZI (heldTo ho r ho.length)).sum = ((heldIn ho r : Nat) : Int) := by
      have e1 : heldTo ho r ho.length = ((ho.zip r).filter fun x => x.2 == 1).map fun x => x.1 := by
        unfold heldTo
        rw [List.take_of_length_le (by rw [List.length_zip]; omega)]
      rw [← held_sum, ← e1]
      exact sum_cast _
    rw [e]
    exact k H1 q.1
/-! ### shares_of -/
abbrev sShares : Stmt := top 67
abbrev NShares : List Str := ["holds", "full", "poured", "left", "shares", "held", "is_full"]
theorem scShares : FnScope NShares ["holds", "full", "poured"] (defScope sShares) := ⟨rfl, rfl, rfl, by decide +kernel, rfl, by decide +kernel, by decide +kernel⟩
def spShares (K : PySem.W.Frag) : Sp := fun vs H Q _ => ∃ (a b : Addr) (ho r : List Nat) (n : Nat), vs = [.ref a, .ref b, .int n] ∧ SqL K H a (Z ho) ∧ SqL K H b (Z r) ∧ ho.length ≤ 6 ∧ r.length = ho.length ∧ heldIn ho r ≤ n ∧
  ∀ (H' : Hp) (p : Addr), Same H H' → H p = none → H' p = some (.lst (Z (shares ho r (n - heldIn ho r)))) → Q (.ref p) H'
theorem shares_at {ho r : List Nat} {i h b n : Nat} (h1 : ho[i]? = some h) (h2 : r[i]? = some b) : shares (ho.drop i) (r.drop i) n = if b = 1 then h :: shares (ho.drop (i + 1)) (r.drop (i + 1)) n else n :: shares (ho.drop (i + 1)) (r.drop (i + 1)) 0 := by
  obtain ⟨a1, a2⟩ := List.getElem?_eq_some_iff.mp h1
  obtain ⟨b1, b2⟩ := List.getElem?_eq_some_iff.mp h2
  rw [List.drop_eq_getElem_cons a1, List.drop_eq_getElem_cons b1, a2, b2]
  rfl
theorem cal_shares (B : Bl mg) (D : Df K mg "shares_of" sShares) (c1 : Cal P w K mg base 1 "oil_in_full" ["holds", "full"] (spHeld K)) : Cal P w K mg base 2 "shares_of" ["holds", "full", "poured"] (spShares K) := by
  obtain ⟨f, fd, F, m⟩ := D
  refine ⟨f, fd, ?_, m, F.kp, F.binds fun _ _ _ _ _ _ us hl => match us, hl with | [_, _, _], _ => rfl⟩
  refine F.ok scShares (fun vs H Q E h => by obtain ⟨a, b, ho, r, n, rfl, _⟩ := h; rfl) (fun cdv A outer s H vs Q E hr h => ?_)
  refine ⟨_, pss_cons (ps_set (i := 3) scShares.nd rfl (Or.inl rfl) (pe_op op_sub (pv 2) (pe_cal c1 hr rfl (pa_cons (pv 0) (pa_cons (pv 1) pa_nil)))))
    (pss_cons (ps_set (i := 4) scShares.nd rfl (Or.inl rfl) (pe_lst pa_nil))
    (pss_cons (ps_for PassesOwn.never rfl (pi_zip (by rfl) B.zip (pa_cons (pv 0) (pa_cons (pv 1) pa_nil))) (pg_tup rfl (pgs_cons (pg_name (i := 5) scShares.nd rfl (Or.inl rfl)) (pgs_cons (pg_name (i := 6) scShares.nd rfl (Or.inl rfl)) pgs_nil)))
      (pss_one (ps_if (pt_cmpR op_eq (pv 6) pe_int (nomark _))
        (pss_one (ps_expr (pe_bm PySem.F.plainAttrs_list PySem.F.slot_list_append PySem.F.type_list_append mt_append (pv 4) (pa_cons (pv 5) pa_nil))))
        (pss_cons (ps_expr (pe_bm PySem.F.plainAttrs_list PySem.F.slot_list_append PySem.F.type_list_append mt_append (pv 4) (pa_cons (pv 3) pa_nil)))
          (pss_one (ps_set (i := 3) scShares.nd rfl (Or.inl rfl) pe_int))))))
    (pss_one (ps_ret (pv 4))))), ?_⟩
  obtain ⟨a, b, ho, r, n, rfl, ha, hb, h6, hl, hle, k⟩ := h
  refine ⟨_, rfl, _, rfl, _, rfl, a, b, ho, r, rfl, ha, hb, h6, hl, fun H1 s1 => ⟨_, _, rfl, rfl, by decide, fun t ht => ?_⟩⟩
  have ht0 : H t = none := s1.free ht
  have s2 := s1.trans (same_upd (o := .lst []) ht)
  have en : ((n : Nat) : Int) - ((heldIn ho r : Nat) : Int) = ((n - heldIn ho r : Nat) : Int) := by omega
  refine ⟨_, rfl, _, rfl, a, b, _, _, rfl, s2.seq ha, s2.seq hb, for_it (walk_zip (K := K) (a := a) (b := b) (xs := Z ho) (ys := Z r) (n := ho.length) (by simp; omega)) (fun i σ H' => ∃ (v5 v6 : Option V) (q : Nat) (acc : List Nat), σ = [some (.ref a), some (.ref b), some (.int (n : Nat)), some (.int ((q : Nat) : Int)), some (.ref t), v5, v6] ∧ Same H H' ∧
      H' t = some (.lst (Z acc)) ∧ acc.length = i ∧ shares ho r (n - heldIn ho r) = acc ++ shares (ho.drop i) (r.drop i) q) ⟨none, none, n - heldIn ho r, [], by rw [← en]; rfl, s2, upd_same, rfl, rfl⟩ ?_ ?_ ?_⟩
  · rintro i σ H' hi ⟨v5, v6, q, acc, rfl, s3, _⟩
    exact ⟨s3.seq ha, s3.seq hb⟩
  · rintro i x σ H2 H3 hi ⟨v5, v6, q, acc, rfl, s3, ht3, hal, hsh⟩ ⟨u, y, z, rfl, hu, rfl, ey, ez⟩
    obtain ⟨h, hh, rfl⟩ := Z_get ey
    obtain ⟨b', hb', rfl⟩ := Z_get ez
    have s4 := same_upd (o := .tup [.int h, .int b']) hu
    have ht4 := s4 _ _ ht3
    have e := shares_at (n := q) hh hb'
    refine ⟨u, _, rfl, .inl (.inl upd_same), rfl, _, _, rfl, _, _, rfl, rfl, ?_⟩
    refine ⟨_, rfl, rfl, _, rfl, ?_⟩
    show if decide (V.int ((b' : Nat) : Int) = V.int 1) = true then _ else _
    rw [dec_one]
    have kp : ∀ {v : V} (d : Addr) (o : HO), H d = some o → upd (upd H2 u (.tup [.int h, .int b'])) t (.lst (Z acc ++ [v])) d = some o := fun {v} d o q => by
      rw [upd_ne (ne_of_none q ht0)]
      exact s4 _ _ (s3 _ _ q)
    by_cases c : b' = 1
    · rw [decide_eq_true c]
      rw [if_pos c] at e
      refine iteT ⟨_, rfl, .inl ⟨rfl, _, SqL.of ht4⟩, _, rfl, t, _, _, rfl, rfl, ht4, by rw [List.length_map, sizeLine_eq]; omega, _, _, q, acc ++ [h], rfl, kp, ?_, by simp [hal], ?_⟩
      · rw [upd_same]
        unfold Z
        rw [List.map_append]
        rfl
      · rw [hsh, e, List.append_assoc]
        rfl
    · rw [decide_eq_false c]
      rw [if_neg c] at e
      refine iteF ⟨_, rfl, .inl ⟨rfl, _, SqL.of ht4⟩, _, rfl, t, _, _, rfl, rfl, ht4, by rw [List.length_map, sizeLine_eq]; omega, _, _, 0, acc ++ [q], rfl, kp, ?_, by simp [hal], ?_⟩
      · rw [upd_same]
        unfold Z
        rw [List.map_append]
        rfl
      · rw [hsh, e, List.append_assoc]
        rfl
  · rintro σ H2 ⟨v5, v6, q, acc, rfl, s3, ht3, hal, hsh⟩
    refine ⟨_, rfl, k H2 t s3 ht0 ?_⟩
    rw [ht3, hsh, List.drop_length, ← hl, List.drop_length]
    simp [shares]
end
end LR

namespace LR
open PySem PySem.Spec PyProof.Rows L2 LamX
/-! ### keys of ways as data -/
def dTop (ho r : List Nat) : PyData := .tuple [.int (r.sum : Nat), .int (heldIn ho r : Nat), dRow r]
theorem lt_top {ho a b : List Nat} (e : a.length = b.length) : PySem.W.dataLt (dTop ho a) (dTop ho b) = tlt ho a b := by
  unfold dTop
  rw [PySem.W.dataLt_tuple]
  have hrow := lt_rows e
  unfold dRow at hrow
  rw [PySem.W.dataLt_list] at hrow
  unfold dRow
  show ((false : Bool) || (!false && (decide (((a.sum : Nat) : Int) < (b.sum : Nat)) || (!decide (((b.sum : Nat) : Int) < (a.sum : Nat)) &&
    ((false : Bool) || (!false && (decide (((heldIn ho a : Nat) : Int) < (heldIn ho b : Nat)) || (!decide (((heldIn ho b : Nat) : Int) < (heldIn ho a : Nat)) &&
    ((false : Bool) || (!false && PyProof.Rows.lexLt PyProof.Rows.itemOrd (PySem.W.keyToksAll (a.map fun (n : Nat) => PyData.int n) ++ [.inl 0]) (PySem.W.keyToksAll (b.map fun (n : Nat) => PyData.int n) ++ [.inl 0])))))))))))  = tlt ho a b
  have e2 : PyProof.Rows.lexLt PyProof.Rows.itemOrd (PySem.W.keyToksAll (a.map fun (n : Nat) => PyData.int n) ++ [.inl 0]) (PySem.W.keyToksAll (b.map fun (n : Nat) => PyData.int n) ++ [.inl 0]) = Mu33.before a b := by
    clear hrow
    induction a generalizing b with
    | nil =>
      cases b with
      | nil => rfl
      | cons y b => simp at e
    | cons x a ih =>
      cases b with
      | nil => simp at e
      | cons y b =>
        have ih := ih (b := b) (by simpa using e)
        show ((false : Bool) || (!false && (decide ((x : Int) < y) || (!decide ((y : Int) < x) && PyProof.Rows.lexLt PyProof.Rows.itemOrd (PySem.W.keyToksAll (a.map fun (n : Nat) => PyData.int n) ++ [.inl 0]) (PySem.W.keyToksAll (b.map fun (n : Nat) => PyData.int n) ++ [.inl 0]))))) = (decide (x < y) || (x == y && Mu33.before a b))
        rw [ih]
        by_cases c1 : x < y
        · have c1' : (x : Int) < y := by omega
          simp [c1, c1']
        · by_cases c2 : y < x
          · have c3 : ¬ x = y := by omega
            simp [c1, c2, c3]
          · have c3 : x = y := by omega
            simp [c1, c2, c3]
  rw [e2]
  unfold tlt
  by_cases c1 : a.sum < b.sum
  · have c1' : ((a.sum : Nat) : Int) < (b.sum : Nat) := by omega
    simp [c1]
  · by_cases c2 : b.sum < a.sum
    · have c3 : ¬ a.sum = b.sum := by omega
      simp [c1, c2, c3]
    · have c3 : a.sum = b.sum := by omega
      by_cases d1 : heldIn ho a < heldIn ho b
      · simp [c3, d1]
      · by_cases d2 : heldIn ho b < heldIn ho a
        · have d3 : ¬ heldIn ho a = heldIn ho b := by omega
          simp [c3, d1, d2, d3]
        · have d3 : heldIn ho a = heldIn ho b := by omega
          simp [c3, d3]
theorem alike_tops (ho : List Nat) (rs : List (List Nat)) : PySem.W.AlikeAll (rs.map (dTop ho)) := by
  refine ⟨fun x hx y hy => ?_, fun x hx z => ?_⟩
  · obtain ⟨a, _, rfl⟩ := List.mem_map.mp hx
    obtain ⟨b, _, rfl⟩ := List.mem_map.mp hy
    show (true && (true && (PySem.W.alikeAll (a.map fun (n : Nat) => PyData.int n) (b.map fun (n : Nat) => PyData.int n) && true))) = true
    rw [alike_ints]
    rfl
  · obtain ⟨a, _, rfl⟩ := List.mem_map.mp hx
    cases z
theorem depth_top (ho p : List Nat) : (dTop ho p).depth = 2 := by
  show max 0 (max 0 (max (dRow p).depth 0)) + 1 = 2
  rw [depth_row]
  rfl
theorem depth_tops (ho : List Nat) : ∀ rs : List (List Nat), PyData.depthAll (rs.map (dTop ho)) ≤ 2
  | [] => by show 0 ≤ 2; decide
  | r :: rs => by
    show max (dTop ho r).depth (PyData.depthAll (rs.map (dTop ho))) ≤ 2
    rw [depth_top]
    have := depth_tops ho rs
    omega
theorem maxD_tops (ho : List Nat) : ∀ (xs : List (List Nat)) (x : List Nat), (∀ y ∈ xs, y.length = x.length) → PySem.W.maxD (dTop ho x) (xs.map (dTop ho)) = dTop ho (xs.foldl (fun m y => if tlt ho m y = true then y else m) x)
  | [], x, _ => rfl
  | y :: xs, x, hl => by
    have hy := hl y List.mem_cons_self
    show (xs.map (dTop ho)).foldl (fun a y => if PySem.W.dataLt a y = true then y else a) (if PySem.W.dataLt (dTop ho x) (dTop ho y) = true then dTop ho y else dTop ho x) = dTop ho (xs.foldl (fun m y => if tlt ho m y = true then y else m) (if tlt ho x y = true then y else x))
    rw [lt_top hy.symm]
    by_cases c : tlt ho x y = true
    · rw [if_pos c, if_pos c]
      exact maxD_tops ho xs y fun z hz => by rw [hl z (List.mem_cons_of_mem _ hz), hy]
    · rw [if_neg c, if_neg c]
      exact maxD_tops ho xs x fun z hz => hl z (List.mem_cons_of_mem _ hz)
theorem top_inj {ho a b : List Nat} (e : dTop ho a = dTop ho b) : a = b := by
  unfold dTop at e
  injection e with e
  injection e with _ e
  injection e with _ e
  injection e with e _
  have e3 := eqv_rows a b
  rw [e, eqv_rows] at e3
  simpa using e3
section
variable {P : Program} {w : World} {K : PySem.W.Frag} {mg : Str → Option Value} {base : Heap}
/-! ### full_ones -/
abbrev sFullO : Stmt := top 66
abbrev NFullO : List Str := ["holds", "poured", "ways", "row"]
theorem scFullO : FnScope NFullO ["holds", "poured"] (defScope sFullO) := ⟨rfl, rfl, rfl, by decide +kernel, rfl, by decide +kernel, by decide +kernel⟩
/-- the name of its lambda -/
def qFullO : Str := ("full_ones" ++ ".<locals>." : Str) ++ "<lambda>"
def spFullO (K : PySem.W.Frag) (T : List (Addr × Str)) : Sp := fun vs H Q _ => ∃ (a : Addr) (ls : List Mu33.Lantern) (n : Nat), vs = [.ref a, .int n] ∧ SqL K H a (Z (roomsOf ls)) ∧ ls.length ≤ 6 ∧ Tabs T H ∧
  ∀ (H' : Hp) (p : Addr), ExtN H H' → Tabs T H' → H p = none → H' p = some (.lst (Z (bits (Mu33.chosen ls n)))) → Q (.ref p) H'
theorem cal_fullO {T : List (Addr × Str)} {c Pt : Addr} (B : Bl mg) (hmx : mg "max" = none) (D : DfC K mg "full_ones" sFullO c) (TB : TabB base mg c Pt) (hT : (Pt, qFullO) ∈ T) (hu : ∀ q ∈ T, q.1 = Pt → q.2 = qFullO) (c1 : Cal P w K mg base 1 "all_rows" ["below", "length"] spRows) (c2 : Cal P w K mg base 1 "oil_in_full" ["holds", "full"] (spHeld K)) :
    Cal P w K mg base 4 "full_ones" ["holds", "poured"] (spFullO K T) := by
  obtain ⟨f, oc, od, an, kV, doc, pm, ct, osl, lk, hcd, kp, m⟩ := D
  refine ⟨f, _, ?_, m, kp, (fun_mk (st := sFullO) lk hcd kp).binds fun _ _ _ _ _ _ us hl => match us, hl with | [_, _], _ => rfl⟩
  refine fn_of lk hcd scFullO (fun vs H Q E h => by obtain ⟨a, ls, n, rfl, _⟩ := h; rfl) (fun A outer s H vs Q E hr h => ?_)
  have hr1 : Room 1 (A.deeper (envOfC "full_ones" (defScope sFullO) s.heap.objs.size f (.ref c))) := hr.mono (by decide)
  refine ⟨_, PSs.nox (pss_cons (ps_setLc (i := 2) (own := [("row", 3)]) (g := gName 3) (tt := tTest (tOp (rI0 fun i j => .bl (decide (i ≤ j))) (tCall (spHeld K) [] E0 (tCons (tVar 0) (tCons (tVar 3) tNil))) (tVar 1))) (te := tVar 3) rfl scFullO.nd rfl rfl (sw_true rfl rfl rfl (by decide +kernel))
      (pi_list (pe_cal c1 hr1 rfl (pa_cons pe_int (pa_cons (pe_callB call_len_seq (by rfl) B.len PySem.boot_len (pa_cons (pv 0) pa_nil)) pa_nil))))
      (blkOk_by (own := [("row", 3)]) (N := NFullO) (sc := defScope sFullO) (by decide +kernel)) (fun _ _ _ _ _ => pg_name (i := 3) scFullO.nd rfl (Or.inl rfl))
      (fun _ _ _ _ _ => pts_one (pt_cmpR op_le (pe_cal c2 hr1 rfl (pa_cons (pv 0) (pa_cons (pv 3) pa_nil))) (pv 1) (nomark _))) (fun _ _ _ _ _ => pv 3))
    (pss_one (ps_ret (pe_maxK (T := T) (k := 1) (i := 3) (p := "row") (tb := tTup (tCons (tCB (rSum K) (tCons (tVar 3) tNil)) (tCons (tCall (spHeld K) [] E0 (tCons (tVar 0) (tCons (tVar 3) tNil))) (tCons (tVar 3) tNil)))) rfl rfl hmx (pv 2) TB rfl hT hu hr (lam1_by (sc := defScope sFullO) (by decide +kernel)) scFullO.nd rfl rfl (fun _ _ _ _ _ _ => rfl)
      (fun s H f c' hr3 => pe_tup (pa_cons (pe_callB (cr_sum rfl) (by rfl) B.sum (by decide +kernel) (pa_cons (pv 3) pa_nil)) (pa_cons (pe_cal c2 hr3 rfl (pa_cons (pv 0) (pa_cons (pv 3) pa_nil))) (pa_cons (pv 3) pa_nil)))))))), ?_⟩
  obtain ⟨a, ls, n, rfl, ha, h6, hT0, k⟩ := h
  have rol : (roomsOf ls).length = ls.length := List.length_map ..
  have zl : (Z (roomsOf ls)).length = ls.length := by rw [List.length_map, rol]
  refine ⟨_, rfl, a, _, rfl, .inl ha, 2, ls.length, by rw [zl]; rfl, by decide, h6, fun H1 pr as s1 hpr hpr1 R1 => ⟨pr, rfl, ⟨_, SqL.of hpr1⟩, fun D hD => ?_⟩⟩
  have alen := R1.len
  have rsmall := rows_small (m := 2) (n := ls.length) (by decide) h6
  obtain ⟨ok, eok⟩ : ∃ ok : List Nat → Bool, ok = fun r => decide (heldIn (roomsOf ls) r ≤ n) := ⟨_, rfl⟩
  have zipAt : ∀ (i : Nat) (x : Addr) (r : List Nat), as[i]? = some x → (Mu33.rows 2 ls.length)[i]? = some r → (as.zip (Mu33.rows 2 ls.length))[i]? = some (x, r) := fun i x r h1 h2 => by
    rw [List.getElem?_zip_eq_some]
    exact ⟨h1, h2⟩
  refine lc_acc (K := K) (a := pr) (xs := RF as) (fun i => (((as.zip (Mu33.rows 2 ls.length)).take i).filter fun x => ok x.2).map fun x => V.ref x.1) (fun i => ok ((Mu33.rows 2 ls.length).getD i [])) (fun i => .ref (as.getD i 0)) hD (SqL.of hpr1) rfl (fun i _ => ?_) (fun i hi => ?_) (fun x => rfl) ?_ ?_ ?_
  · rw [List.length_map]
    have z := List.length_filter_le (fun x : Addr × List Nat => ok x.2) ((as.zip (Mu33.rows 2 ls.length)).take i)
    rw [List.length_take, List.length_zip] at z
    omega
  · have hi' : i < as.length := by simpa using hi
    have hi2 : i < (Mu33.rows 2 ls.length).length := by omega
    have e1 : (Mu33.rows 2 ls.length).getD i [] = (Mu33.rows 2 ls.length)[i] := by rw [List.getD_eq_getElem?_getD, List.getElem?_eq_getElem hi2]; rfl
    have e2 : as.getD i 0 = as[i] := by rw [List.getD_eq_getElem?_getD, List.getElem?_eq_getElem hi']; rfl
    rw [filter_take_more _ (zipAt i _ _ (List.getElem?_eq_getElem hi') (List.getElem?_eq_getElem hi2)), e1, e2]
    by_cases ca : ok (Mu33.rows 2 ls.length)[i] = true
    · rw [if_pos ca, if_pos ca, List.map_append]
      rfl
    · rw [if_neg ca, if_neg ca, List.append_nil]
  · intro i x H' Q' hx s2 k'
    obtain ⟨xa, hxa, rfl⟩ := RF_get hx
    obtain ⟨r, hr4, hr5, _⟩ := R1.get hxa
    obtain ⟨rl, rt⟩ := rows_mem (List.mem_of_getElem? hr4)
    have e1 : (Mu33.rows 2 ls.length).getD i [] = r := by rw [List.getD_eq_getElem?_getD, hr4]; rfl
    refine ⟨_, rfl, _, rfl, a, xa, roomsOf ls, r, rfl, (s1.trans s2).seq ha, SqL.of (s2 _ _ hr5), by omega, by omega, fun H'' s3 => ⟨_, rfl, _, _, rfl, rfl, _, rfl, ?_⟩⟩
    have k2 := k' H'' s3
    rw [e1, eok] at k2
    have ed : decide (((heldIn (roomsOf ls) r : Nat) : Int) ≤ ((n : Nat) : Int)) = decide (heldIn (roomsOf ls) r ≤ n) := decide_eq_decide.mpr (by omega)
    show Q' (decide (((heldIn (roomsOf ls) r : Nat) : Int) ≤ ((n : Nat) : Int))) H''
    rw [ed]
    exact k2
  · intro i x H' Q' hx _ s2 k'
    obtain ⟨xa, hxa, rfl⟩ := RF_get hx
    have e2 : as.getD i 0 = xa := by rw [List.getD_eq_getElem?_getD, hxa]; rfl
    have k2 := k' H' (Same.refl _)
    rw [e2] at k2
    exact ⟨_, rfl, k2⟩
  · intro H2 s2 hD2
    have etake : (as.zip (Mu33.rows 2 ls.length)).take (RF as).length = as.zip (Mu33.rows 2 ls.length) := List.take_of_length_le (by rw [List.length_zip, List.length_map]; omega)
    rw [etake] at hD2
    obtain ⟨pq, epq⟩ : ∃ pq, pq = (as.zip (Mu33.rows 2 ls.length)).filter fun x => ok x.2 := ⟨_, rfl⟩
    rw [← epq] at hD2
    have efr : pq.map (·.2) = (Mu33.rows 2 ls.length).filter ok := by
      rw [epq]
      exact zip_filter ok as _ alen
    have pqmem : ∀ x ∈ pq, ∃ i, as[i]? = some x.1 ∧ (Mu33.rows 2 ls.length)[i]? = some x.2 := fun x hx => by
      rw [epq] at hx
      obtain ⟨h1, h2⟩ := List.mem_filter.mp hx
      obtain ⟨i, hi⟩ := List.getElem?_of_mem h1
      rw [List.getElem?_zip_eq_some] at hi
      exact ⟨i, hi⟩
    have hD3 : H2 D = some (.lst (RF (pq.map (·.1)))) := by
      rw [hD2]
      simp [RF]
    have s12 := s1.trans s2
    have T2 : Tabs T H2 := hT0.ext s12
    have npq : pq ≠ [] := fun z => by
      rw [z, eok] at efr
      exact top_some ls n efr.symm
    refine ⟨_, rfl, D, pq.map (·.1), (pq.map (·.2)).map (dTop (roomsOf ls)), rfl, by simp, by rw [List.length_map]; exact List.length_pos_iff.mpr npq, alike_tops _ _, Nat.le_trans (depth_tops _ _) (by decide), T2, fun H3 e3 T3 => ⟨ext_seq e3 (SqL.of hD3), ?_, ?_⟩⟩
    · intro i x d H' hx hd s4
      rw [List.getElem?_map] at hx
      rw [List.getElem?_map, List.getElem?_map] at hd
      cases hp : pq[i]? with
      | none =>
        rw [hp] at hx
        cases hx
      | some y =>
        rw [hp] at hx hd
        cases hx
        cases hd
        obtain ⟨j, hj1, hj2⟩ := pqmem y (List.mem_of_getElem? hp)
        obtain ⟨hy1, _⟩ := R1.at_ j y.1 y.2 hj1 hj2
        obtain ⟨rl, rt⟩ := rows_mem (List.mem_of_getElem? hj2)
        have eAll : ExtN H1 H' := (ext_same s2).trans (e3.trans (ext_same s4))
        have eAll0 : ExtN H H' := (ext_same s1).trans eAll
        have hy' : SqL K H' y.1 (Z y.2) := ext_seq eAll (SqL.of hy1)
        refine ⟨_, rfl, y.1, ZI y.2, rfl, by rw [← Z_ZI]; exact hy', _, rfl, _, rfl, a, y.1, roomsOf ls, y.2, rfl, ext_seq eAll0 ha, hy', by omega, by omega, fun H'' s5 => ⟨_, rfl, by show 3 ≤ sizeLine; decide, fun t ht => ⟨s5.trans (same_upd ht), .tup (.inl (.inl upd_same)) (.cons ?_ (.cons (.int _) (.cons (dp_row ((s5.trans (same_upd ht)).seq hy')) .nil)))⟩⟩⟩
        have es : (ZI y.2).sum = ((y.2.sum : Nat) : Int) := sum_cast y.2
        rw [es]
        exact .int _
    · intro i x d ds' hds hx hmax H' s4
      rw [List.getElem?_map] at hx
      cases hp : pq[i]? with
      | none =>
        rw [hp] at hx
        cases hx
      | some y =>
        rw [hp] at hx
        cases hx
        obtain ⟨j, hj1, hj2⟩ := pqmem y (List.mem_of_getElem? hp)
        obtain ⟨hy1, hy0⟩ := R1.at_ j y.1 y.2 hj1 hj2
        cases hrs : pq.map (·.2) with
        | nil =>
          rw [hrs] at hds
          cases hds
        | cons r0 rr =>
          have hds2 := hds
          rw [hrs, List.map_cons] at hds2
          injection hds2 with e4 e5
          have lens : ∀ z ∈ r0 :: rr, z.length = ls.length := fun z hz => by
            rw [← hrs, efr] at hz
            exact (rows_mem (List.mem_filter.mp hz).1).1
          rw [← e4, ← e5, maxD_tops (roomsOf ls) rr r0 fun z hz => by rw [lens z (List.mem_cons_of_mem _ hz), lens r0 List.mem_cons_self]] at hmax
          have e6 : ((pq.map (·.2)).map (dTop (roomsOf ls)))[i]? = some (dTop (roomsOf ls) y.2) := by
            rw [List.getElem?_map, List.getElem?_map, hp]
            rfl
          rw [e6] at hmax
          have e7 := top_inj (Option.some.inj hmax)
          have e8 : (Mu33.rows 2 ls.length).filter (fun r => decide (heldIn (roomsOf ls) r ≤ n)) = r0 :: rr := by
            rw [← hrs, efr, eok]
          rw [top_row e8] at e7
          have eAll : ExtN H1 H' := (ext_same s2).trans (e3.trans (ext_same s4))
          refine k H' y.1 ((ext_same s1).trans eAll) (T3.ext s4) hy0 ?_
          rw [← e7]
          exact eAll _ _ hy1 fun ps z => by cases z
end
end LR

namespace LR
open PySem PySem.Spec PyProof.Rows L2 LamX
/-- the lanterns when the first n have their share -/
def setTo (ls : List Mu33.Lantern) (sh : List Nat) (n : Nat) : List Mu33.Lantern := List.zipWith (fun c v => { c with has := v }) (ls.take n) (sh.take n) ++ ls.drop n
theorem setTo_at {ls : List Mu33.Lantern} {sh : List Nat} {n : Nat} {c : Mu33.Lantern} (hl : sh.length = ls.length) (h : ls[n]? = some c) : (setTo ls sh n)[n]? = some c := by
  have hn := (List.getElem?_eq_some_iff.mp h).1
  unfold setTo
  have e : (List.zipWith (fun (c : Mu33.Lantern) (v : Nat) => ({ c with has := v } : Mu33.Lantern)) (ls.take n) (sh.take n)).length = n := by
    rw [List.length_zipWith, List.length_take, List.length_take]
    omega
  rw [List.getElem?_append_right (by omega), e, List.getElem?_drop, Nat.sub_self, Nat.add_zero]
  exact h
theorem setTo_more {ls : List Mu33.Lantern} {sh : List Nat} {n v : Nat} {c : Mu33.Lantern} (hl : sh.length = ls.length) (h : ls[n]? = some c) (hv : sh[n]? = some v) : (setTo ls sh n).set n { c with has := v } = setTo ls sh (n + 1) := by
  have hn := (List.getElem?_eq_some_iff.mp h).1
  have e : (List.zipWith (fun (c : Mu33.Lantern) (v : Nat) => ({ c with has := v } : Mu33.Lantern)) (ls.take n) (sh.take n)).length = n := by
    rw [List.length_zipWith, List.length_take, List.length_take]
    omega
  unfold setTo
  rw [List.set_append, if_neg (by omega), e, Nat.sub_self, take_more h, take_more hv, List.zipWith_append (by rw [List.length_take, List.length_take]; omega), List.append_assoc]
  congr 1
  have ed : ls.drop n = c :: ls.drop (n + 1) := by
    rw [List.drop_eq_getElem_cons hn]
    congr 1
    rw [List.getElem?_eq_getElem hn] at h
    exact Option.some.inj h
  rw [ed]
  rfl
theorem pour_zip : ∀ {l : List Mu33.Lantern} {m : List Bool} {n : Nat}, m.length = l.length → List.zipWith (fun c v => { c with has := v }) l (shares (roomsOf l) (bits m) n) = Mu33.poured l m n
  | [], m, n, h => by
    have : m = [] := List.eq_nil_of_length_eq_zero h
    rw [this]
    rfl
  | c :: l, [], n, h => by simp at h
  | c :: l, true :: m, n, h => by
    have ih := pour_zip (l := l) (m := m) (n := n) (by simpa using h)
    show List.zipWith _ (c :: l) (if bit true = 1 then Mu33.room c :: shares (roomsOf l) (bits m) n else _) = { c with has := Mu33.room c } :: Mu33.poured l m n
    rw [if_pos (show bit true = 1 from rfl), List.zipWith_cons_cons, ih]
  | c :: l, false :: m, n, h => by
    have ih := pour_zip (l := l) (m := m) (n := 0) (by simpa using h)
    show List.zipWith _ (c :: l) (if bit false = 1 then _ else n :: shares (roomsOf l) (bits m) 0) = { c with has := n } :: Mu33.poured l m 0
    rw [if_neg (by decide), List.zipWith_cons_cons, ih]
theorem poured_len {l : List Mu33.Lantern} {m : List Bool} {n : Nat} (h : m.length = l.length) : (Mu33.poured l m n).length = l.length := by
  have z := congrArg List.length (poured_same (l := l) (m := m) (n := n) h)
  rw [List.length_map, List.length_map] at z
  exact z
section
variable {P : Program} {w : World} {K : PySem.W.Frag} {mg : Str → Option Value} {base : Heap} {C CL : Addr} {T : List (Addr × Str)}
/-! ### top_lanterns -/
abbrev sTop : Stmt := top 64
abbrev NTop : List Str := ["shop", "lanterns", "lantern", "poured", "holds", "full", "shares", "share"]
theorem scTop : FnScope NTop ["shop"] (defScope sTop) := ⟨rfl, rfl, rfl, by decide +kernel, rfl, by decide +kernel, by decide +kernel⟩
def spTop (C CL : Addr) (T : List (Addr × Str)) : Sp := fun vs H Q _ => ∃ a : Addr, vs = [.ref a] ∧ Does C CL T H Q a .top
theorem cal_top (B : Bl mg) (X : Txl K mg C CL) (D : Df K mg "top_lanterns" sTop) (c1 : Cal P w K mg base 1 "standing" ["shop"] (spStanding C CL)) (c2 : Cal P w K mg base 1 "oil_when_full" ["lantern"] (spFull CL)) (c3 : Cal P w K mg base 4 "full_ones" ["holds", "poured"] (spFullO K T)) (c4 : Cal P w K mg base 2 "shares_of" ["holds", "full", "poured"] (spShares K)) :
    Cal P w K mg base 5 "top_lanterns" ["shop"] (spTop C CL T) := by
  obtain ⟨f, fd, F, m⟩ := D
  refine ⟨f, fd, ?_, m, F.kp, F.binds fun _ _ _ _ _ _ us hl => match us, hl with | [_], _ => rfl⟩
  refine F.ok scTop (fun vs H Q E h => by obtain ⟨a, rfl, _⟩ := h; rfl) (fun cdv A outer s H vs Q E hr h => ?_)
  have hr1 : Room 1 (A.deeper (envOfC "top_lanterns" (defScope sTop) s.heap.objs.size f cdv)) := hr.mono (by decide)
  refine ⟨_, pss_cons (ps_set (i := 1) scTop.nd rfl (Or.inl rfl) (pe_cal c1 hr1 rfl (pa_cons (pv 0) pa_nil)))
    (pss_cons (ps_set (i := 3) scTop.nd rfl (Or.inl rfl) (pe_callB (cr_sum rfl) (by rfl) B.sum (by decide +kernel) (pa_cons (pe_lc (own := [("lantern", 2)]) (g := gName 2) (tt := tYes) (te := tFld K (tVar 2) "oil") rfl scTop.nd (pi_list (pv 1)) (blkOk_by (own := [("lantern", 2)]) (N := NTop) (sc := defScope sTop) (by decide +kernel))
      (fun _ _ _ _ _ => pg_name (i := 2) scTop.nd rfl (Or.inl rfl)) (fun _ _ _ _ _ => pts_nil) (fun _ _ _ _ _ => pe_fld (pv 2) rfl)) pa_nil)))
    (pss_cons (ps_setLc (i := 4) (own := [("lantern", 2)]) (g := gName 2) (tt := tYes) (te := tCall (spFull CL) [] E0 (tCons (tVar 2) tNil)) rfl scTop.nd rfl rfl (sw_true rfl rfl rfl (by decide +kernel)) (pi_list (pv 1)) (blkOk_by (own := [("lantern", 2)]) (N := NTop) (sc := defScope sTop) (by decide +kernel))
      (fun _ _ _ _ _ => pg_name (i := 2) scTop.nd rfl (Or.inl rfl)) (fun _ _ _ _ _ => pts_nil) (fun _ _ _ _ _ => pe_cal c2 hr1 rfl (pa_cons (pv 2) pa_nil)))
    (pss_cons (ps_set (i := 5) scTop.nd rfl (Or.inl rfl) (pe_cal c3 hr rfl (pa_cons (pv 4) (pa_cons (pv 3) pa_nil))))
    (pss_cons (ps_set (i := 6) scTop.nd rfl (Or.inl rfl) (pe_cal c4 (hr.mono (by decide)) rfl (pa_cons (pv 4) (pa_cons (pv 5) (pa_cons (pv 3) pa_nil)))))
    (pss_cons (ps_for PassesOwn.never rfl (pi_zip (by rfl) B.zip (pa_cons (pv 1) (pa_cons (pv 6) pa_nil))) (pg_tup rfl (pgs_cons (pg_name (i := 2) scTop.nd rfl (Or.inl rfl)) (pgs_cons (pg_name (i := 7) scTop.nd rfl (Or.inl rfl)) pgs_nil)))
      (pss_one (ps_fld (pv 2) (pv 7) rfl)))
    (pss_one (ps_ret (pe_op op_cat (pe_lst (pa_cons (pe_callB (cr_sum rfl) (by rfl) B.sum (by decide +kernel) (pa_cons (pv 5) pa_nil)) pa_nil)) (pv 6))))))))), ?_⟩
  obtain ⟨a, rfl, s, A, s', ans, SA, G, hT, hs, q⟩ := h
  unfold Mu33.step at hs
  dsimp only at hs
  cases hs
  have h6 := G.six
  obtain ⟨ls, els⟩ : ∃ ls, ls = s.lanterns := ⟨_, rfl⟩
  obtain ⟨c5, c6, _⟩ := chosen_ok s.lanterns (Mu33.oil s)
  refine ⟨_, rfl, a, s, A, rfl, SA, G, fun H1 p s1 hp hp1 => ?_⟩
  -- what is poured together
  refine ⟨_, rfl, p, rfl, ⟨_, SqL.of hp1⟩, fun D hD => lc_map (K := K) (a := p) (xs := RF A.las) (Z (s.lanterns.map fun c => c.has)) hD (SqL.of hp1) (by simp [SA.ll]) (by rw [List.length_map, SA.ll]; omega) (fun x => rfl) ?_ fun H2 s2 hD2 => ?_⟩
  · intro i x y H' Q' hx hy s2 k'
    obtain ⟨l, hl, rfl⟩ := RF_get hx
    obtain ⟨n, hn, rfl⟩ := Z_get hy
    rw [List.getElem?_map] at hn
    cases hc : s.lanterns[i]? with
    | none => rw [hc] at hn; cases hn
    | some c =>
      rw [hc] at hn
      cases hn
      obtain ⟨l', r, hl', hr', ⟨⟨dl, fs, e1, e2, e3, e4, e5⟩, e6⟩⟩ := (SA.same (s1.trans s2)).lanAt hc
      rw [hl] at hl'
      cases hl'
      exact ⟨_, rfl, l, CL, dl, _, _, rfl, e1, X.lcl, X.oil, e5, k' H' (Same.refl _)⟩
  have eo : (ZI (s.lanterns.map fun c => c.has)).sum = ((Mu33.oil s : Nat) : Int) := by
    unfold Mu33.oil
    rw [total_sum]
    exact sum_cast _
  refine ⟨D, ZI (s.lanterns.map fun c => c.has), rfl, by rw [← Z_ZI]; exact SqL.of hD2, ?_⟩
  rw [eo]
  -- what they hold
  have hp2 := s2 _ _ hp1
  refine ⟨_, rfl, p, rfl, ⟨_, SqL.of hp2⟩, fun D2 hDD => lc_map (K := K) (a := p) (xs := RF A.las) (Z (roomsOf s.lanterns)) hDD (SqL.of hp2) (by simp [roomsOf, SA.ll]) (by rw [List.length_map, SA.ll]; omega) (fun x => rfl) ?_ fun H3 s3 hDD3 => ?_⟩
  · intro i x y H' Q' hx hy s3 k'
    obtain ⟨l, hl, rfl⟩ := RF_get hx
    obtain ⟨n, hn, rfl⟩ := Z_get hy
    unfold roomsOf at hn
    rw [List.getElem?_map] at hn
    cases hc : s.lanterns[i]? with
    | none => rw [hc] at hn; cases hn
    | some c =>
      rw [hc] at hn
      cases hn
      obtain ⟨l', r, hl', hr', LA⟩ := (SA.same (s1.trans (s2.trans s3))).lanAt hc
      rw [hl] at hl'
      cases hl'
      exact ⟨_, rfl, l, r, c, rfl, LA, (G.lan c (List.mem_of_getElem? hc)).girth60, k' H' (Same.refl _)⟩
  have s03 : Same H H3 := s1.trans (s2.trans s3)
  have S3 := SA.same s03
  have rol : (roomsOf s.lanterns).length = s.lanterns.length := List.length_map ..
  -- which are full
  refine ⟨_, rfl, _, rfl, D2, s.lanterns, Mu33.oil s, rfl, SqL.of hDD3, h6, hT.ext s03, fun H4 fu e34 T4 hfu3 hfu4 => ?_⟩
  have S4 := S3.ext e34
  have hho4 : H4 D2 = some (.lst (Z (roomsOf s.lanterns))) := e34 _ _ hDD3 fun _ z => by cases z
  have hp4 : H4 p = some (.lst (RF A.las)) := e34 _ _ (s3 _ _ hp2) fun _ z => by cases z
  have bl : (bits (Mu33.chosen s.lanterns (Mu33.oil s))).length = (roomsOf s.lanterns).length := by rw [bits_len, c5, rol]
  refine ⟨_, rfl, _, rfl, _, rfl, D2, fu, roomsOf s.lanterns, bits (Mu33.chosen s.lanterns (Mu33.oil s)), Mu33.oil s, rfl, SqL.of hho4, SqL.of hfu4, by omega, bl, by rw [held_bits]; exact c6, fun H5 sh s45 hsh4 hsh5 => ?_⟩
  rw [held_bits] at hsh5
  obtain ⟨shl, eshl⟩ : ∃ shl, shl = shares (roomsOf s.lanterns) (bits (Mu33.chosen s.lanterns (Mu33.oil s))) (Mu33.oil s - Mu33.holds s.lanterns (Mu33.chosen s.lanterns (Mu33.oil s))) := ⟨_, rfl⟩
  rw [← eshl] at hsh5
  have e2 := eshl
  rw [shares_poured] at e2
  have shlen : shl.length = s.lanterns.length := by rw [e2, List.length_map, poured_len c5]
  have S5 := S4.same s45
  have hp5 := s45 _ _ hp4
  have hfu5 := s45 _ _ hfu4
  have npF : p ∉ foot a A := SA.out (.none hp)
  have nfF : fu ∉ foot a A := S3.out (.none hfu3)
  have nsF : sh ∉ foot a A := S4.out (.none hsh4)
  have keep : ∀ {H' : Hp} {b : Addr} {l : List V}, Frame (foot a A) H5 H' → b ∉ foot a A → H5 b = some (.lst l) → H' b = some (.lst l) := fun {H' b l} F n e => F.keep b _ e n fun _ z => by cases z
  refine ⟨_, rfl, _, rfl, p, sh, _, _, rfl, SqL.of hp5, SqL.of hsh5, for_it (walk_zip (K := K) (a := p) (b := sh) (xs := RF A.las) (ys := Z shl) (n := s.lanterns.length) (by simp [SA.ll, shlen])) (fun i σ H' => ∃ v2 v7 : Option V, σ = [some (.ref a), some (.ref p), v2, some (.int ((Mu33.oil s : Nat) : Int)), some (.ref D2), some (.ref fu), some (.ref sh), v7] ∧
      ShopAt C CL H' a { s with lanterns := setTo s.lanterns shl i } A ∧ Frame (foot a A) H5 H' ∧ Tabs T H') ⟨_, _, rfl, S5, .refl, T4.ext s45⟩ ?_ ?_ ?_⟩
  · rintro i σ H' hi ⟨v2, v7, rfl, _, F6, _⟩
    exact ⟨SqL.of (keep F6 npF hp5), SqL.of (keep F6 nsF hsh5)⟩
  · rintro i x σ H6 H7 hi ⟨v2, v7, rfl, S6, F6, T6⟩ ⟨u, y, z, rfl, hu, rfl, ey, ez⟩
    obtain ⟨l, hl, rfl⟩ := RF_get ey
    obtain ⟨v, hv, rfl⟩ := Z_get ez
    have hc := List.getElem?_eq_getElem hi
    have s7 := same_upd (o := .tup [.ref l, .int ((v : Nat) : Int)]) hu
    have S7 := S6.same s7
    obtain ⟨l', r, hl', hr', LA⟩ := S7.lanAt (setTo_at shlen hc)
    rw [hl] at hl'
    cases hl'
    obtain ⟨⟨dl, fs, e1, e2', e3, e4, e5⟩, e6⟩ := LA
    refine ⟨u, _, rfl, .inl (.inl upd_same), rfl, _, _, rfl, _, _, rfl, rfl, ?_⟩
    refine ⟨_, rfl, _, rfl, l, CL, dl, _, rfl, e1, X.lcl, X.oil, Nat.lt_of_le_of_lt e2' (by decide), some (.ref l), some (.int ((v : Nat) : Int)), rfl, ?_, ?_, ?_⟩
    · exact S7.putOil (s' := { s with lanterns := setTo s.lanterns shl (i + 1) }) (v := v) (setTo_at shlen hc) hl hr' e1 rfl rfl rfl rfl rfl (setTo_more shlen hc hv).symm rfl rfl rfl rfl
    · exact (F6.trans (.same (F := foot a A) s7) fun x hx => .inl hx).trans (frame_upd (F := foot a A) (foot_las (List.mem_of_getElem? hl)) fun _ z => by cases z) fun x hx => .inl hx
    · exact tabs_upd (T6.ext s7) e1 (fun _ z => by cases z) fun _ z => by cases z
  · rintro σ H6 ⟨v2, v7, rfl, S6, F6, T6⟩
    have eset : setTo s.lanterns shl s.lanterns.length = (Mu33.topped s).lanterns := by
      unfold setTo
      rw [List.take_length, List.drop_length, List.append_nil, ← shlen, List.take_length, eshl, pour_zip c5]
      rfl
    rw [eset] at S6
    have S6 : ShopAt C CL H6 a (Mu33.topped s) A := S6
    have F06 : Frame (foot a A) H H6 := ((Frame.ext (F := foot a A) ((ExtN.of s03).trans (e34.trans (ExtN.of s45))))).trans F6 fun x hx => .inl hx
    have hfu6 := keep F6 nfF hfu5
    have hsh6 := keep F6 nsF hsh5
    have ef : (ZI (bits (Mu33.chosen s.lanterns (Mu33.oil s)))).sum = ((Mu33.full (Mu33.topped s) : Nat) : Int) := by
      rw [full_topped G, ← sum_bits]
      exact sum_cast _
    have zs : (Z shl).length = s.lanterns.length := by rw [List.length_map, shlen]
    refine ⟨_, rfl, fu, ZI (bits (Mu33.chosen s.lanterns (Mu33.oil s))), rfl, by rw [← Z_ZI]; exact SqL.of hfu6, by show 1 ≤ sizeLine; decide, fun u hu => ?_⟩
    rw [ef]
    have s7 := same_upd (o := .lst [V.int ((Mu33.full (Mu33.topped s) : Nat) : Int)]) hu
    refine ⟨_, rfl, u, sh, _, Z shl, rfl, rfl, upd_same, s7 _ _ hsh6, ?_, fun t ht => ?_⟩
    · rw [zs]
      show 1 + s.lanterns.length ≤ sizeLine
      rw [sizeLine_eq]
      omega
    · refine q _ A t (S6.same (s7.trans (same_upd ht))) (F06.trans (.same (F := foot a A) (s7.trans (same_upd ht))) fun x hx => .inl hx) (fun b hb => .inl hb) (T6.ext (s7.trans (same_upd ht))) (F06.live t (.none (s7.free ht))) ?_
      rw [upd_same, ← Z_ZV, e2]
      rfl
end
end LR

namespace LR
open PySem PySem.Spec PyProof.Rows L2 LamX
theorem skip_if {q c : Int} {A B : Prop} (h : q ≠ c) (b : B) : if decide (V.int q = V.int c) = true then A else B := by
  rw [decide_eq_false fun z => h (by injection z)]
  exact iteF b
theorem take_if {q : Int} {A B : Prop} (a : A) : if decide (V.int q = V.int q) = true then A else B := by
  rw [decide_eq_true rfl]
  exact iteT a
theorem rows_in {H : Hp} {la : Addr} {xs : List (List Int)} (h : RowsIn H la xs) : ∃ bs : List Addr, H la = some (.lst (RF bs)) ∧ bs.length = xs.length ∧ ∀ (i : Nat) (x : List Int), xs[i]? = some x → ∃ b, bs[i]? = some b ∧ H b = some (.lst (ZV x)) := by
  obtain ⟨bs, h1, h2, h3⟩ := h.ex
  refine ⟨bs, h1, h2, fun i x hx => ?_⟩
  have hi : i < bs.length := by
    rw [h2]
    exact (List.getElem?_eq_some_iff.mp hx).1
  exact ⟨bs[i], List.getElem?_eq_getElem hi, h3 i _ x (List.getElem?_eq_getElem hi) hx⟩
theorem RF_at {as : List Addr} {i : Nat} {a : Addr} (h : as[i]? = some a) : (RF as)[i]? = some (.ref a) := by
  rw [List.getElem?_map, h]
  rfl
section
variable {P : Program} {w : World} {K : PySem.W.Frag} {mg : Str → Option Value} {base : Heap} {C CL : Addr} {T : List (Addr × Str)}
/-! ### answer_in -/
abbrev sAnsIn : Stmt := top 89
abbrev NAnsIn : List Str := ["shop", "number", "numbers", "lists"]
theorem scAnsIn : FnScope NAnsIn ["shop", "number", "numbers", "lists"] (defScope sAnsIn) := ⟨rfl, rfl, rfl, by decide +kernel, rfl, by decide +kernel, by decide +kernel⟩
theorem cal_ansIn (D : Df K mg "answer_in" sAnsIn)
    (g1 : Gn mg "PANES" 1) (c1 : Cal P w K mg base 1 "add_panes" ["shop", "sort", "n"] (spPanes C CL T))
    (g2 : Gn mg "BRASS" 2) (c2 : Cal P w K mg base 1 "add_strips" ["shop", "n"] (spStrips C CL T))
    (g3 : Gn mg "RINGS" 3) (c3 : Cal P w K mg base 4 "count_rings" ["shop", "girth"] (spCount C))
    (g4 : Gn mg "FIRST" 4) (c4 : Cal P w K mg base 5 "tell_first" ["shop", "girth"] (spTFirst C))
    (g5 : Gn mg "MAY" 5) (c5 : Cal P w K mg base 2 "tell_may" ["shop", "girth", "ring"] (spTMay K C))
    (g6 : Gn mg "SAME" 6) (c6 : Cal P w K mg base 2 "tell_same" ["shop", "ring", "other"] (spTSame K C))
    (g7 : Gn mg "MAKE" 7) (c7 : Cal P w K mg base 6 "make_lantern" ["shop", "girth"] (spMake C CL T))
    (g8 : Gn mg "MEND" 8) (c8 : Cal P w K mg base 4 "mend_lantern" ["shop", "number", "place"] (spMend C CL T))
    (g9 : Gn mg "FILL" 9) (c9 : Cal P w K mg base 2 "fill_lantern" ["shop", "number", "n"] (spFill C CL T))
    (g10 : Gn mg "NIGHT" 10) (c10 : Cal P w K mg base 2 "burn_night" ["shop"] (spNight C CL T))
    (g11 : Gn mg "TOP" 11) (c11 : Cal P w K mg base 5 "top_lanterns" ["shop"] (spTop C CL T))
    (g12 : Gn mg "SELL" 12) (c12 : Cal P w K mg base 3 "sell_lantern" ["shop", "number"] (spSell C CL T))
    (g13 : Gn mg "LANTERN" 13) (c13 : Cal P w K mg base 1 "tell_lantern" ["shop", "number"] (spTLan C CL T))
    (g14 : Gn mg "GLASS" 14) (c14 : Cal P w K mg base 2 "tell_glass" ["shop"] (spGlass C CL T))
    (g15 : Gn mg "STRIPS" 15) (c15 : Cal P w K mg base 3 "tell_strips" ["shop"] (spTStr C CL T)) :
    Cal P w K mg base 8 "answer_in" ["shop", "number", "numbers", "lists"] (spAnsIn C CL T) := by
  obtain ⟨f, fd, F, m⟩ := D
  refine ⟨f, fd, ?_, m, F.kp, F.binds fun _ _ _ _ _ _ us hl => match us, hl with | [_, _, _, _], _ => rfl⟩
  refine F.ok scAnsIn (fun vs H Q E h => by obtain ⟨a, na, la, s, s', A, q, ns, xs, x, ans, rfl, _⟩ := h; rfl) (fun cdv A outer s H vs Q E hr h => ?_)
  refine ⟨_, pss_cons (ps_if (pt_cmpR op_eq (pv 1) (pe_gn g1 rfl) (nomark _)) (pss_one (ps_ret (pe_cal c1 (hr.mono (by decide)) rfl (pa_cons (pv 0) (pa_cons (pe_ix ix_list (pv 2) pe_int (fun _ _ => rfl)) (pa_cons (pe_ix ix_list (pv 2) pe_int (fun _ _ => rfl)) pa_nil)))))) pss_nil)
    (pss_cons (ps_if (pt_cmpR op_eq (pv 1) (pe_gn g2 rfl) (nomark _)) (pss_one (ps_ret (pe_cal c2 (hr.mono (by decide)) rfl (pa_cons (pv 0) (pa_cons (pe_ix ix_list (pv 2) pe_int (fun _ _ => rfl)) pa_nil))))) pss_nil)
    (pss_cons (ps_if (pt_cmpR op_eq (pv 1) (pe_gn g3 rfl) (nomark _)) (pss_one (ps_ret (pe_cal c3 (hr.mono (by decide)) rfl (pa_cons (pv 0) (pa_cons (pe_ix ix_list (pv 2) pe_int (fun _ _ => rfl)) pa_nil))))) pss_nil)
    (pss_cons (ps_if (pt_cmpR op_eq (pv 1) (pe_gn g4 rfl) (nomark _)) (pss_one (ps_ret (pe_cal c4 (hr.mono (by decide)) rfl (pa_cons (pv 0) (pa_cons (pe_ix ix_list (pv 2) pe_int (fun _ _ => rfl)) pa_nil))))) pss_nil)
    (pss_cons (ps_if (pt_cmpR op_eq (pv 1) (pe_gn g5 rfl) (nomark _)) (pss_one (ps_ret (pe_cal c5 (hr.mono (by decide)) rfl (pa_cons (pv 0) (pa_cons (pe_ix ix_list (pv 2) pe_int (fun _ _ => rfl)) (pa_cons (pe_ix ix_list (pv 3) pe_int (fun _ _ => rfl)) pa_nil)))))) pss_nil)
    (pss_cons (ps_if (pt_cmpR op_eq (pv 1) (pe_gn g6 rfl) (nomark _)) (pss_one (ps_ret (pe_cal c6 (hr.mono (by decide)) rfl (pa_cons (pv 0) (pa_cons (pe_ix ix_list (pv 3) pe_int (fun _ _ => rfl)) (pa_cons (pe_ix ix_list (pv 3) pe_int (fun _ _ => rfl)) pa_nil)))))) pss_nil)
    (pss_cons (ps_if (pt_cmpR op_eq (pv 1) (pe_gn g7 rfl) (nomark _)) (pss_one (ps_ret (pe_cal c7 (hr.mono (by decide)) rfl (pa_cons (pv 0) (pa_cons (pe_ix ix_list (pv 2) pe_int (fun _ _ => rfl)) pa_nil))))) pss_nil)
    (pss_cons (ps_if (pt_cmpR op_eq (pv 1) (pe_gn g8 rfl) (nomark _)) (pss_one (ps_ret (pe_cal c8 (hr.mono (by decide)) rfl (pa_cons (pv 0) (pa_cons (pe_ix ix_list (pv 2) pe_int (fun _ _ => rfl)) (pa_cons (pe_ix ix_list (pv 2) pe_int (fun _ _ => rfl)) pa_nil)))))) pss_nil)
    (pss_cons (ps_if (pt_cmpR op_eq (pv 1) (pe_gn g9 rfl) (nomark _)) (pss_one (ps_ret (pe_cal c9 (hr.mono (by decide)) rfl (pa_cons (pv 0) (pa_cons (pe_ix ix_list (pv 2) pe_int (fun _ _ => rfl)) (pa_cons (pe_ix ix_list (pv 2) pe_int (fun _ _ => rfl)) pa_nil)))))) pss_nil)
    (pss_cons (ps_if (pt_cmpR op_eq (pv 1) (pe_gn g10 rfl) (nomark _)) (pss_one (ps_ret (pe_cal c10 (hr.mono (by decide)) rfl (pa_cons (pv 0) pa_nil)))) pss_nil)
    (pss_cons (ps_if (pt_cmpR op_eq (pv 1) (pe_gn g11 rfl) (nomark _)) (pss_one (ps_ret (pe_cal c11 (hr.mono (by decide)) rfl (pa_cons (pv 0) pa_nil)))) pss_nil)
    (pss_cons (ps_if (pt_cmpR op_eq (pv 1) (pe_gn g12 rfl) (nomark _)) (pss_one (ps_ret (pe_cal c12 (hr.mono (by decide)) rfl (pa_cons (pv 0) (pa_cons (pe_ix ix_list (pv 2) pe_int (fun _ _ => rfl)) pa_nil))))) pss_nil)
    (pss_cons (ps_if (pt_cmpR op_eq (pv 1) (pe_gn g13 rfl) (nomark _)) (pss_one (ps_ret (pe_cal c13 (hr.mono (by decide)) rfl (pa_cons (pv 0) (pa_cons (pe_ix ix_list (pv 2) pe_int (fun _ _ => rfl)) pa_nil))))) pss_nil)
    (pss_cons (ps_if (pt_cmpR op_eq (pv 1) (pe_gn g14 rfl) (nomark _)) (pss_one (ps_ret (pe_cal c14 (hr.mono (by decide)) rfl (pa_cons (pv 0) pa_nil)))) pss_nil)
    (pss_cons (ps_if (pt_cmpR op_eq (pv 1) (pe_gn g15 rfl) (nomark _)) (pss_one (ps_ret (pe_cal c15 (hr.mono (by decide)) rfl (pa_cons (pv 0) pa_nil)))) pss_nil)
    (pss_one ps_never))))))))))))))), ?_⟩
  obtain ⟨a, na, la, s, s', A, q, ns, xs, x, ans, rfl, SA, G, hT, hna, hla, hAsk, hq, hs, told⟩ := h
  cases hAsk with
  | begin_ => exact absurd rfl hq
  | panes k n h1 h2 =>
    refine ⟨_, rfl, rfl, _, rfl, take_if ?_⟩
    exact ⟨_, rfl, _, rfl, na, _, _, _, rfl, rfl, SqL.of hna, at_of (j := 0) rfl rfl, _, rfl, na, _, _, _, rfl, rfl, SqL.of hna, at_of (j := 1) rfl rfl, a, k, n, rfl, s, A, s', ans, SA, G, hT, hs, told⟩
  | brass n h1 =>
    refine ⟨_, rfl, rfl, _, rfl, skip_if (by decide) ?_⟩
    refine ⟨_, rfl, rfl, _, rfl, take_if ?_⟩
    exact ⟨_, rfl, _, rfl, na, _, _, _, rfl, rfl, SqL.of hna, at_of (j := 0) rfl rfl, a, n, rfl, s, A, s', ans, SA, G, hT, hs, told⟩
  | rings g h1 =>
    refine ⟨_, rfl, rfl, _, rfl, skip_if (by decide) ?_⟩
    refine ⟨_, rfl, rfl, _, rfl, skip_if (by decide) ?_⟩
    refine ⟨_, rfl, rfl, _, rfl, take_if ?_⟩
    cases hs
    exact ⟨_, rfl, _, rfl, na, _, _, _, rfl, rfl, SqL.of hna, at_of (j := 0) rfl rfl, a, s, g, rfl, SA.toR G, told.ans SA hT⟩
  | first g h1 =>
    refine ⟨_, rfl, rfl, _, rfl, skip_if (by decide) ?_⟩
    refine ⟨_, rfl, rfl, _, rfl, skip_if (by decide) ?_⟩
    refine ⟨_, rfl, rfl, _, rfl, skip_if (by decide) ?_⟩
    refine ⟨_, rfl, rfl, _, rfl, take_if ?_⟩
    cases hs
    exact ⟨_, rfl, _, rfl, na, _, _, _, rfl, rfl, SqL.of hna, at_of (j := 0) rfl rfl, a, s, g, rfl, SA.toR G, told.ans SA hT⟩
  | may g l h1 h2 =>
    refine ⟨_, rfl, rfl, _, rfl, skip_if (by decide) ?_⟩
    refine ⟨_, rfl, rfl, _, rfl, skip_if (by decide) ?_⟩
    refine ⟨_, rfl, rfl, _, rfl, skip_if (by decide) ?_⟩
    refine ⟨_, rfl, rfl, _, rfl, skip_if (by decide) ?_⟩
    refine ⟨_, rfl, rfl, _, rfl, take_if ?_⟩
    cases hs
    obtain ⟨bs, hb1, hb2, hb3⟩ := rows_in hla
    obtain ⟨b, hb4, hb5⟩ := hb3 0 _ rfl
    rw [ZV_zis] at hb5
    exact ⟨_, rfl, _, rfl, na, _, _, _, rfl, rfl, SqL.of hna, at_of (j := 0) rfl rfl, _, rfl, la, _, _, _, rfl, rfl, SqL.of hb1, at_of (j := 0) rfl (RF_at hb4), a, b, s, g, l, rfl, SA.toR G, SqL.of hb5, h2, told.ans SA hT⟩
  | same l o h1 h2 =>
    refine ⟨_, rfl, rfl, _, rfl, skip_if (by decide) ?_⟩
    refine ⟨_, rfl, rfl, _, rfl, skip_if (by decide) ?_⟩
    refine ⟨_, rfl, rfl, _, rfl, skip_if (by decide) ?_⟩
    refine ⟨_, rfl, rfl, _, rfl, skip_if (by decide) ?_⟩
    refine ⟨_, rfl, rfl, _, rfl, skip_if (by decide) ?_⟩
    refine ⟨_, rfl, rfl, _, rfl, take_if ?_⟩
    cases hs
    obtain ⟨bs, hb1, hb2, hb3⟩ := rows_in hla
    obtain ⟨b, hb4, hb5⟩ := hb3 0 _ rfl
    obtain ⟨d, hd4, hd5⟩ := hb3 1 _ rfl
    rw [ZV_zis] at hb5 hd5
    exact ⟨_, rfl, _, rfl, la, _, _, _, rfl, rfl, SqL.of hb1, at_of (j := 0) rfl (RF_at hb4), _, rfl, la, _, _, _, rfl, rfl, SqL.of hb1, at_of (j := 1) rfl (RF_at hd4), a, b, d, s, l, o, rfl, SA.toR G, SqL.of hb5, h1, SqL.of hd5, h2, told.ans SA hT⟩
  | make g h1 =>
    refine ⟨_, rfl, rfl, _, rfl, skip_if (by decide) ?_⟩
    refine ⟨_, rfl, rfl, _, rfl, skip_if (by decide) ?_⟩
    refine ⟨_, rfl, rfl, _, rfl, skip_if (by decide) ?_⟩
    refine ⟨_, rfl, rfl, _, rfl, skip_if (by decide) ?_⟩
    refine ⟨_, rfl, rfl, _, rfl, skip_if (by decide) ?_⟩
    refine ⟨_, rfl, rfl, _, rfl, skip_if (by decide) ?_⟩
    refine ⟨_, rfl, rfl, _, rfl, take_if ?_⟩
    exact ⟨_, rfl, _, rfl, na, _, _, _, rfl, rfl, SqL.of hna, at_of (j := 0) rfl rfl, a, g, rfl, s, A, s', ans, SA, G, hT, hs, told⟩
  | mend i j h1 h2 =>
    refine ⟨_, rfl, rfl, _, rfl, skip_if (by decide) ?_⟩
    refine ⟨_, rfl, rfl, _, rfl, skip_if (by decide) ?_⟩
    refine ⟨_, rfl, rfl, _, rfl, skip_if (by decide) ?_⟩
    refine ⟨_, rfl, rfl, _, rfl, skip_if (by decide) ?_⟩
    refine ⟨_, rfl, rfl, _, rfl, skip_if (by decide) ?_⟩
    refine ⟨_, rfl, rfl, _, rfl, skip_if (by decide) ?_⟩
    refine ⟨_, rfl, rfl, _, rfl, skip_if (by decide) ?_⟩
    refine ⟨_, rfl, rfl, _, rfl, take_if ?_⟩
    exact ⟨_, rfl, _, rfl, na, _, _, _, rfl, rfl, SqL.of hna, at_of (j := 0) rfl rfl, _, rfl, na, _, _, _, rfl, rfl, SqL.of hna, at_of (j := 1) rfl rfl, a, i, j, rfl, s, A, s', ans, SA, G, hT, hs, told⟩
  | fill i n h1 h2 =>
    refine ⟨_, rfl, rfl, _, rfl, skip_if (by decide) ?_⟩
    refine ⟨_, rfl, rfl, _, rfl, skip_if (by decide) ?_⟩
    refine ⟨_, rfl, rfl, _, rfl, skip_if (by decide) ?_⟩
    refine ⟨_, rfl, rfl, _, rfl, skip_if (by decide) ?_⟩
    refine ⟨_, rfl, rfl, _, rfl, skip_if (by decide) ?_⟩
    refine ⟨_, rfl, rfl, _, rfl, skip_if (by decide) ?_⟩
    refine ⟨_, rfl, rfl, _, rfl, skip_if (by decide) ?_⟩
    refine ⟨_, rfl, rfl, _, rfl, skip_if (by decide) ?_⟩
    refine ⟨_, rfl, rfl, _, rfl, take_if ?_⟩
    exact ⟨_, rfl, _, rfl, na, _, _, _, rfl, rfl, SqL.of hna, at_of (j := 0) rfl rfl, _, rfl, na, _, _, _, rfl, rfl, SqL.of hna, at_of (j := 1) rfl rfl, a, i, n, rfl, s, A, s', ans, SA, G, hT, hs, told⟩
  | night =>
    refine ⟨_, rfl, rfl, _, rfl, skip_if (by decide) ?_⟩
    refine ⟨_, rfl, rfl, _, rfl, skip_if (by decide) ?_⟩
    refine ⟨_, rfl, rfl, _, rfl, skip_if (by decide) ?_⟩
    refine ⟨_, rfl, rfl, _, rfl, skip_if (by decide) ?_⟩
    refine ⟨_, rfl, rfl, _, rfl, skip_if (by decide) ?_⟩
    refine ⟨_, rfl, rfl, _, rfl, skip_if (by decide) ?_⟩
    refine ⟨_, rfl, rfl, _, rfl, skip_if (by decide) ?_⟩
    refine ⟨_, rfl, rfl, _, rfl, skip_if (by decide) ?_⟩
    refine ⟨_, rfl, rfl, _, rfl, skip_if (by decide) ?_⟩
    refine ⟨_, rfl, rfl, _, rfl, take_if ?_⟩
    exact ⟨_, rfl, a, rfl, s, A, s', ans, SA, G, hT, hs, told⟩
  | top =>
    refine ⟨_, rfl, rfl, _, rfl, skip_if (by decide) ?_⟩
    refine ⟨_, rfl, rfl, _, rfl, skip_if (by decide) ?_⟩
    refine ⟨_, rfl, rfl, _, rfl, skip_if (by decide) ?_⟩
    refine ⟨_, rfl, rfl, _, rfl, skip_if (by decide) ?_⟩
    refine ⟨_, rfl, rfl, _, rfl, skip_if (by decide) ?_⟩
    refine ⟨_, rfl, rfl, _, rfl, skip_if (by decide) ?_⟩
    refine ⟨_, rfl, rfl, _, rfl, skip_if (by decide) ?_⟩
    refine ⟨_, rfl, rfl, _, rfl, skip_if (by decide) ?_⟩
    refine ⟨_, rfl, rfl, _, rfl, skip_if (by decide) ?_⟩
    refine ⟨_, rfl, rfl, _, rfl, skip_if (by decide) ?_⟩
    refine ⟨_, rfl, rfl, _, rfl, take_if ?_⟩
    exact ⟨_, rfl, a, rfl, s, A, s', ans, SA, G, hT, hs, told⟩
  | sell i h1 =>
    refine ⟨_, rfl, rfl, _, rfl, skip_if (by decide) ?_⟩
    refine ⟨_, rfl, rfl, _, rfl, skip_if (by decide) ?_⟩
    refine ⟨_, rfl, rfl, _, rfl, skip_if (by decide) ?_⟩
    refine ⟨_, rfl, rfl, _, rfl, skip_if (by decide) ?_⟩
    refine ⟨_, rfl, rfl, _, rfl, skip_if (by decide) ?_⟩
    refine ⟨_, rfl, rfl, _, rfl, skip_if (by decide) ?_⟩
    refine ⟨_, rfl, rfl, _, rfl, skip_if (by decide) ?_⟩
    refine ⟨_, rfl, rfl, _, rfl, skip_if (by decide) ?_⟩
    refine ⟨_, rfl, rfl, _, rfl, skip_if (by decide) ?_⟩
    refine ⟨_, rfl, rfl, _, rfl, skip_if (by decide) ?_⟩
    refine ⟨_, rfl, rfl, _, rfl, skip_if (by decide) ?_⟩
    refine ⟨_, rfl, rfl, _, rfl, take_if ?_⟩
    exact ⟨_, rfl, _, rfl, na, _, _, _, rfl, rfl, SqL.of hna, at_of (j := 0) rfl rfl, a, i, rfl, s, A, s', ans, SA, G, hT, hs, told⟩
  | lantern i h1 =>
    refine ⟨_, rfl, rfl, _, rfl, skip_if (by decide) ?_⟩
    refine ⟨_, rfl, rfl, _, rfl, skip_if (by decide) ?_⟩
    refine ⟨_, rfl, rfl, _, rfl, skip_if (by decide) ?_⟩
    refine ⟨_, rfl, rfl, _, rfl, skip_if (by decide) ?_⟩
    refine ⟨_, rfl, rfl, _, rfl, skip_if (by decide) ?_⟩
    refine ⟨_, rfl, rfl, _, rfl, skip_if (by decide) ?_⟩
    refine ⟨_, rfl, rfl, _, rfl, skip_if (by decide) ?_⟩
    refine ⟨_, rfl, rfl, _, rfl, skip_if (by decide) ?_⟩
    refine ⟨_, rfl, rfl, _, rfl, skip_if (by decide) ?_⟩
    refine ⟨_, rfl, rfl, _, rfl, skip_if (by decide) ?_⟩
    refine ⟨_, rfl, rfl, _, rfl, skip_if (by decide) ?_⟩
    refine ⟨_, rfl, rfl, _, rfl, skip_if (by decide) ?_⟩
    refine ⟨_, rfl, rfl, _, rfl, take_if ?_⟩
    exact ⟨_, rfl, _, rfl, na, _, _, _, rfl, rfl, SqL.of hna, at_of (j := 0) rfl rfl, a, i, rfl, s, A, s', ans, SA, G, hT, hs, told⟩
  | glass =>
    refine ⟨_, rfl, rfl, _, rfl, skip_if (by decide) ?_⟩
    refine ⟨_, rfl, rfl, _, rfl, skip_if (by decide) ?_⟩
    refine ⟨_, rfl, rfl, _, rfl, skip_if (by decide) ?_⟩
    refine ⟨_, rfl, rfl, _, rfl, skip_if (by decide) ?_⟩
    refine ⟨_, rfl, rfl, _, rfl, skip_if (by decide) ?_⟩
    refine ⟨_, rfl, rfl, _, rfl, skip_if (by decide) ?_⟩
    refine ⟨_, rfl, rfl, _, rfl, skip_if (by decide) ?_⟩
    refine ⟨_, rfl, rfl, _, rfl, skip_if (by decide) ?_⟩
    refine ⟨_, rfl, rfl, _, rfl, skip_if (by decide) ?_⟩
    refine ⟨_, rfl, rfl, _, rfl, skip_if (by decide) ?_⟩
    refine ⟨_, rfl, rfl, _, rfl, skip_if (by decide) ?_⟩
    refine ⟨_, rfl, rfl, _, rfl, skip_if (by decide) ?_⟩
    refine ⟨_, rfl, rfl, _, rfl, skip_if (by decide) ?_⟩
    refine ⟨_, rfl, rfl, _, rfl, take_if ?_⟩
    exact ⟨_, rfl, a, rfl, s, A, s', ans, SA, G, hT, hs, told⟩
  | strips =>
    refine ⟨_, rfl, rfl, _, rfl, skip_if (by decide) ?_⟩
    refine ⟨_, rfl, rfl, _, rfl, skip_if (by decide) ?_⟩
    refine ⟨_, rfl, rfl, _, rfl, skip_if (by decide) ?_⟩
    refine ⟨_, rfl, rfl, _, rfl, skip_if (by decide) ?_⟩
    refine ⟨_, rfl, rfl, _, rfl, skip_if (by decide) ?_⟩
    refine ⟨_, rfl, rfl, _, rfl, skip_if (by decide) ?_⟩
    refine ⟨_, rfl, rfl, _, rfl, skip_if (by decide) ?_⟩
    refine ⟨_, rfl, rfl, _, rfl, skip_if (by decide) ?_⟩
    refine ⟨_, rfl, rfl, _, rfl, skip_if (by decide) ?_⟩
    refine ⟨_, rfl, rfl, _, rfl, skip_if (by decide) ?_⟩
    refine ⟨_, rfl, rfl, _, rfl, skip_if (by decide) ?_⟩
    refine ⟨_, rfl, rfl, _, rfl, skip_if (by decide) ?_⟩
    refine ⟨_, rfl, rfl, _, rfl, skip_if (by decide) ?_⟩
    refine ⟨_, rfl, rfl, _, rfl, skip_if (by decide) ?_⟩
    refine ⟨_, rfl, rfl, _, rfl, take_if ?_⟩
    exact ⟨_, rfl, a, rfl, s, A, s', ans, SA, G, hT, hs, told⟩
end
end LR

namespace LR
open PySem PySem.Spec PyProof.Rows L2 LamX
open PySem.W (Codec)
open PySem.Challenge (rw_lampring_s01_answers)
theorem enc_ints (l : List Int) : (l.map (Codec.int (_root_.Int.ofNat 0) (_root_.Int.ofNat 5000)).enc) = l.map PySem.W.WData.int := rfl
/-- what is asked, as the program gets it -/
theorem sp_end {K : PySem.W.Frag} {T : List (Addr × Str)} {H : Hp} {xs : List V} (a : Codec.denoteAll rw_lampring_s01_answers.args) (hT : Tabs T H) (h1 : Codec.withinAll rw_lampring_s01_answers.args a = true) (h2 : Codec.app rw_lampring_s01_answers.args rw_lampring_s01_answers.asked a = true)
    (h3 : DwAll K H xs (Codec.encAll rw_lampring_s01_answers.args a)) : spAnswers K T xs H (fun v H' => Dw K H' v (rw_lampring_s01_answers.ret.enc (Codec.app rw_lampring_s01_answers.args rw_lampring_s01_answers.f a))) fun _ _ _ => False := by
  obtain ⟨l, u⟩ := a
  have h1' : (PySem.W.Codec.inList 0 2100 (Codec.int (_root_.Int.ofNat 0) (_root_.Int.ofNat 5000)).within l && true) = true := h1
  have h2' : PyMu33.answers_asked l = true := h2
  have h3' : DwAll K H xs [.list (l.map PySem.W.WData.int)] := h3
  cases h3' with
  | cons hd hn =>
    cases hn
    cases hd with
    | lst hq hall =>
      have ex := ints_dw _ _ hall
      subst ex
      rename_i a0
      have hlen : l.length ≤ 2100 := by
        rw [Bool.and_true] at h1'
        unfold PySem.W.Codec.inList PySem.W.Codec.inLen PySem.W.Codec.inNat at h1'
        simp only [Bool.and_eq_true, decide_eq_true_eq] at h1'
        omega
      unfold PyMu33.answers_asked at h2'
      cases hc : PyMu33.calls l with
      | none =>
        rw [hc] at h2'
        cases h2'
      | some cs =>
        rw [hc] at h2'
        simp only [Bool.and_eq_true] at h2'
        obtain ⟨⟨⟨⟨_, _⟩, _⟩, hA⟩, hS⟩ := h2'
        have hans : PyMu33.answers l = toldTo cs cs.length := by
          unfold PyMu33.answers toldTo
          rw [hc, List.take_length]
        obtain ⟨ep, hok⟩ := PyWide.put_calls _ _ _ hc
        have hA1 : ∀ c ∈ cs, Mu33Neutral.asked1 c = true := by
          unfold Mu33Neutral.asked at hA
          simp only [Bool.and_eq_true] at hA
          exact List.all_eq_true.mp hA.2.2
        refine ⟨a0, cs, rfl, by rw [← ep]; exact hq, by rw [← ep]; exact hlen, hok, fun c hc => asked_of (hA1 c hc), ?_, hT, fun H' p _ hp => ?_⟩
        · rw [hans] at hS
          simpa [PyFlat.short] using hS
        · show Dw K H' (.ref p) (.list ((PyMu33.answers l).map PySem.W.WData.int))
          rw [hans]
          exact .lst (SqL.of hp) (dw_ints _)
/-! ### what the end asks -/
theorem df_mk {K : PySem.W.Frag} {h : Heap} {mg : Str → Option Value} {x : Str} {st : Stmt} {f : Addr} {oc : Value} {od an : Option Addr} {osl : Array (Option Value)} {kV doc pm cdv ct : Value} (X : K.In h) (G : h.Ns mainGlobals mg) (a : PySem.W.nsIn K mainGlobals x = some (some (.ref f)))
    (l : K.lookup f = some ⟨oc, od, .func (PySem.W.fnOf x x (defArgs st) (defBody st) (defScope st) .none kV doc pm an cdv ct), osl⟩) (c : PySem.W.codeIn K cdv x = true) (k : PySem.W.keepIn K (.ref f) = true) : Df K mg x st :=
  ⟨f, _, fun_mk l c k, PySem.W.mg_of X G a⟩
theorem dfc_mk {K : PySem.W.Frag} {h : Heap} {mg : Str → Option Value} {x : Str} {st : Stmt} {f cc : Addr} {oc : Value} {od an : Option Addr} {osl : Array (Option Value)} {kV doc pm ct : Value} (X : K.In h) (G : h.Ns mainGlobals mg) (a : PySem.W.nsIn K mainGlobals x = some (some (.ref f)))
    (l : K.lookup f = some ⟨oc, od, .func (PySem.W.fnOf x x (defArgs st) (defBody st) (defScope st) .none kV doc pm an (.ref cc) ct), osl⟩) (c : PySem.W.codeIn K (.ref cc) x = true) (k : PySem.W.keepIn K (.ref f) = true) : DfC K mg x st cc :=
  ⟨f, oc, od, an, kV, doc, pm, ct, osl, l, c, k, PySem.W.mg_of X G a⟩
theorem gn_mk {K : PySem.W.Frag} {h : Heap} {mg : Str → Option Value} {x : Str} {n : Int} {t : Tok} (X : K.In h) (G : h.Ns mainGlobals mg) (a : PySem.W.nsIn K mainGlobals x = some (some (.int n t))) : Gn mg x n := ⟨t, PySem.W.mg_of X G a⟩
theorem no_tab {K : PySem.W.Frag} {h : Heap} {P : Addr} (X : K.In h) (hP : h.get? P = some (PySem.W.tabObj #[])) (n : PySem.W.noTabs K = true) : K.lookup P = none := by
  cases q : K.lookup P with
  | none => rfl
  | some o =>
    have e := X _ _ q
    rw [hP] at e
    cases e
    exact absurd (show false = true from List.all_eq_true.mp n _ (PySem.W.mem_of_lookupK q)) Bool.false_ne_true
/-- the table of a code object that is known -/
def tabOf (K : PySem.W.Frag) : Value → Option Addr
  | .ref c => match K.lookup c with
    | some ⟨_, _, .fields vs, _⟩ => (match (vs[11]? : Option Value) with
      | some (.ref P) => some P
      | _ => none)
    | _ => none
  | _ => none
def tabsNe (K : PySem.W.Frag) (a b : Value) : Bool := match tabOf K a, tabOf K b with
  | some p, some q => p != q
  | _, _ => false
theorem tabOf_is {K : PySem.W.Frag} {h : Heap} {c P Q : Addr} (X : K.In h) (hC : PySem.W.CodeHd h c P) (e : tabOf K (.ref c) = some Q) : Q = P := by
  obtain ⟨o, vs, file, tf, flags, tg, inF, text, tt, e1, e2, e3, e4, _⟩ := hC
  have e : (match K.lookup c with
    | some ⟨_, _, .fields vs, _⟩ => (match (vs[11]? : Option Value) with
      | some (.ref P) => some P
      | _ => none)
    | _ => none) = some Q := e
  split at e
  · rename_i us osl hk
    have e5 := X _ _ hk
    rw [e1] at e5
    cases e5
    cases e3
    rw [e4] at e
    exact (Option.some.inj e).symm
  · cases e
theorem tabs_ne {K : PySem.W.Frag} {h : Heap} {c1 P1 c2 P2 : Addr} (X : K.In h) (h1 : PySem.W.CodeHd h c1 P1) (h2 : PySem.W.CodeHd h c2 P2) (n : tabsNe K (.ref c1) (.ref c2) = true) : P1 ≠ P2 := by
  unfold tabsNe at n
  split at n
  · rename_i p q e1 e2
    have a1 := tabOf_is X h1 e1
    have a2 := tabOf_is X h2 e2
    subst a1 a2
    simpa using n
  · cases n
theorem tab_ex {p : Program} {loose : List Str} {mean : ExcName → Option Value} {mg mb : Str → Option Value} {h : Heap} {K : PySem.W.Frag} {d : DefRec} {x : Str} (T : PyProof.Rows.Top p loose mean mg mb h) (X : K.In h) (hr : (recsOf p).find? (fun e => e.name == x) = some d)
    {f : Addr} {oc : Value} {od : Option Addr} {fd0 : FuncData} {osl : Array (Option Value)} (a : PySem.W.nsIn K mainGlobals x = some (some (.ref f))) (l : K.lookup f = some ⟨oc, od, .func fd0, osl⟩) : ∃ c P, fd0.code = .ref c ∧ PySem.W.CodeHd h c P ∧ h.get? P = some (PySem.W.tabObj #[]) := by
  have hn : d.name = x := beq_iff_eq.mp (List.find?_some (p := fun e : DefRec => e.name == x) hr)
  obtain ⟨b, o, fd, c, P, h1, h2, h3, h4, h5, h6⟩ := T.tab d (List.mem_of_find?_eq_some hr)
  have e1 := PySem.W.mg_of X T.g a
  rw [hn, e1] at h1
  cases h1
  have e2 := X _ _ l
  rw [h2] at e2
  cases e2
  cases h3
  have g := h6
  obtain ⟨_, g5⟩ := g
  exact ⟨c, P, h4, PySem.W.CodeHd.of h5 h6, g5⟩
abbrev Goal (K : PySem.W.Frag) (w : World) (mg : Str → Option Value) (fa : Addr) (h : Heap) : Prop := ∃ (fd : FuncData) (cs : List (Addr × Addr)) (sp : Sp), (∀ p ∈ cs, PySem.W.CodeHd h p.1 p.2 ∧ h.get? p.2 = some { cls := .none, data := .fields #[] }) ∧ (∀ p ∈ cs, K.lookup p.2 = none) ∧ (∀ (s : Shared) (us : List Value), us.length = (["calls"] : List Str).length → BindsTo s fd ⟨us, []⟩ ((["calls"] : List Str).zip us)) ∧
        (∀ (H : Hp) (xs : List V) (a : Codec.denoteAll PySem.Challenge.rw_lampring_s01_answers.args), (∀ p ∈ cs, H p.2 = some (.tbl #[])) → Codec.withinAll PySem.Challenge.rw_lampring_s01_answers.args a = true → Codec.app PySem.Challenge.rw_lampring_s01_answers.args PySem.Challenge.rw_lampring_s01_answers.asked a = true → DwAll K H xs (Codec.encAll PySem.Challenge.rw_lampring_s01_answers.args a) →
          sp xs H (fun v H' => Dw K H' v (PySem.Challenge.rw_lampring_s01_answers.ret.enc (Codec.app PySem.Challenge.rw_lampring_s01_answers.args PySem.Challenge.rw_lampring_s01_answers.f a))) fun _ _ _ => False) ∧
        ∀ base : Heap, K.In base → base.Ns mainGlobals mg → (∀ p ∈ cs, LamX.TabB base mg p.1 p.2) → FnOk PySem.Challenge.rw_lampring_s01_answers.prog w K mg base CX0 12 fa fd ["calls"] sp
end LR

namespace LR
open PySem PySem.Spec PyProof.Rows L2
open PySem.W (Codec)
theorem all_mk {K : PySem.W.Frag} {w : World} {mg : Str → Option Value} {fa : Addr} {h : Heap} (X : K.In h) (G : h.Ns mainGlobals mg) (hfa : mg "answers" = some (.ref fa)) (tb_best_cutting : ∀ {f : Addr} {oc : Value} {od : Option Addr} {fd0 : FuncData} {osl : Array (Option Value)}, PySem.W.nsIn K mainGlobals "best_cutting" = some (some (.ref f)) → K.lookup f = some ⟨oc, od, .func fd0, osl⟩ → ∃ c P, fd0.code = .ref c ∧ PySem.W.CodeHd h c P ∧ h.get? P = some (PySem.W.tabObj #[])) (tb_full_ones : ∀ {f : Addr} {oc : Value} {od : Option Addr} {fd0 : FuncData} {osl : Array (Option Value)}, PySem.W.nsIn K mainGlobals "full_ones" = some (some (.ref f)) → K.lookup f = some ⟨oc, od, .func fd0, osl⟩ → ∃ c P, fd0.code = .ref c ∧ PySem.W.CodeHd h c P ∧ h.get? P = some (PySem.W.tabObj #[])) (nt : PySem.W.noTabs K = true)
    {f_all_rows : Addr} {oc_all_rows kV_all_rows doc_all_rows pm_all_rows cd_all_rows ct_all_rows : Value} {od_all_rows an_all_rows : Option Addr} {os_all_rows : Array (Option Value)}
    {f_bands_of : Addr} {oc_bands_of kV_bands_of doc_bands_of pm_bands_of cd_bands_of ct_bands_of : Value} {od_bands_of an_bands_of : Option Addr} {os_bands_of : Array (Option Value)}
    {f_lengths_left : Addr} {oc_lengths_left kV_lengths_left doc_lengths_left pm_lengths_left cd_lengths_left ct_lengths_left : Value} {od_lengths_left an_lengths_left : Option Addr} {os_lengths_left : Array (Option Value)}
    {f_can_be_cut : Addr} {oc_can_be_cut kV_can_be_cut doc_can_be_cut pm_can_be_cut cd_can_be_cut ct_can_be_cut : Value} {od_can_be_cut an_can_be_cut : Option Addr} {os_can_be_cut : Array (Option Value)}
    {f_rank_of : Addr} {oc_rank_of kV_rank_of doc_rank_of pm_rank_of cd_rank_of ct_rank_of : Value} {od_rank_of an_rank_of : Option Addr} {os_rank_of : Array (Option Value)}
    {f_best_cutting : Addr} {oc_best_cutting kV_best_cutting doc_best_cutting pm_best_cutting cd_best_cutting ct_best_cutting : Value} {od_best_cutting an_best_cutting : Option Addr} {os_best_cutting : Array (Option Value)}
    {f_strips_after : Addr} {oc_strips_after kV_strips_after doc_strips_after pm_strips_after cd_strips_after ct_strips_after : Value} {od_strips_after an_strips_after : Option Addr} {os_strips_after : Array (Option Value)}
    {f_is_girth : Addr} {oc_is_girth kV_is_girth doc_is_girth pm_is_girth cd_is_girth ct_is_girth : Value} {od_is_girth an_is_girth : Option Addr} {os_is_girth : Array (Option Value)}
    {f_is_ring : Addr} {oc_is_ring kV_is_ring doc_is_ring pm_is_ring cd_is_ring ct_is_ring : Value} {od_is_ring an_is_ring : Option Addr} {os_is_ring : Array (Option Value)}
    {f_spellings : Addr} {oc_spellings kV_spellings doc_spellings pm_spellings cd_spellings ct_spellings : Value} {od_spellings an_spellings : Option Addr} {os_spellings : Array (Option Value)}
    {f_width_of : Addr} {oc_width_of kV_width_of doc_width_of pm_width_of cd_width_of ct_width_of : Value} {od_width_of an_width_of : Option Addr} {os_width_of : Array (Option Value)}
    {f_dark_place : Addr} {oc_dark_place kV_dark_place doc_dark_place pm_dark_place cd_dark_place ct_dark_place : Value} {od_dark_place an_dark_place : Option Addr} {os_dark_place : Array (Option Value)}
    {f_short_sort : Addr} {oc_short_sort kV_short_sort doc_short_sort pm_short_sort cd_short_sort ct_short_sort : Value} {od_short_sort an_short_sort : Option Addr} {os_short_sort : Array (Option Value)}
    {f_may_be_set : Addr} {oc_may_be_set kV_may_be_set doc_may_be_set pm_may_be_set cd_may_be_set ct_may_be_set : Value} {od_may_be_set an_may_be_set : Option Addr} {os_may_be_set : Array (Option Value)}
    {f_rings_to_set : Addr} {oc_rings_to_set kV_rings_to_set doc_rings_to_set pm_rings_to_set cd_rings_to_set ct_rings_to_set : Value} {od_rings_to_set an_rings_to_set : Option Addr} {os_rings_to_set : Array (Option Value)}
    {f_first_ring : Addr} {oc_first_ring kV_first_ring doc_first_ring pm_first_ring cd_first_ring ct_first_ring : Value} {od_first_ring an_first_ring : Option Addr} {os_first_ring : Array (Option Value)}
    {f_count_rings : Addr} {oc_count_rings kV_count_rings doc_count_rings pm_count_rings cd_count_rings ct_count_rings : Value} {od_count_rings an_count_rings : Option Addr} {os_count_rings : Array (Option Value)}
    {f_tell_first : Addr} {oc_tell_first kV_tell_first doc_tell_first pm_tell_first cd_tell_first ct_tell_first : Value} {od_tell_first an_tell_first : Option Addr} {os_tell_first : Array (Option Value)}
    {f_tell_may : Addr} {oc_tell_may kV_tell_may doc_tell_may pm_tell_may cd_tell_may ct_tell_may : Value} {od_tell_may an_tell_may : Option Addr} {os_tell_may : Array (Option Value)}
    {f_tell_same : Addr} {oc_tell_same kV_tell_same doc_tell_same pm_tell_same cd_tell_same ct_tell_same : Value} {od_tell_same an_tell_same : Option Addr} {os_tell_same : Array (Option Value)}
    {f_is_sort : Addr} {oc_is_sort kV_is_sort doc_is_sort pm_is_sort cd_is_sort ct_is_sort : Value} {od_is_sort an_is_sort : Option Addr} {os_is_sort : Array (Option Value)}
    {f_begun_shop : Addr} {oc_begun_shop kV_begun_shop doc_begun_shop pm_begun_shop cd_begun_shop ct_begun_shop : Value} {od_begun_shop an_begun_shop : Option Addr} {os_begun_shop : Array (Option Value)}
    {f_add_panes : Addr} {oc_add_panes kV_add_panes doc_add_panes pm_add_panes cd_add_panes ct_add_panes : Value} {od_add_panes an_add_panes : Option Addr} {os_add_panes : Array (Option Value)}
    {f_add_strips : Addr} {oc_add_strips kV_add_strips doc_add_strips pm_add_strips cd_add_strips ct_add_strips : Value} {od_add_strips an_add_strips : Option Addr} {os_add_strips : Array (Option Value)}
    {f_make_lantern : Addr} {oc_make_lantern kV_make_lantern doc_make_lantern pm_make_lantern cd_make_lantern ct_make_lantern : Value} {od_make_lantern an_make_lantern : Option Addr} {os_make_lantern : Array (Option Value)}
    {f_stand_lantern : Addr} {oc_stand_lantern kV_stand_lantern doc_stand_lantern pm_stand_lantern cd_stand_lantern ct_stand_lantern : Value} {od_stand_lantern an_stand_lantern : Option Addr} {os_stand_lantern : Array (Option Value)}
    {f_cut_bands : Addr} {oc_cut_bands kV_cut_bands doc_cut_bands pm_cut_bands cd_cut_bands ct_cut_bands : Value} {od_cut_bands an_cut_bands : Option Addr} {os_cut_bands : Array (Option Value)}
    {f_standing : Addr} {oc_standing kV_standing doc_standing pm_standing cd_standing ct_standing : Value} {od_standing an_standing : Option Addr} {os_standing : Array (Option Value)}
    {f_oil_when_full : Addr} {oc_oil_when_full kV_oil_when_full doc_oil_when_full pm_oil_when_full cd_oil_when_full ct_oil_when_full : Value} {od_oil_when_full an_oil_when_full : Option Addr} {os_oil_when_full : Array (Option Value)}
    {f_brass_in : Addr} {oc_brass_in kV_brass_in doc_brass_in pm_brass_in cd_brass_in ct_brass_in : Value} {od_brass_in an_brass_in : Option Addr} {os_brass_in : Array (Option Value)}
    {f_tell_lantern : Addr} {oc_tell_lantern kV_tell_lantern doc_tell_lantern pm_tell_lantern cd_tell_lantern ct_tell_lantern : Value} {od_tell_lantern an_tell_lantern : Option Addr} {os_tell_lantern : Array (Option Value)}
    {f_sell_lantern : Addr} {oc_sell_lantern kV_sell_lantern doc_sell_lantern pm_sell_lantern cd_sell_lantern ct_sell_lantern : Value} {od_sell_lantern an_sell_lantern : Option Addr} {os_sell_lantern : Array (Option Value)}
    {f_tell_glass : Addr} {oc_tell_glass kV_tell_glass doc_tell_glass pm_tell_glass cd_tell_glass ct_tell_glass : Value} {od_tell_glass an_tell_glass : Option Addr} {os_tell_glass : Array (Option Value)}
    {f_tell_strips : Addr} {oc_tell_strips kV_tell_strips doc_tell_strips pm_tell_strips cd_tell_strips ct_tell_strips : Value} {od_tell_strips an_tell_strips : Option Addr} {os_tell_strips : Array (Option Value)}
    {f_mend_lantern : Addr} {oc_mend_lantern kV_mend_lantern doc_mend_lantern pm_mend_lantern cd_mend_lantern ct_mend_lantern : Value} {od_mend_lantern an_mend_lantern : Option Addr} {os_mend_lantern : Array (Option Value)}
    {f_mending_sort : Addr} {oc_mending_sort kV_mending_sort doc_mending_sort pm_mending_sort cd_mending_sort ct_mending_sort : Value} {od_mending_sort an_mending_sort : Option Addr} {os_mending_sort : Array (Option Value)}
    {f_can_mend : Addr} {oc_can_mend kV_can_mend doc_can_mend pm_can_mend cd_can_mend ct_can_mend : Value} {od_can_mend an_can_mend : Option Addr} {os_can_mend : Array (Option Value)}
    {f_fill_lantern : Addr} {oc_fill_lantern kV_fill_lantern doc_fill_lantern pm_fill_lantern cd_fill_lantern ct_fill_lantern : Value} {od_fill_lantern an_fill_lantern : Option Addr} {os_fill_lantern : Array (Option Value)}
    {f_burn_night : Addr} {oc_burn_night kV_burn_night doc_burn_night pm_burn_night cd_burn_night ct_burn_night : Value} {od_burn_night an_burn_night : Option Addr} {os_burn_night : Array (Option Value)}
    {f_burnt_in_a_night : Addr} {oc_burnt_in_a_night kV_burnt_in_a_night doc_burnt_in_a_night pm_burnt_in_a_night cd_burnt_in_a_night ct_burnt_in_a_night : Value} {od_burnt_in_a_night an_burnt_in_a_night : Option Addr} {os_burnt_in_a_night : Array (Option Value)}
    {f_top_lanterns : Addr} {oc_top_lanterns kV_top_lanterns doc_top_lanterns pm_top_lanterns cd_top_lanterns ct_top_lanterns : Value} {od_top_lanterns an_top_lanterns : Option Addr} {os_top_lanterns : Array (Option Value)}
    {f_oil_in_full : Addr} {oc_oil_in_full kV_oil_in_full doc_oil_in_full pm_oil_in_full cd_oil_in_full ct_oil_in_full : Value} {od_oil_in_full an_oil_in_full : Option Addr} {os_oil_in_full : Array (Option Value)}
    {f_full_ones : Addr} {oc_full_ones kV_full_ones doc_full_ones pm_full_ones cd_full_ones ct_full_ones : Value} {od_full_ones an_full_ones : Option Addr} {os_full_ones : Array (Option Value)}
    {f_shares_of : Addr} {oc_shares_of kV_shares_of doc_shares_of pm_shares_of cd_shares_of ct_shares_of : Value} {od_shares_of an_shares_of : Option Addr} {os_shares_of : Array (Option Value)}
    {f_answer_in : Addr} {oc_answer_in kV_answer_in doc_answer_in pm_answer_in cd_answer_in ct_answer_in : Value} {od_answer_in an_answer_in : Option Addr} {os_answer_in : Array (Option Value)}
    {f_read_calls : Addr} {oc_read_calls kV_read_calls doc_read_calls pm_read_calls cd_read_calls ct_read_calls : Value} {od_read_calls an_read_calls : Option Addr} {os_read_calls : Array (Option Value)}
    {f_read_lists : Addr} {oc_read_lists kV_read_lists doc_read_lists pm_read_lists cd_read_lists ct_read_lists : Value} {od_read_lists an_read_lists : Option Addr} {os_read_lists : Array (Option Value)}
    {f_answers : Addr} {oc_answers kV_answers doc_answers pm_answers cd_answers ct_answers : Value} {od_answers an_answers : Option Addr} {os_answers : Array (Option Value)}
    {t_SHORTEST_STRIP : Tok}
    {t_FEWEST_PANES : Tok}
    {t_MOST_PANES : Tok}
    {t_LEAST_GIRTH : Tok}
    {t_GREATEST_GIRTH : Tok}
    {t_SHORTEST_NEW : Tok}
    {t_LONGEST_NEW : Tok}
    {t_MOST_SORTS : Tok}
    {t_WIDEST : Tok}
    {t_MOST_PANES_IN_STOCK : Tok}
    {t_MOST_STRIPS : Tok}
    {t_MOST_LANTERNS : Tok}
    {t_BEGIN : Tok}
    {t_BURNT_PART : Tok}
    {t_PANES : Tok}
    {t_BRASS : Tok}
    {t_RINGS : Tok}
    {t_FIRST : Tok}
    {t_MAY : Tok}
    {t_SAME : Tok}
    {t_MAKE : Tok}
    {t_MEND : Tok}
    {t_FILL : Tok}
    {t_NIGHT : Tok}
    {t_TOP : Tok}
    {t_SELL : Tok}
    {t_LANTERN : Tok}
    {t_GLASS : Tok}
    {t_STRIPS : Tok}
    {C f_Shop : Addr} {oc_Shop kV_Shop doc_Shop pm_Shop cd_Shop ct_Shop : Value} {od_Shop an_Shop : Option Addr} {os_Shop : Array (Option Value)}
    {CL f_Lantern : Addr} {oc_Lantern kV_Lantern doc_Lantern pm_Lantern cd_Lantern ct_Lantern : Value} {od_Lantern an_Lantern : Option Addr} {os_Lantern : Array (Option Value)}
    (a_all_rows : PySem.W.nsIn K mainGlobals "all_rows" = some (some (.ref f_all_rows)))
    (l_all_rows : K.lookup f_all_rows = some ⟨oc_all_rows, od_all_rows, .func (PySem.W.fnOf "all_rows" "all_rows" (defArgs sRows) (defBody sRows) (defScope sRows) .none kV_all_rows doc_all_rows pm_all_rows an_all_rows cd_all_rows ct_all_rows), os_all_rows⟩)
    (c_all_rows : PySem.W.codeIn K cd_all_rows "all_rows" = true)
    (k_all_rows : PySem.W.keepIn K (.ref f_all_rows) = true)
    (a_bands_of : PySem.W.nsIn K mainGlobals "bands_of" = some (some (.ref f_bands_of)))
    (l_bands_of : K.lookup f_bands_of = some ⟨oc_bands_of, od_bands_of, .func (PySem.W.fnOf "bands_of" "bands_of" (defArgs sBands) (defBody sBands) (defScope sBands) .none kV_bands_of doc_bands_of pm_bands_of an_bands_of cd_bands_of ct_bands_of), os_bands_of⟩)
    (c_bands_of : PySem.W.codeIn K cd_bands_of "bands_of" = true)
    (k_bands_of : PySem.W.keepIn K (.ref f_bands_of) = true)
    (a_lengths_left : PySem.W.nsIn K mainGlobals "lengths_left" = some (some (.ref f_lengths_left)))
    (l_lengths_left : K.lookup f_lengths_left = some ⟨oc_lengths_left, od_lengths_left, .func (PySem.W.fnOf "lengths_left" "lengths_left" (defArgs sLeft) (defBody sLeft) (defScope sLeft) .none kV_lengths_left doc_lengths_left pm_lengths_left an_lengths_left cd_lengths_left ct_lengths_left), os_lengths_left⟩)
    (c_lengths_left : PySem.W.codeIn K cd_lengths_left "lengths_left" = true)
    (k_lengths_left : PySem.W.keepIn K (.ref f_lengths_left) = true)
    (a_can_be_cut : PySem.W.nsIn K mainGlobals "can_be_cut" = some (some (.ref f_can_be_cut)))
    (l_can_be_cut : K.lookup f_can_be_cut = some ⟨oc_can_be_cut, od_can_be_cut, .func (PySem.W.fnOf "can_be_cut" "can_be_cut" (defArgs sCan) (defBody sCan) (defScope sCan) .none kV_can_be_cut doc_can_be_cut pm_can_be_cut an_can_be_cut cd_can_be_cut ct_can_be_cut), os_can_be_cut⟩)
    (c_can_be_cut : PySem.W.codeIn K cd_can_be_cut "can_be_cut" = true)
    (k_can_be_cut : PySem.W.keepIn K (.ref f_can_be_cut) = true)
    (a_rank_of : PySem.W.nsIn K mainGlobals "rank_of" = some (some (.ref f_rank_of)))
    (l_rank_of : K.lookup f_rank_of = some ⟨oc_rank_of, od_rank_of, .func (PySem.W.fnOf "rank_of" "rank_of" (defArgs sRank) (defBody sRank) (defScope sRank) .none kV_rank_of doc_rank_of pm_rank_of an_rank_of cd_rank_of ct_rank_of), os_rank_of⟩)
    (c_rank_of : PySem.W.codeIn K cd_rank_of "rank_of" = true)
    (k_rank_of : PySem.W.keepIn K (.ref f_rank_of) = true)
    (a_best_cutting : PySem.W.nsIn K mainGlobals "best_cutting" = some (some (.ref f_best_cutting)))
    (l_best_cutting : K.lookup f_best_cutting = some ⟨oc_best_cutting, od_best_cutting, .func (PySem.W.fnOf "best_cutting" "best_cutting" (defArgs sBest) (defBody sBest) (defScope sBest) .none kV_best_cutting doc_best_cutting pm_best_cutting an_best_cutting cd_best_cutting ct_best_cutting), os_best_cutting⟩)
    (c_best_cutting : PySem.W.codeIn K cd_best_cutting "best_cutting" = true)
    (k_best_cutting : PySem.W.keepIn K (.ref f_best_cutting) = true)
    (a_strips_after : PySem.W.nsIn K mainGlobals "strips_after" = some (some (.ref f_strips_after)))
    (l_strips_after : K.lookup f_strips_after = some ⟨oc_strips_after, od_strips_after, .func (PySem.W.fnOf "strips_after" "strips_after" (defArgs sAfter) (defBody sAfter) (defScope sAfter) .none kV_strips_after doc_strips_after pm_strips_after an_strips_after cd_strips_after ct_strips_after), os_strips_after⟩)
    (c_strips_after : PySem.W.codeIn K cd_strips_after "strips_after" = true)
    (k_strips_after : PySem.W.keepIn K (.ref f_strips_after) = true)
    (a_is_girth : PySem.W.nsIn K mainGlobals "is_girth" = some (some (.ref f_is_girth)))
    (l_is_girth : K.lookup f_is_girth = some ⟨oc_is_girth, od_is_girth, .func (PySem.W.fnOf "is_girth" "is_girth" (defArgs sGirth) (defBody sGirth) (defScope sGirth) .none kV_is_girth doc_is_girth pm_is_girth an_is_girth cd_is_girth ct_is_girth), os_is_girth⟩)
    (c_is_girth : PySem.W.codeIn K cd_is_girth "is_girth" = true)
    (k_is_girth : PySem.W.keepIn K (.ref f_is_girth) = true)
    (a_is_ring : PySem.W.nsIn K mainGlobals "is_ring" = some (some (.ref f_is_ring)))
    (l_is_ring : K.lookup f_is_ring = some ⟨oc_is_ring, od_is_ring, .func (PySem.W.fnOf "is_ring" "is_ring" (defArgs sIsRing) (defBody sIsRing) (defScope sIsRing) .none kV_is_ring doc_is_ring pm_is_ring an_is_ring cd_is_ring ct_is_ring), os_is_ring⟩)
    (c_is_ring : PySem.W.codeIn K cd_is_ring "is_ring" = true)
    (k_is_ring : PySem.W.keepIn K (.ref f_is_ring) = true)
    (a_spellings : PySem.W.nsIn K mainGlobals "spellings" = some (some (.ref f_spellings)))
    (l_spellings : K.lookup f_spellings = some ⟨oc_spellings, od_spellings, .func (PySem.W.fnOf "spellings" "spellings" (defArgs sSpell) (defBody sSpell) (defScope sSpell) .none kV_spellings doc_spellings pm_spellings an_spellings cd_spellings ct_spellings), os_spellings⟩)
    (c_spellings : PySem.W.codeIn K cd_spellings "spellings" = true)
    (k_spellings : PySem.W.keepIn K (.ref f_spellings) = true)
    (a_width_of : PySem.W.nsIn K mainGlobals "width_of" = some (some (.ref f_width_of)))
    (l_width_of : K.lookup f_width_of = some ⟨oc_width_of, od_width_of, .func (PySem.W.fnOf "width_of" "width_of" (defArgs sWidth) (defBody sWidth) (defScope sWidth) .none kV_width_of doc_width_of pm_width_of an_width_of cd_width_of ct_width_of), os_width_of⟩)
    (c_width_of : PySem.W.codeIn K cd_width_of "width_of" = true)
    (k_width_of : PySem.W.keepIn K (.ref f_width_of) = true)
    (a_dark_place : PySem.W.nsIn K mainGlobals "dark_place" = some (some (.ref f_dark_place)))
    (l_dark_place : K.lookup f_dark_place = some ⟨oc_dark_place, od_dark_place, .func (PySem.W.fnOf "dark_place" "dark_place" (defArgs sDark) (defBody sDark) (defScope sDark) .none kV_dark_place doc_dark_place pm_dark_place an_dark_place cd_dark_place ct_dark_place), os_dark_place⟩)
    (c_dark_place : PySem.W.codeIn K cd_dark_place "dark_place" = true)
    (k_dark_place : PySem.W.keepIn K (.ref f_dark_place) = true)
    (a_short_sort : PySem.W.nsIn K mainGlobals "short_sort" = some (some (.ref f_short_sort)))
    (l_short_sort : K.lookup f_short_sort = some ⟨oc_short_sort, od_short_sort, .func (PySem.W.fnOf "short_sort" "short_sort" (defArgs sShort) (defBody sShort) (defScope sShort) .none kV_short_sort doc_short_sort pm_short_sort an_short_sort cd_short_sort ct_short_sort), os_short_sort⟩)
    (c_short_sort : PySem.W.codeIn K cd_short_sort "short_sort" = true)
    (k_short_sort : PySem.W.keepIn K (.ref f_short_sort) = true)
    (a_may_be_set : PySem.W.nsIn K mainGlobals "may_be_set" = some (some (.ref f_may_be_set)))
    (l_may_be_set : K.lookup f_may_be_set = some ⟨oc_may_be_set, od_may_be_set, .func (PySem.W.fnOf "may_be_set" "may_be_set" (defArgs sMayB) (defBody sMayB) (defScope sMayB) .none kV_may_be_set doc_may_be_set pm_may_be_set an_may_be_set cd_may_be_set ct_may_be_set), os_may_be_set⟩)
    (c_may_be_set : PySem.W.codeIn K cd_may_be_set "may_be_set" = true)
    (k_may_be_set : PySem.W.keepIn K (.ref f_may_be_set) = true)
    (a_rings_to_set : PySem.W.nsIn K mainGlobals "rings_to_set" = some (some (.ref f_rings_to_set)))
    (l_rings_to_set : K.lookup f_rings_to_set = some ⟨oc_rings_to_set, od_rings_to_set, .func (PySem.W.fnOf "rings_to_set" "rings_to_set" (defArgs sRings) (defBody sRings) (defScope sRings) .none kV_rings_to_set doc_rings_to_set pm_rings_to_set an_rings_to_set cd_rings_to_set ct_rings_to_set), os_rings_to_set⟩)
    (c_rings_to_set : PySem.W.codeIn K cd_rings_to_set "rings_to_set" = true)
    (k_rings_to_set : PySem.W.keepIn K (.ref f_rings_to_set) = true)
    (a_first_ring : PySem.W.nsIn K mainGlobals "first_ring" = some (some (.ref f_first_ring)))
    (l_first_ring : K.lookup f_first_ring = some ⟨oc_first_ring, od_first_ring, .func (PySem.W.fnOf "first_ring" "first_ring" (defArgs sFirst) (defBody sFirst) (defScope sFirst) .none kV_first_ring doc_first_ring pm_first_ring an_first_ring cd_first_ring ct_first_ring), os_first_ring⟩)
    (c_first_ring : PySem.W.codeIn K cd_first_ring "first_ring" = true)
    (k_first_ring : PySem.W.keepIn K (.ref f_first_ring) = true)
    (a_count_rings : PySem.W.nsIn K mainGlobals "count_rings" = some (some (.ref f_count_rings)))
    (l_count_rings : K.lookup f_count_rings = some ⟨oc_count_rings, od_count_rings, .func (PySem.W.fnOf "count_rings" "count_rings" (defArgs sCount) (defBody sCount) (defScope sCount) .none kV_count_rings doc_count_rings pm_count_rings an_count_rings cd_count_rings ct_count_rings), os_count_rings⟩)
    (c_count_rings : PySem.W.codeIn K cd_count_rings "count_rings" = true)
    (k_count_rings : PySem.W.keepIn K (.ref f_count_rings) = true)
    (a_tell_first : PySem.W.nsIn K mainGlobals "tell_first" = some (some (.ref f_tell_first)))
    (l_tell_first : K.lookup f_tell_first = some ⟨oc_tell_first, od_tell_first, .func (PySem.W.fnOf "tell_first" "tell_first" (defArgs sTFirst) (defBody sTFirst) (defScope sTFirst) .none kV_tell_first doc_tell_first pm_tell_first an_tell_first cd_tell_first ct_tell_first), os_tell_first⟩)
    (c_tell_first : PySem.W.codeIn K cd_tell_first "tell_first" = true)
    (k_tell_first : PySem.W.keepIn K (.ref f_tell_first) = true)
    (a_tell_may : PySem.W.nsIn K mainGlobals "tell_may" = some (some (.ref f_tell_may)))
    (l_tell_may : K.lookup f_tell_may = some ⟨oc_tell_may, od_tell_may, .func (PySem.W.fnOf "tell_may" "tell_may" (defArgs sTMay) (defBody sTMay) (defScope sTMay) .none kV_tell_may doc_tell_may pm_tell_may an_tell_may cd_tell_may ct_tell_may), os_tell_may⟩)
    (c_tell_may : PySem.W.codeIn K cd_tell_may "tell_may" = true)
    (k_tell_may : PySem.W.keepIn K (.ref f_tell_may) = true)
    (a_tell_same : PySem.W.nsIn K mainGlobals "tell_same" = some (some (.ref f_tell_same)))
    (l_tell_same : K.lookup f_tell_same = some ⟨oc_tell_same, od_tell_same, .func (PySem.W.fnOf "tell_same" "tell_same" (defArgs sTSame) (defBody sTSame) (defScope sTSame) .none kV_tell_same doc_tell_same pm_tell_same an_tell_same cd_tell_same ct_tell_same), os_tell_same⟩)
    (c_tell_same : PySem.W.codeIn K cd_tell_same "tell_same" = true)
    (k_tell_same : PySem.W.keepIn K (.ref f_tell_same) = true)
    (a_is_sort : PySem.W.nsIn K mainGlobals "is_sort" = some (some (.ref f_is_sort)))
    (l_is_sort : K.lookup f_is_sort = some ⟨oc_is_sort, od_is_sort, .func (PySem.W.fnOf "is_sort" "is_sort" (defArgs sIsSort) (defBody sIsSort) (defScope sIsSort) .none kV_is_sort doc_is_sort pm_is_sort an_is_sort cd_is_sort ct_is_sort), os_is_sort⟩)
    (c_is_sort : PySem.W.codeIn K cd_is_sort "is_sort" = true)
    (k_is_sort : PySem.W.keepIn K (.ref f_is_sort) = true)
    (a_begun_shop : PySem.W.nsIn K mainGlobals "begun_shop" = some (some (.ref f_begun_shop)))
    (l_begun_shop : K.lookup f_begun_shop = some ⟨oc_begun_shop, od_begun_shop, .func (PySem.W.fnOf "begun_shop" "begun_shop" (defArgs sBegun) (defBody sBegun) (defScope sBegun) .none kV_begun_shop doc_begun_shop pm_begun_shop an_begun_shop cd_begun_shop ct_begun_shop), os_begun_shop⟩)
    (c_begun_shop : PySem.W.codeIn K cd_begun_shop "begun_shop" = true)
    (k_begun_shop : PySem.W.keepIn K (.ref f_begun_shop) = true)
    (a_add_panes : PySem.W.nsIn K mainGlobals "add_panes" = some (some (.ref f_add_panes)))
    (l_add_panes : K.lookup f_add_panes = some ⟨oc_add_panes, od_add_panes, .func (PySem.W.fnOf "add_panes" "add_panes" (defArgs sPanes) (defBody sPanes) (defScope sPanes) .none kV_add_panes doc_add_panes pm_add_panes an_add_panes cd_add_panes ct_add_panes), os_add_panes⟩)
    (c_add_panes : PySem.W.codeIn K cd_add_panes "add_panes" = true)
    (k_add_panes : PySem.W.keepIn K (.ref f_add_panes) = true)
    (a_add_strips : PySem.W.nsIn K mainGlobals "add_strips" = some (some (.ref f_add_strips)))
    (l_add_strips : K.lookup f_add_strips = some ⟨oc_add_strips, od_add_strips, .func (PySem.W.fnOf "add_strips" "add_strips" (defArgs sStrips) (defBody sStrips) (defScope sStrips) .none kV_add_strips doc_add_strips pm_add_strips an_add_strips cd_add_strips ct_add_strips), os_add_strips⟩)
    (c_add_strips : PySem.W.codeIn K cd_add_strips "add_strips" = true)
    (k_add_strips : PySem.W.keepIn K (.ref f_add_strips) = true)
    (a_make_lantern : PySem.W.nsIn K mainGlobals "make_lantern" = some (some (.ref f_make_lantern)))
    (l_make_lantern : K.lookup f_make_lantern = some ⟨oc_make_lantern, od_make_lantern, .func (PySem.W.fnOf "make_lantern" "make_lantern" (defArgs sMake) (defBody sMake) (defScope sMake) .none kV_make_lantern doc_make_lantern pm_make_lantern an_make_lantern cd_make_lantern ct_make_lantern), os_make_lantern⟩)
    (c_make_lantern : PySem.W.codeIn K cd_make_lantern "make_lantern" = true)
    (k_make_lantern : PySem.W.keepIn K (.ref f_make_lantern) = true)
    (a_stand_lantern : PySem.W.nsIn K mainGlobals "stand_lantern" = some (some (.ref f_stand_lantern)))
    (l_stand_lantern : K.lookup f_stand_lantern = some ⟨oc_stand_lantern, od_stand_lantern, .func (PySem.W.fnOf "stand_lantern" "stand_lantern" (defArgs sStand) (defBody sStand) (defScope sStand) .none kV_stand_lantern doc_stand_lantern pm_stand_lantern an_stand_lantern cd_stand_lantern ct_stand_lantern), os_stand_lantern⟩)
    (c_stand_lantern : PySem.W.codeIn K cd_stand_lantern "stand_lantern" = true)
    (k_stand_lantern : PySem.W.keepIn K (.ref f_stand_lantern) = true)
    (a_cut_bands : PySem.W.nsIn K mainGlobals "cut_bands" = some (some (.ref f_cut_bands)))
    (l_cut_bands : K.lookup f_cut_bands = some ⟨oc_cut_bands, od_cut_bands, .func (PySem.W.fnOf "cut_bands" "cut_bands" (defArgs sCut) (defBody sCut) (defScope sCut) .none kV_cut_bands doc_cut_bands pm_cut_bands an_cut_bands cd_cut_bands ct_cut_bands), os_cut_bands⟩)
    (c_cut_bands : PySem.W.codeIn K cd_cut_bands "cut_bands" = true)
    (k_cut_bands : PySem.W.keepIn K (.ref f_cut_bands) = true)
    (a_standing : PySem.W.nsIn K mainGlobals "standing" = some (some (.ref f_standing)))
    (l_standing : K.lookup f_standing = some ⟨oc_standing, od_standing, .func (PySem.W.fnOf "standing" "standing" (defArgs sStanding) (defBody sStanding) (defScope sStanding) .none kV_standing doc_standing pm_standing an_standing cd_standing ct_standing), os_standing⟩)
    (c_standing : PySem.W.codeIn K cd_standing "standing" = true)
    (k_standing : PySem.W.keepIn K (.ref f_standing) = true)
    (a_oil_when_full : PySem.W.nsIn K mainGlobals "oil_when_full" = some (some (.ref f_oil_when_full)))
    (l_oil_when_full : K.lookup f_oil_when_full = some ⟨oc_oil_when_full, od_oil_when_full, .func (PySem.W.fnOf "oil_when_full" "oil_when_full" (defArgs sFull) (defBody sFull) (defScope sFull) .none kV_oil_when_full doc_oil_when_full pm_oil_when_full an_oil_when_full cd_oil_when_full ct_oil_when_full), os_oil_when_full⟩)
    (c_oil_when_full : PySem.W.codeIn K cd_oil_when_full "oil_when_full" = true)
    (k_oil_when_full : PySem.W.keepIn K (.ref f_oil_when_full) = true)
    (a_brass_in : PySem.W.nsIn K mainGlobals "brass_in" = some (some (.ref f_brass_in)))
    (l_brass_in : K.lookup f_brass_in = some ⟨oc_brass_in, od_brass_in, .func (PySem.W.fnOf "brass_in" "brass_in" (defArgs sBrassIn) (defBody sBrassIn) (defScope sBrassIn) .none kV_brass_in doc_brass_in pm_brass_in an_brass_in cd_brass_in ct_brass_in), os_brass_in⟩)
    (c_brass_in : PySem.W.codeIn K cd_brass_in "brass_in" = true)
    (k_brass_in : PySem.W.keepIn K (.ref f_brass_in) = true)
    (a_tell_lantern : PySem.W.nsIn K mainGlobals "tell_lantern" = some (some (.ref f_tell_lantern)))
    (l_tell_lantern : K.lookup f_tell_lantern = some ⟨oc_tell_lantern, od_tell_lantern, .func (PySem.W.fnOf "tell_lantern" "tell_lantern" (defArgs sTLan) (defBody sTLan) (defScope sTLan) .none kV_tell_lantern doc_tell_lantern pm_tell_lantern an_tell_lantern cd_tell_lantern ct_tell_lantern), os_tell_lantern⟩)
    (c_tell_lantern : PySem.W.codeIn K cd_tell_lantern "tell_lantern" = true)
    (k_tell_lantern : PySem.W.keepIn K (.ref f_tell_lantern) = true)
    (a_sell_lantern : PySem.W.nsIn K mainGlobals "sell_lantern" = some (some (.ref f_sell_lantern)))
    (l_sell_lantern : K.lookup f_sell_lantern = some ⟨oc_sell_lantern, od_sell_lantern, .func (PySem.W.fnOf "sell_lantern" "sell_lantern" (defArgs sSell) (defBody sSell) (defScope sSell) .none kV_sell_lantern doc_sell_lantern pm_sell_lantern an_sell_lantern cd_sell_lantern ct_sell_lantern), os_sell_lantern⟩)
    (c_sell_lantern : PySem.W.codeIn K cd_sell_lantern "sell_lantern" = true)
    (k_sell_lantern : PySem.W.keepIn K (.ref f_sell_lantern) = true)
    (a_tell_glass : PySem.W.nsIn K mainGlobals "tell_glass" = some (some (.ref f_tell_glass)))
    (l_tell_glass : K.lookup f_tell_glass = some ⟨oc_tell_glass, od_tell_glass, .func (PySem.W.fnOf "tell_glass" "tell_glass" (defArgs sGlass) (defBody sGlass) (defScope sGlass) .none kV_tell_glass doc_tell_glass pm_tell_glass an_tell_glass cd_tell_glass ct_tell_glass), os_tell_glass⟩)
    (c_tell_glass : PySem.W.codeIn K cd_tell_glass "tell_glass" = true)
    (k_tell_glass : PySem.W.keepIn K (.ref f_tell_glass) = true)
    (a_tell_strips : PySem.W.nsIn K mainGlobals "tell_strips" = some (some (.ref f_tell_strips)))
    (l_tell_strips : K.lookup f_tell_strips = some ⟨oc_tell_strips, od_tell_strips, .func (PySem.W.fnOf "tell_strips" "tell_strips" (defArgs sTStr) (defBody sTStr) (defScope sTStr) .none kV_tell_strips doc_tell_strips pm_tell_strips an_tell_strips cd_tell_strips ct_tell_strips), os_tell_strips⟩)
    (c_tell_strips : PySem.W.codeIn K cd_tell_strips "tell_strips" = true)
    (k_tell_strips : PySem.W.keepIn K (.ref f_tell_strips) = true)
    (a_mend_lantern : PySem.W.nsIn K mainGlobals "mend_lantern" = some (some (.ref f_mend_lantern)))
    (l_mend_lantern : K.lookup f_mend_lantern = some ⟨oc_mend_lantern, od_mend_lantern, .func (PySem.W.fnOf "mend_lantern" "mend_lantern" (defArgs sMend) (defBody sMend) (defScope sMend) .none kV_mend_lantern doc_mend_lantern pm_mend_lantern an_mend_lantern cd_mend_lantern ct_mend_lantern), os_mend_lantern⟩)
    (c_mend_lantern : PySem.W.codeIn K cd_mend_lantern "mend_lantern" = true)
    (k_mend_lantern : PySem.W.keepIn K (.ref f_mend_lantern) = true)
    (a_mending_sort : PySem.W.nsIn K mainGlobals "mending_sort" = some (some (.ref f_mending_sort)))
    (l_mending_sort : K.lookup f_mending_sort = some ⟨oc_mending_sort, od_mending_sort, .func (PySem.W.fnOf "mending_sort" "mending_sort" (defArgs sMendS) (defBody sMendS) (defScope sMendS) .none kV_mending_sort doc_mending_sort pm_mending_sort an_mending_sort cd_mending_sort ct_mending_sort), os_mending_sort⟩)
    (c_mending_sort : PySem.W.codeIn K cd_mending_sort "mending_sort" = true)
    (k_mending_sort : PySem.W.keepIn K (.ref f_mending_sort) = true)
    (a_can_mend : PySem.W.nsIn K mainGlobals "can_mend" = some (some (.ref f_can_mend)))
    (l_can_mend : K.lookup f_can_mend = some ⟨oc_can_mend, od_can_mend, .func (PySem.W.fnOf "can_mend" "can_mend" (defArgs sCanM) (defBody sCanM) (defScope sCanM) .none kV_can_mend doc_can_mend pm_can_mend an_can_mend cd_can_mend ct_can_mend), os_can_mend⟩)
    (c_can_mend : PySem.W.codeIn K cd_can_mend "can_mend" = true)
    (k_can_mend : PySem.W.keepIn K (.ref f_can_mend) = true)
    (a_fill_lantern : PySem.W.nsIn K mainGlobals "fill_lantern" = some (some (.ref f_fill_lantern)))
    (l_fill_lantern : K.lookup f_fill_lantern = some ⟨oc_fill_lantern, od_fill_lantern, .func (PySem.W.fnOf "fill_lantern" "fill_lantern" (defArgs sFill) (defBody sFill) (defScope sFill) .none kV_fill_lantern doc_fill_lantern pm_fill_lantern an_fill_lantern cd_fill_lantern ct_fill_lantern), os_fill_lantern⟩)
    (c_fill_lantern : PySem.W.codeIn K cd_fill_lantern "fill_lantern" = true)
    (k_fill_lantern : PySem.W.keepIn K (.ref f_fill_lantern) = true)
    (a_burn_night : PySem.W.nsIn K mainGlobals "burn_night" = some (some (.ref f_burn_night)))
    (l_burn_night : K.lookup f_burn_night = some ⟨oc_burn_night, od_burn_night, .func (PySem.W.fnOf "burn_night" "burn_night" (defArgs sNight) (defBody sNight) (defScope sNight) .none kV_burn_night doc_burn_night pm_burn_night an_burn_night cd_burn_night ct_burn_night), os_burn_night⟩)
    (c_burn_night : PySem.W.codeIn K cd_burn_night "burn_night" = true)
    (k_burn_night : PySem.W.keepIn K (.ref f_burn_night) = true)
    (a_burnt_in_a_night : PySem.W.nsIn K mainGlobals "burnt_in_a_night" = some (some (.ref f_burnt_in_a_night)))
    (l_burnt_in_a_night : K.lookup f_burnt_in_a_night = some ⟨oc_burnt_in_a_night, od_burnt_in_a_night, .func (PySem.W.fnOf "burnt_in_a_night" "burnt_in_a_night" (defArgs sBurnt) (defBody sBurnt) (defScope sBurnt) .none kV_burnt_in_a_night doc_burnt_in_a_night pm_burnt_in_a_night an_burnt_in_a_night cd_burnt_in_a_night ct_burnt_in_a_night), os_burnt_in_a_night⟩)
    (c_burnt_in_a_night : PySem.W.codeIn K cd_burnt_in_a_night "burnt_in_a_night" = true)
    (k_burnt_in_a_night : PySem.W.keepIn K (.ref f_burnt_in_a_night) = true)
    (a_top_lanterns : PySem.W.nsIn K mainGlobals "top_lanterns" = some (some (.ref f_top_lanterns)))
    (l_top_lanterns : K.lookup f_top_lanterns = some ⟨oc_top_lanterns, od_top_lanterns, .func (PySem.W.fnOf "top_lanterns" "top_lanterns" (defArgs sTop) (defBody sTop) (defScope sTop) .none kV_top_lanterns doc_top_lanterns pm_top_lanterns an_top_lanterns cd_top_lanterns ct_top_lanterns), os_top_lanterns⟩)
    (c_top_lanterns : PySem.W.codeIn K cd_top_lanterns "top_lanterns" = true)
    (k_top_lanterns : PySem.W.keepIn K (.ref f_top_lanterns) = true)
    (a_oil_in_full : PySem.W.nsIn K mainGlobals "oil_in_full" = some (some (.ref f_oil_in_full)))
    (l_oil_in_full : K.lookup f_oil_in_full = some ⟨oc_oil_in_full, od_oil_in_full, .func (PySem.W.fnOf "oil_in_full" "oil_in_full" (defArgs sHeld) (defBody sHeld) (defScope sHeld) .none kV_oil_in_full doc_oil_in_full pm_oil_in_full an_oil_in_full cd_oil_in_full ct_oil_in_full), os_oil_in_full⟩)
    (c_oil_in_full : PySem.W.codeIn K cd_oil_in_full "oil_in_full" = true)
    (k_oil_in_full : PySem.W.keepIn K (.ref f_oil_in_full) = true)
    (a_full_ones : PySem.W.nsIn K mainGlobals "full_ones" = some (some (.ref f_full_ones)))
    (l_full_ones : K.lookup f_full_ones = some ⟨oc_full_ones, od_full_ones, .func (PySem.W.fnOf "full_ones" "full_ones" (defArgs sFullO) (defBody sFullO) (defScope sFullO) .none kV_full_ones doc_full_ones pm_full_ones an_full_ones cd_full_ones ct_full_ones), os_full_ones⟩)
    (c_full_ones : PySem.W.codeIn K cd_full_ones "full_ones" = true)
    (k_full_ones : PySem.W.keepIn K (.ref f_full_ones) = true)
    (a_shares_of : PySem.W.nsIn K mainGlobals "shares_of" = some (some (.ref f_shares_of)))
    (l_shares_of : K.lookup f_shares_of = some ⟨oc_shares_of, od_shares_of, .func (PySem.W.fnOf "shares_of" "shares_of" (defArgs sShares) (defBody sShares) (defScope sShares) .none kV_shares_of doc_shares_of pm_shares_of an_shares_of cd_shares_of ct_shares_of), os_shares_of⟩)
    (c_shares_of : PySem.W.codeIn K cd_shares_of "shares_of" = true)
    (k_shares_of : PySem.W.keepIn K (.ref f_shares_of) = true)
    (a_answer_in : PySem.W.nsIn K mainGlobals "answer_in" = some (some (.ref f_answer_in)))
    (l_answer_in : K.lookup f_answer_in = some ⟨oc_answer_in, od_answer_in, .func (PySem.W.fnOf "answer_in" "answer_in" (defArgs sAnsIn) (defBody sAnsIn) (defScope sAnsIn) .none kV_answer_in doc_answer_in pm_answer_in an_answer_in cd_answer_in ct_answer_in), os_answer_in⟩)
    (c_answer_in : PySem.W.codeIn K cd_answer_in "answer_in" = true)
    (k_answer_in : PySem.W.keepIn K (.ref f_answer_in) = true)
    (a_read_calls : PySem.W.nsIn K mainGlobals "read_calls" = some (some (.ref f_read_calls)))
    (l_read_calls : K.lookup f_read_calls = some ⟨oc_read_calls, od_read_calls, .func (PySem.W.fnOf "read_calls" "read_calls" (defArgs sRCalls) (defBody sRCalls) (defScope sRCalls) .none kV_read_calls doc_read_calls pm_read_calls an_read_calls cd_read_calls ct_read_calls), os_read_calls⟩)
    (c_read_calls : PySem.W.codeIn K cd_read_calls "read_calls" = true)
    (k_read_calls : PySem.W.keepIn K (.ref f_read_calls) = true)
    (a_read_lists : PySem.W.nsIn K mainGlobals "read_lists" = some (some (.ref f_read_lists)))
    (l_read_lists : K.lookup f_read_lists = some ⟨oc_read_lists, od_read_lists, .func (PySem.W.fnOf "read_lists" "read_lists" (defArgs sRLists) (defBody sRLists) (defScope sRLists) .none kV_read_lists doc_read_lists pm_read_lists an_read_lists cd_read_lists ct_read_lists), os_read_lists⟩)
    (c_read_lists : PySem.W.codeIn K cd_read_lists "read_lists" = true)
    (k_read_lists : PySem.W.keepIn K (.ref f_read_lists) = true)
    (a_answers : PySem.W.nsIn K mainGlobals "answers" = some (some (.ref f_answers)))
    (l_answers : K.lookup f_answers = some ⟨oc_answers, od_answers, .func (PySem.W.fnOf "answers" "answers" (defArgs sAnswers) (defBody sAnswers) (defScope sAnswers) .none kV_answers doc_answers pm_answers an_answers cd_answers ct_answers), os_answers⟩)
    (c_answers : PySem.W.codeIn K cd_answers "answers" = true)
    (k_answers : PySem.W.keepIn K (.ref f_answers) = true)
    (g_SHORTEST_STRIP : PySem.W.nsIn K mainGlobals "SHORTEST_STRIP" = some (some (.int 5 t_SHORTEST_STRIP)))
    (g_FEWEST_PANES : PySem.W.nsIn K mainGlobals "FEWEST_PANES" = some (some (.int 3 t_FEWEST_PANES)))
    (g_MOST_PANES : PySem.W.nsIn K mainGlobals "MOST_PANES" = some (some (.int 6 t_MOST_PANES)))
    (g_LEAST_GIRTH : PySem.W.nsIn K mainGlobals "LEAST_GIRTH" = some (some (.int 3 t_LEAST_GIRTH)))
    (g_GREATEST_GIRTH : PySem.W.nsIn K mainGlobals "GREATEST_GIRTH" = some (some (.int 60 t_GREATEST_GIRTH)))
    (g_SHORTEST_NEW : PySem.W.nsIn K mainGlobals "SHORTEST_NEW" = some (some (.int 20 t_SHORTEST_NEW)))
    (g_LONGEST_NEW : PySem.W.nsIn K mainGlobals "LONGEST_NEW" = some (some (.int 200 t_LONGEST_NEW)))
    (g_MOST_SORTS : PySem.W.nsIn K mainGlobals "MOST_SORTS" = some (some (.int 4 t_MOST_SORTS)))
    (g_WIDEST : PySem.W.nsIn K mainGlobals "WIDEST" = some (some (.int 20 t_WIDEST)))
    (g_MOST_PANES_IN_STOCK : PySem.W.nsIn K mainGlobals "MOST_PANES_IN_STOCK" = some (some (.int 99 t_MOST_PANES_IN_STOCK)))
    (g_MOST_STRIPS : PySem.W.nsIn K mainGlobals "MOST_STRIPS" = some (some (.int 8 t_MOST_STRIPS)))
    (g_MOST_LANTERNS : PySem.W.nsIn K mainGlobals "MOST_LANTERNS" = some (some (.int 6 t_MOST_LANTERNS)))
    (g_BEGIN : PySem.W.nsIn K mainGlobals "BEGIN" = some (some (.int 0 t_BEGIN)))
    (g_BURNT_PART : PySem.W.nsIn K mainGlobals "BURNT_PART" = some (some (.int 50 t_BURNT_PART)))
    (g_PANES : PySem.W.nsIn K mainGlobals "PANES" = some (some (.int 1 t_PANES)))
    (g_BRASS : PySem.W.nsIn K mainGlobals "BRASS" = some (some (.int 2 t_BRASS)))
    (g_RINGS : PySem.W.nsIn K mainGlobals "RINGS" = some (some (.int 3 t_RINGS)))
    (g_FIRST : PySem.W.nsIn K mainGlobals "FIRST" = some (some (.int 4 t_FIRST)))
    (g_MAY : PySem.W.nsIn K mainGlobals "MAY" = some (some (.int 5 t_MAY)))
    (g_SAME : PySem.W.nsIn K mainGlobals "SAME" = some (some (.int 6 t_SAME)))
    (g_MAKE : PySem.W.nsIn K mainGlobals "MAKE" = some (some (.int 7 t_MAKE)))
    (g_MEND : PySem.W.nsIn K mainGlobals "MEND" = some (some (.int 8 t_MEND)))
    (g_FILL : PySem.W.nsIn K mainGlobals "FILL" = some (some (.int 9 t_FILL)))
    (g_NIGHT : PySem.W.nsIn K mainGlobals "NIGHT" = some (some (.int 10 t_NIGHT)))
    (g_TOP : PySem.W.nsIn K mainGlobals "TOP" = some (some (.int 11 t_TOP)))
    (g_SELL : PySem.W.nsIn K mainGlobals "SELL" = some (some (.int 12 t_SELL)))
    (g_LANTERN : PySem.W.nsIn K mainGlobals "LANTERN" = some (some (.int 13 t_LANTERN)))
    (g_GLASS : PySem.W.nsIn K mainGlobals "GLASS" = some (some (.int 14 t_GLASS)))
    (g_STRIPS : PySem.W.nsIn K mainGlobals "STRIPS" = some (some (.int 15 t_STRIPS)))
    (n_len : PySem.W.nsIn K mainGlobals "len" = some none)
    (n_range : PySem.W.nsIn K mainGlobals "range" = some none)
    (n_min : PySem.W.nsIn K mainGlobals "min" = some none)
    (n_sum : PySem.W.nsIn K mainGlobals "sum" = some none)
    (n_all : PySem.W.nsIn K mainGlobals "all" = some none)
    (n_sorted : PySem.W.nsIn K mainGlobals "sorted" = some none)
    (n_set : PySem.W.nsIn K mainGlobals "set" = some none)
    (n_list : PySem.W.nsIn K mainGlobals "list" = some none)
    (n_reversed : PySem.W.nsIn K mainGlobals "reversed" = some none)
    (n_zip : PySem.W.nsIn K mainGlobals "zip" = some none)
    (n_enumerate : PySem.W.nsIn K mainGlobals "enumerate" = some none)
    (a_Shop : PySem.W.nsIn K mainGlobals "Shop" = some (some (.ref C)))
    (pg_Shop : PySem.W.plainGet K C Str.empty = true)
    (hd_Shop : PySem.W.hasDictIn K C = true)
    (po_Shop : PySem.W.plainOver K C = true)
    (sa_Shop : PySem.W.findIn K (.ref C) "__setattr__" = some (some (.builtin "object.__setattr__")))
    (no_Shop_new : PySem.W.findIn K (.ref C) "new" = some none)
    (no_Shop_widths : PySem.W.findIn K (.ref C) "widths" = some none)
    (no_Shop_painted : PySem.W.findIn K (.ref C) "painted" = some none)
    (no_Shop_stock : PySem.W.findIn K (.ref C) "stock" = some none)
    (no_Shop_strips : PySem.W.findIn K (.ref C) "strips" = some none)
    (no_Shop_lanterns : PySem.W.findIn K (.ref C) "lanterns" = some none)
    (no_Shop_made : PySem.W.findIn K (.ref C) "made" = some none)
    (no_Shop_panes_gone : PySem.W.findIn K (.ref C) "panes_gone" = some none)
    (no_Shop_brass_come : PySem.W.findIn K (.ref C) "brass_come" = some none)
    (no_Shop_scrap : PySem.W.findIn K (.ref C) "scrap" = some none)
    (no_Shop_brass_gone : PySem.W.findIn K (.ref C) "brass_gone" = some none)
    (mk_Shop : PySem.W.makesIn K C = true)
    (in_Shop : PySem.W.findIn K (.ref C) "__init__" = some (some (.ref f_Shop)))
    (fn_Shop : PySem.W.isFn K (.ref f_Shop) = true)
    (kc_Shop : PySem.W.keepIn K (.ref C) = true)
    (l_Shop : K.lookup f_Shop = some ⟨oc_Shop, od_Shop, .func (PySem.W.fnOf "__init__" "Shop.__init__" (defArgs sSInit) (defBody sSInit) (defScope sSInit) .none kV_Shop doc_Shop pm_Shop an_Shop cd_Shop ct_Shop), os_Shop⟩)
    (c_Shop : PySem.W.codeIn K cd_Shop "Shop.__init__" = true)
    (k_Shop : PySem.W.keepIn K (.ref f_Shop) = true)
    (a_Lantern : PySem.W.nsIn K mainGlobals "Lantern" = some (some (.ref CL)))
    (pg_Lantern : PySem.W.plainGet K CL Str.empty = true)
    (hd_Lantern : PySem.W.hasDictIn K CL = true)
    (po_Lantern : PySem.W.plainOver K CL = true)
    (sa_Lantern : PySem.W.findIn K (.ref CL) "__setattr__" = some (some (.builtin "object.__setattr__")))
    (no_Lantern_girth : PySem.W.findIn K (.ref CL) "girth" = some none)
    (no_Lantern_ring : PySem.W.findIn K (.ref CL) "ring" = some none)
    (no_Lantern_oil : PySem.W.findIn K (.ref CL) "oil" = some none)
    (mk_Lantern : PySem.W.makesIn K CL = true)
    (in_Lantern : PySem.W.findIn K (.ref CL) "__init__" = some (some (.ref f_Lantern)))
    (fn_Lantern : PySem.W.isFn K (.ref f_Lantern) = true)
    (kc_Lantern : PySem.W.keepIn K (.ref CL) = true)
    (l_Lantern : K.lookup f_Lantern = some ⟨oc_Lantern, od_Lantern, .func (PySem.W.fnOf "__init__" "Lantern.__init__" (defArgs sLInit) (defBody sLInit) (defScope sLInit) .none kV_Lantern doc_Lantern pm_Lantern an_Lantern cd_Lantern ct_Lantern), os_Lantern⟩)
    (c_Lantern : PySem.W.codeIn K cd_Lantern "Lantern.__init__" = true)
    (k_Lantern : PySem.W.keepIn K (.ref f_Lantern) = true)
    (n_max : PySem.W.nsIn K mainGlobals "max" = some none)
    (ne_tabs : tabsNe K cd_best_cutting cd_full_ones = true)
    : Goal K w mg fa h := by
  have D_all_rows := df_mk (st := sRows) X G a_all_rows l_all_rows c_all_rows k_all_rows
  have D_bands_of := df_mk (st := sBands) X G a_bands_of l_bands_of c_bands_of k_bands_of
  have D_lengths_left := df_mk (st := sLeft) X G a_lengths_left l_lengths_left c_lengths_left k_lengths_left
  have D_can_be_cut := df_mk (st := sCan) X G a_can_be_cut l_can_be_cut c_can_be_cut k_can_be_cut
  have D_rank_of := df_mk (st := sRank) X G a_rank_of l_rank_of c_rank_of k_rank_of
  obtain ⟨cB_best_cutting, PB_best_cutting, eB_best_cutting, hC_best_cutting, hP_best_cutting⟩ := tb_best_cutting a_best_cutting l_best_cutting
  have eB'_best_cutting : cd_best_cutting = .ref cB_best_cutting := eB_best_cutting
  subst eB'_best_cutting
  have D_best_cutting := dfc_mk (st := sBest) X G a_best_cutting l_best_cutting c_best_cutting k_best_cutting
  have nT_best_cutting := no_tab X hP_best_cutting nt
  have D_strips_after := df_mk (st := sAfter) X G a_strips_after l_strips_after c_strips_after k_strips_after
  have D_is_girth := df_mk (st := sGirth) X G a_is_girth l_is_girth c_is_girth k_is_girth
  have D_is_ring := df_mk (st := sIsRing) X G a_is_ring l_is_ring c_is_ring k_is_ring
  have D_spellings := df_mk (st := sSpell) X G a_spellings l_spellings c_spellings k_spellings
  have D_width_of := df_mk (st := sWidth) X G a_width_of l_width_of c_width_of k_width_of
  have D_dark_place := df_mk (st := sDark) X G a_dark_place l_dark_place c_dark_place k_dark_place
  have D_short_sort := df_mk (st := sShort) X G a_short_sort l_short_sort c_short_sort k_short_sort
  have D_may_be_set := df_mk (st := sMayB) X G a_may_be_set l_may_be_set c_may_be_set k_may_be_set
  have D_rings_to_set := df_mk (st := sRings) X G a_rings_to_set l_rings_to_set c_rings_to_set k_rings_to_set
  have D_first_ring := df_mk (st := sFirst) X G a_first_ring l_first_ring c_first_ring k_first_ring
  have D_count_rings := df_mk (st := sCount) X G a_count_rings l_count_rings c_count_rings k_count_rings
  have D_tell_first := df_mk (st := sTFirst) X G a_tell_first l_tell_first c_tell_first k_tell_first
  have D_tell_may := df_mk (st := sTMay) X G a_tell_may l_tell_may c_tell_may k_tell_may
  have D_tell_same := df_mk (st := sTSame) X G a_tell_same l_tell_same c_tell_same k_tell_same
  have D_is_sort := df_mk (st := sIsSort) X G a_is_sort l_is_sort c_is_sort k_is_sort
  have D_begun_shop := df_mk (st := sBegun) X G a_begun_shop l_begun_shop c_begun_shop k_begun_shop
  have D_add_panes := df_mk (st := sPanes) X G a_add_panes l_add_panes c_add_panes k_add_panes
  have D_add_strips := df_mk (st := sStrips) X G a_add_strips l_add_strips c_add_strips k_add_strips
  have D_make_lantern := df_mk (st := sMake) X G a_make_lantern l_make_lantern c_make_lantern k_make_lantern
  have D_stand_lantern := df_mk (st := sStand) X G a_stand_lantern l_stand_lantern c_stand_lantern k_stand_lantern
  have D_cut_bands := df_mk (st := sCut) X G a_cut_bands l_cut_bands c_cut_bands k_cut_bands
  have D_standing := df_mk (st := sStanding) X G a_standing l_standing c_standing k_standing
  have D_oil_when_full := df_mk (st := sFull) X G a_oil_when_full l_oil_when_full c_oil_when_full k_oil_when_full
  have D_brass_in := df_mk (st := sBrassIn) X G a_brass_in l_brass_in c_brass_in k_brass_in
  have D_tell_lantern := df_mk (st := sTLan) X G a_tell_lantern l_tell_lantern c_tell_lantern k_tell_lantern
  have D_sell_lantern := df_mk (st := sSell) X G a_sell_lantern l_sell_lantern c_sell_lantern k_sell_lantern
  have D_tell_glass := df_mk (st := sGlass) X G a_tell_glass l_tell_glass c_tell_glass k_tell_glass
  have D_tell_strips := df_mk (st := sTStr) X G a_tell_strips l_tell_strips c_tell_strips k_tell_strips
  have D_mend_lantern := df_mk (st := sMend) X G a_mend_lantern l_mend_lantern c_mend_lantern k_mend_lantern
  have D_mending_sort := df_mk (st := sMendS) X G a_mending_sort l_mending_sort c_mending_sort k_mending_sort
  have D_can_mend := df_mk (st := sCanM) X G a_can_mend l_can_mend c_can_mend k_can_mend
  have D_fill_lantern := df_mk (st := sFill) X G a_fill_lantern l_fill_lantern c_fill_lantern k_fill_lantern
  have D_burn_night := df_mk (st := sNight) X G a_burn_night l_burn_night c_burn_night k_burn_night
  have D_burnt_in_a_night := df_mk (st := sBurnt) X G a_burnt_in_a_night l_burnt_in_a_night c_burnt_in_a_night k_burnt_in_a_night
  have D_top_lanterns := df_mk (st := sTop) X G a_top_lanterns l_top_lanterns c_top_lanterns k_top_lanterns
  have D_oil_in_full := df_mk (st := sHeld) X G a_oil_in_full l_oil_in_full c_oil_in_full k_oil_in_full
  obtain ⟨cB_full_ones, PB_full_ones, eB_full_ones, hC_full_ones, hP_full_ones⟩ := tb_full_ones a_full_ones l_full_ones
  have eB'_full_ones : cd_full_ones = .ref cB_full_ones := eB_full_ones
  subst eB'_full_ones
  have D_full_ones := dfc_mk (st := sFullO) X G a_full_ones l_full_ones c_full_ones k_full_ones
  have nT_full_ones := no_tab X hP_full_ones nt
  have D_shares_of := df_mk (st := sShares) X G a_shares_of l_shares_of c_shares_of k_shares_of
  have D_answer_in := df_mk (st := sAnsIn) X G a_answer_in l_answer_in c_answer_in k_answer_in
  have D_read_calls := df_mk (st := sRCalls) X G a_read_calls l_read_calls c_read_calls k_read_calls
  have D_read_lists := df_mk (st := sRLists) X G a_read_lists l_read_lists c_read_lists k_read_lists
  have D_answers := df_mk (st := sAnswers) X G a_answers l_answers c_answers k_answers
  have G_SHORTEST_STRIP := gn_mk X G g_SHORTEST_STRIP
  have G_FEWEST_PANES := gn_mk X G g_FEWEST_PANES
  have G_MOST_PANES := gn_mk X G g_MOST_PANES
  have G_LEAST_GIRTH := gn_mk X G g_LEAST_GIRTH
  have G_GREATEST_GIRTH := gn_mk X G g_GREATEST_GIRTH
  have G_SHORTEST_NEW := gn_mk X G g_SHORTEST_NEW
  have G_LONGEST_NEW := gn_mk X G g_LONGEST_NEW
  have G_MOST_SORTS := gn_mk X G g_MOST_SORTS
  have G_WIDEST := gn_mk X G g_WIDEST
  have G_MOST_PANES_IN_STOCK := gn_mk X G g_MOST_PANES_IN_STOCK
  have G_MOST_STRIPS := gn_mk X G g_MOST_STRIPS
  have G_MOST_LANTERNS := gn_mk X G g_MOST_LANTERNS
  have G_BEGIN := gn_mk X G g_BEGIN
  have G_BURNT_PART := gn_mk X G g_BURNT_PART
  have G_PANES := gn_mk X G g_PANES
  have G_BRASS := gn_mk X G g_BRASS
  have G_RINGS := gn_mk X G g_RINGS
  have G_FIRST := gn_mk X G g_FIRST
  have G_MAY := gn_mk X G g_MAY
  have G_SAME := gn_mk X G g_SAME
  have G_MAKE := gn_mk X G g_MAKE
  have G_MEND := gn_mk X G g_MEND
  have G_FILL := gn_mk X G g_FILL
  have G_NIGHT := gn_mk X G g_NIGHT
  have G_TOP := gn_mk X G g_TOP
  have G_SELL := gn_mk X G g_SELL
  have G_LANTERN := gn_mk X G g_LANTERN
  have G_GLASS := gn_mk X G g_GLASS
  have G_STRIPS := gn_mk X G g_STRIPS
  have B : Bl mg := ⟨PySem.W.mg_none_of X G n_len, PySem.W.mg_none_of X G n_range, PySem.W.mg_none_of X G n_min, PySem.W.mg_none_of X G n_sum, PySem.W.mg_none_of X G n_all, PySem.W.mg_none_of X G n_sorted, PySem.W.mg_none_of X G n_set, PySem.W.mg_none_of X G n_list, PySem.W.mg_none_of X G n_reversed, PySem.W.mg_none_of X G n_zip, PySem.W.mg_none_of X G n_enumerate⟩
  have I_Shop : DfI K "Shop.__init__" sSInit C := ⟨f_Shop, _, ⟨mk_Shop, in_Shop, fn_Shop, kc_Shop⟩, fun_mk l_Shop c_Shop k_Shop⟩
  have I_Lantern : DfI K "Lantern.__init__" sLInit CL := ⟨f_Lantern, _, ⟨mk_Lantern, in_Lantern, fn_Lantern, kc_Lantern⟩, fun_mk l_Lantern c_Lantern k_Lantern⟩
  have TX : Txl K mg C CL := ⟨⟨pg_Shop, hd_Shop, po_Shop, sa_Shop⟩, no_Shop_new, no_Shop_widths, no_Shop_painted, no_Shop_stock, no_Shop_strips, no_Shop_lanterns, no_Shop_made, no_Shop_panes_gone, no_Shop_brass_come, no_Shop_scrap, no_Shop_brass_gone, PySem.W.mg_of X G a_Shop, ⟨pg_Lantern, hd_Lantern, po_Lantern, sa_Lantern⟩, no_Lantern_girth, no_Lantern_ring, no_Lantern_oil, PySem.W.mg_of X G a_Lantern⟩
  have FA := fun_mk (st := sAnswers) l_answers c_answers k_answers
  have ef : f_answers = fa := by
    have e := PySem.W.mg_of X G a_answers
    rw [hfa] at e
    cases e
    rfl
  subst ef
  have nPP : PB_best_cutting ≠ PB_full_ones := tabs_ne X hC_best_cutting hC_full_ones ne_tabs
  have mx := PySem.W.mg_none_of X G n_max
  refine ⟨PySem.W.fnOf "answers" "answers" (defArgs sAnswers) (defBody sAnswers) (defScope sAnswers) .none kV_answers doc_answers pm_answers an_answers cd_answers ct_answers, [(cB_best_cutting, PB_best_cutting), (cB_full_ones, PB_full_ones)], spAnswers K [(PB_best_cutting, qBest), (PB_full_ones, qFullO)], fun p hp => ?_, fun p hp => ?_, fun s us hl => ?_, fun H xs a hH h1 h2 h3 => ?_, fun base KXb Gb TB => ?_⟩
  · rcases List.mem_cons.mp hp with e | hp
    · rw [e]
      exact ⟨hC_best_cutting, hP_best_cutting⟩
    · rw [List.mem_singleton.mp hp]
      exact ⟨hC_full_ones, hP_full_ones⟩
  · rcases List.mem_cons.mp hp with e | hp
    · rw [e]
      exact nT_best_cutting
    · rw [List.mem_singleton.mp hp]
      exact nT_full_ones
  · exact .of_eq (match us, hl with | [_], _ => rfl)
  · refine sp_end a (fun p hp => ?_) h1 h2 h3
    rcases List.mem_cons.mp hp with e | hp
    · rw [e]
      exact LamX.TabS.nil (hH (cB_best_cutting, PB_best_cutting) List.mem_cons_self)
    · rw [List.mem_singleton.mp hp]
      exact LamX.TabS.nil (hH (cB_full_ones, PB_full_ones) (List.mem_cons_of_mem _ List.mem_cons_self))
  · have TB1 := TB (cB_best_cutting, PB_best_cutting) List.mem_cons_self
    have TB2 := TB (cB_full_ones, PB_full_ones) (List.mem_cons_of_mem _ List.mem_cons_self)
    obtain ⟨T, eT⟩ : ∃ T, T = [(PB_best_cutting, qBest), (PB_full_ones, qFullO)] := ⟨_, rfl⟩
    rw [← eT]
    have mT1 : (PB_best_cutting, qBest) ∈ T := by rw [eT]; exact List.mem_cons_self
    have mT2 : (PB_full_ones, qFullO) ∈ T := by rw [eT]; exact List.mem_cons_of_mem _ List.mem_cons_self
    have uT1 : ∀ q ∈ T, q.1 = PB_best_cutting → q.2 = qBest := fun q hq e => by
      rw [eT] at hq
      rcases List.mem_cons.mp hq with z | z
      · rw [z]
      · rw [List.mem_singleton.mp z] at e
        exact absurd e.symm nPP
    have uT2 : ∀ q ∈ T, q.1 = PB_full_ones → q.2 = qFullO := fun q hq e => by
      rw [eT] at hq
      rcases List.mem_cons.mp hq with z | z
      · rw [z] at e
        exact absurd e nPP
      · rw [List.mem_singleton.mp z]
    have TS := TX.toS
    have i1 : Cal PySem.Challenge.rw_lampring_s01_answers.prog w K mg base 1 "all_rows" ["below", "length"] spRows := by
      obtain ⟨f, fd, F, m⟩ := D_all_rows
      exact ⟨f, fd, ok_rows F B, m, F.kp, F.binds fun _ _ _ _ _ _ us hl => match us, hl with | [_, _], _ => rfl⟩
    have i2 := cal_bands (P := PySem.Challenge.rw_lampring_s01_answers.prog) (w := w) (base := base) D_bands_of
    have i3 := cal_left (P := PySem.Challenge.rw_lampring_s01_answers.prog) (w := w) (base := base) B D_lengths_left
    have i4 := cal_can B D_can_be_cut i3
    have i5 := cal_rank B D_rank_of i3
    have i6 := cal_best (T := T) B D_best_cutting TB1 mT1 uT1 i1 i4 i5
    have i7 := cal_after B D_strips_after G_SHORTEST_STRIP i3
    have i8 := cal_girth (P := PySem.Challenge.rw_lampring_s01_answers.prog) (w := w) (base := base) D_is_girth G_LEAST_GIRTH G_GREATEST_GIRTH
    have i9 := cal_isRing (P := PySem.Challenge.rw_lampring_s01_answers.prog) (w := w) (base := base) B TS D_is_ring G_FEWEST_PANES G_MOST_PANES
    have i10 := cal_spell (P := PySem.Challenge.rw_lampring_s01_answers.prog) (w := w) (base := base) B D_spellings
    have i11 := cal_width (P := PySem.Challenge.rw_lampring_s01_answers.prog) (w := w) (base := base) B TS D_width_of
    have i12 := cal_dark (P := PySem.Challenge.rw_lampring_s01_answers.prog) (w := w) (base := base) B TS D_dark_place
    have i13 := cal_short (P := PySem.Challenge.rw_lampring_s01_answers.prog) (w := w) (base := base) B TS D_short_sort
    have i14 := cal_mayB D_may_be_set i11 i12 i13
    have i15 := cal_rings B TS D_rings_to_set i1 i14 i10
    have i16 := cal_first B D_first_ring G_FEWEST_PANES G_MOST_PANES i15
    have i17 := cal_count B D_count_rings G_FEWEST_PANES G_MOST_PANES i8 i15
    have i18 := cal_tfirst B D_tell_first i8 i16
    have i19 := cal_tmay D_tell_may i8 i9 i11 i12 i13
    have i20 := cal_tsame D_tell_same i9 i10
    have i21 := cal_isSort (P := PySem.Challenge.rw_lampring_s01_answers.prog) (w := w) (base := base) B D_is_sort G_WIDEST
    have i22 := cal_begun B TX D_begun_shop I_Shop G_SHORTEST_NEW G_LONGEST_NEW G_MOST_SORTS i21
    have i23 := cal_panes (P := PySem.Challenge.rw_lampring_s01_answers.prog) (w := w) (base := base) (T := T) B TX D_add_panes G_MOST_PANES_IN_STOCK
    have i24 := cal_strips (P := PySem.Challenge.rw_lampring_s01_answers.prog) (w := w) (base := base) (T := T) B TX D_add_strips G_MOST_STRIPS
    have i25 := cal_stand (P := PySem.Challenge.rw_lampring_s01_answers.prog) (w := w) (base := base) (T := T) B TX D_stand_lantern I_Lantern
    have i26a := cal_cut (T := T) B TX D_cut_bands i7
    have i26 := cal_make B TX D_make_lantern G_MOST_LANTERNS i8 i16 i2 i6 i26a i25
    have i27 := cal_rlists (P := PySem.Challenge.rw_lampring_s01_answers.prog) (w := w) (base := base) B D_read_lists
    have i28 := cal_rcalls B D_read_calls i27
    have j1 := cal_standing (P := PySem.Challenge.rw_lampring_s01_answers.prog) (w := w) (base := base) B TX D_standing
    have j2 := cal_full (P := PySem.Challenge.rw_lampring_s01_answers.prog) (w := w) (base := base) TX D_oil_when_full
    have j3 := cal_brassIn B TX D_brass_in i2
    have j4 := cal_tlan (P := PySem.Challenge.rw_lampring_s01_answers.prog) (w := w) (base := base) (T := T) B TX D_tell_lantern
    have j5 := cal_tstr (T := T) B TX D_tell_strips j1 j3
    have j6 := cal_sell (T := T) B TX D_sell_lantern j3
    have j7 := cal_glass (T := T) B TX D_tell_glass j1
    have j8 := cal_canM TS D_can_mend i12
    have j9 := cal_mendS B TS D_mending_sort j8
    have j10 := cal_mend (T := T) B TX D_mend_lantern j9
    have j11 := cal_fill (T := T) TX D_fill_lantern j2
    have j12 := cal_burnt (P := PySem.Challenge.rw_lampring_s01_answers.prog) (w := w) (base := base) B TX D_burnt_in_a_night G_BURNT_PART
    have j13 := cal_night (T := T) TX D_burn_night j1 j12
    have j14 := cal_held (P := PySem.Challenge.rw_lampring_s01_answers.prog) (w := w) (base := base) B D_oil_in_full
    have j15 := cal_shares B D_shares_of j14
    have j16 := cal_fullO (T := T) B mx D_full_ones TB2 mT2 uT2 i1 j14
    have j17 := cal_top (T := T) B TX D_top_lanterns j1 j2 j16 j15
    have i29 := cal_ansIn (T := T) D_answer_in G_PANES i23 G_BRASS i24 G_RINGS i17 G_FIRST i18 G_MAY i19 G_SAME i20 G_MAKE i26 G_MEND j10 G_FILL j11 G_NIGHT j13 G_TOP j17 G_SELL j6 G_LANTERN j4 G_GLASS j7 G_STRIPS j5
    exact (ok_answers B FA G_BEGIN i28 (i22.mono (by decide)) i29).mono (by decide)
end LR

open PySem PySem.W PyProof.Rows
set_option maxRecDepth 100000 in
set_option maxHeartbeats 8000000 in
theorem PySem.Challenge.cw_lampring_s01_answers_holds : PySem.Challenge.rw_lampring_s01_answers.Holds := by
  w_on; k_headS; (case hw => exact ⟨[.list [.int 10, .int 0, .int 0]], by decide +kernel, by decide +kernel⟩)
  k_fillS
  refine LR.walk_specT (r := PySem.Challenge.rw_lampring_s01_answers) (k := 12) (CX := L2.CX0) (ps := ["calls"]) (by decide +kernel) rfl ⟨rfl, by decide, by decide⟩ (fun w h Y => PySem.W.kIn_of Y) ?F (fun _ _ _ _ z => z)
  intro w mg mb mean fa h Y KX T hmg
  refine' LR.all_mk KX T.g hmg (fun a l => LR.tab_ex (x := "best_cutting") T KX rfl a l) (fun a l => LR.tab_ex (x := "full_ones") T KX rfl a l) ?nt ?a_all_rows ?l_all_rows ?c_all_rows ?k_all_rows ?a_bands_of ?l_bands_of ?c_bands_of ?k_bands_of ?a_lengths_left ?l_lengths_left ?c_lengths_left ?k_lengths_left ?a_can_be_cut ?l_can_be_cut ?c_can_be_cut ?k_can_be_cut ?a_rank_of ?l_rank_of ?c_rank_of ?k_rank_of ?a_best_cutting ?l_best_cutting ?c_best_cutting ?k_best_cutting ?a_strips_after ?l_strips_after ?c_strips_after ?k_strips_after ?a_is_girth ?l_is_girth ?c_is_girth ?k_is_girth ?a_is_ring ?l_is_ring ?c_is_ring ?k_is_ring ?a_spellings ?l_spellings ?c_spellings ?k_spellings ?a_width_of ?l_width_of ?c_width_of ?k_width_of ?a_dark_place ?l_dark_place ?c_dark_place ?k_dark_place ?a_short_sort ?l_short_sort ?c_short_sort ?k_short_sort ?a_may_be_set ?l_may_be_set ?c_may_be_set ?k_may_be_set ?a_rings_to_set ?l_rings_to_set ?c_rings_to_set ?k_rings_to_set ?a_first_ring ?l_first_ring ?c_first_ring ?k_first_ring ?a_count_rings ?l_count_rings ?c_count_rings ?k_count_rings ?a_tell_first ?l_tell_first ?c_tell_first ?k_tell_first ?a_tell_may ?l_tell_may ?c_tell_may ?k_tell_may ?a_tell_same ?l_tell_same ?c_tell_same ?k_tell_same ?a_is_sort ?l_is_sort ?c_is_sort ?k_is_sort ?a_begun_shop ?l_begun_shop ?c_begun_shop ?k_begun_shop ?a_add_panes ?l_add_panes ?c_add_panes ?k_add_panes ?a_add_strips ?l_add_strips ?c_add_strips ?k_add_strips ?a_make_lantern ?l_make_lantern ?c_make_lantern ?k_make_lantern ?a_stand_lantern ?l_stand_lantern ?c_stand_lantern ?k_stand_lantern ?a_cut_bands ?l_cut_bands ?c_cut_bands ?k_cut_bands ?a_standing ?l_standing ?c_standing ?k_standing ?a_oil_when_full ?l_oil_when_full ?c_oil_when_full ?k_oil_when_full ?a_brass_in ?l_brass_in ?c_brass_in ?k_brass_in ?a_tell_lantern ?l_tell_lantern ?c_tell_lantern ?k_tell_lantern ?a_sell_lantern ?l_sell_lantern ?c_sell_lantern ?k_sell_lantern ?a_tell_glass ?l_tell_glass ?c_tell_glass ?k_tell_glass ?a_tell_strips ?l_tell_strips ?c_tell_strips ?k_tell_strips ?a_mend_lantern ?l_mend_lantern ?c_mend_lantern ?k_mend_lantern ?a_mending_sort ?l_mending_sort ?c_mending_sort ?k_mending_sort ?a_can_mend ?l_can_mend ?c_can_mend ?k_can_mend ?a_fill_lantern ?l_fill_lantern ?c_fill_lantern ?k_fill_lantern ?a_burn_night ?l_burn_night ?c_burn_night ?k_burn_night ?a_burnt_in_a_night ?l_burnt_in_a_night ?c_burnt_in_a_night ?k_burnt_in_a_night ?a_top_lanterns ?l_top_lanterns ?c_top_lanterns ?k_top_lanterns ?a_oil_in_full ?l_oil_in_full ?c_oil_in_full ?k_oil_in_full ?a_full_ones ?l_full_ones ?c_full_ones ?k_full_ones ?a_shares_of ?l_shares_of ?c_shares_of ?k_shares_of ?a_answer_in ?l_answer_in ?c_answer_in ?k_answer_in ?a_read_calls ?l_read_calls ?c_read_calls ?k_read_calls ?a_read_lists ?l_read_lists ?c_read_lists ?k_read_lists ?a_answers ?l_answers ?c_answers ?k_answers ?g_SHORTEST_STRIP ?g_FEWEST_PANES ?g_MOST_PANES ?g_LEAST_GIRTH ?g_GREATEST_GIRTH ?g_SHORTEST_NEW ?g_LONGEST_NEW ?g_MOST_SORTS ?g_WIDEST ?g_MOST_PANES_IN_STOCK ?g_MOST_STRIPS ?g_MOST_LANTERNS ?g_BEGIN ?g_BURNT_PART ?g_PANES ?g_BRASS ?g_RINGS ?g_FIRST ?g_MAY ?g_SAME ?g_MAKE ?g_MEND ?g_FILL ?g_NIGHT ?g_TOP ?g_SELL ?g_LANTERN ?g_GLASS ?g_STRIPS ?n_len ?n_range ?n_min ?n_sum ?n_all ?n_sorted ?n_set ?n_list ?n_reversed ?n_zip ?n_enumerate ?a_Shop ?pg_Shop ?hd_Shop ?po_Shop ?sa_Shop ?no_Shop_new ?no_Shop_widths ?no_Shop_painted ?no_Shop_stock ?no_Shop_strips ?no_Shop_lanterns ?no_Shop_made ?no_Shop_panes_gone ?no_Shop_brass_come ?no_Shop_scrap ?no_Shop_brass_gone ?mk_Shop ?in_Shop ?fn_Shop ?kc_Shop ?l_Shop ?c_Shop ?k_Shop ?a_Lantern ?pg_Lantern ?hd_Lantern ?po_Lantern ?sa_Lantern ?no_Lantern_girth ?no_Lantern_ring ?no_Lantern_oil ?mk_Lantern ?in_Lantern ?fn_Lantern ?kc_Lantern ?l_Lantern ?c_Lantern ?k_Lantern ?n_max ?ne_tabs
  (case nt => kernel_rfl)
  (case a_all_rows => k_is)
  (case l_all_rows => k_is)
  (case c_all_rows => k_is)
  (case k_all_rows => k_is)
  (case a_bands_of => k_is)
  (case l_bands_of => k_is)
  (case c_bands_of => k_is)
  (case k_bands_of => k_is)
  (case a_lengths_left => k_is)
  (case l_lengths_left => k_is)
  (case c_lengths_left => k_is)
  (case k_lengths_left => k_is)
  (case a_can_be_cut => k_is)
  (case l_can_be_cut => k_is)
  (case c_can_be_cut => k_is)
  (case k_can_be_cut => k_is)
  (case a_rank_of => k_is)
  (case l_rank_of => k_is)
  (case c_rank_of => k_is)
  (case k_rank_of => k_is)
  (case a_best_cutting => k_is)
  (case l_best_cutting => k_is)
  (case c_best_cutting => k_is)
  (case k_best_cutting => k_is)
  (case a_strips_after => k_is)
  (case l_strips_after => k_is)
  (case c_strips_after => k_is)
  (case k_strips_after => k_is)
  (case a_is_girth => k_is)
  (case l_is_girth => k_is)
  (case c_is_girth => k_is)
  (case k_is_girth => k_is)
  (case a_is_ring => k_is)
  (case l_is_ring => k_is)
  (case c_is_ring => k_is)
  (case k_is_ring => k_is)
  (case a_spellings => k_is)
  (case l_spellings => k_is)
  (case c_spellings => k_is)
  (case k_spellings => k_is)
  (case a_width_of => k_is)
  (case l_width_of => k_is)
  (case c_width_of => k_is)
  (case k_width_of => k_is)
  (case a_dark_place => k_is)
  (case l_dark_place => k_is)
  (case c_dark_place => k_is)
  (case k_dark_place => k_is)
  (case a_short_sort => k_is)
  (case l_short_sort => k_is)
  (case c_short_sort => k_is)
  (case k_short_sort => k_is)
  (case a_may_be_set => k_is)
  (case l_may_be_set => k_is)
  (case c_may_be_set => k_is)
  (case k_may_be_set => k_is)
  (case a_rings_to_set => k_is)
  (case l_rings_to_set => k_is)
  (case c_rings_to_set => k_is)
  (case k_rings_to_set => k_is)
  (case a_first_ring => k_is)
  (case l_first_ring => k_is)
  (case c_first_ring => k_is)
  (case k_first_ring => k_is)
  (case a_count_rings => k_is)
  (case l_count_rings => k_is)
  (case c_count_rings => k_is)
  (case k_count_rings => k_is)
  (case a_tell_first => k_is)
  (case l_tell_first => k_is)
  (case c_tell_first => k_is)
  (case k_tell_first => k_is)
  (case a_tell_may => k_is)
  (case l_tell_may => k_is)
  (case c_tell_may => k_is)
  (case k_tell_may => k_is)
  (case a_tell_same => k_is)
  (case l_tell_same => k_is)
  (case c_tell_same => k_is)
  (case k_tell_same => k_is)
  (case a_is_sort => k_is)
  (case l_is_sort => k_is)
  (case c_is_sort => k_is)
  (case k_is_sort => k_is)
  (case a_begun_shop => k_is)
  (case l_begun_shop => k_is)
  (case c_begun_shop => k_is)
  (case k_begun_shop => k_is)
  (case a_add_panes => k_is)
  (case l_add_panes => k_is)
  (case c_add_panes => k_is)
  (case k_add_panes => k_is)
  (case a_add_strips => k_is)
  (case l_add_strips => k_is)
  (case c_add_strips => k_is)
  (case k_add_strips => k_is)
  (case a_make_lantern => k_is)
  (case l_make_lantern => k_is)
  (case c_make_lantern => k_is)
  (case k_make_lantern => k_is)
  (case a_stand_lantern => k_is)
  (case l_stand_lantern => k_is)
  (case c_stand_lantern => k_is)
  (case k_stand_lantern => k_is)
  (case a_cut_bands => k_is)
  (case l_cut_bands => k_is)
  (case c_cut_bands => k_is)
  (case k_cut_bands => k_is)
  (case a_standing => k_is)
  (case l_standing => k_is)
  (case c_standing => k_is)
  (case k_standing => k_is)
  (case a_oil_when_full => k_is)
  (case l_oil_when_full => k_is)
  (case c_oil_when_full => k_is)
  (case k_oil_when_full => k_is)
  (case a_brass_in => k_is)
  (case l_brass_in => k_is)
  (case c_brass_in => k_is)
  (case k_brass_in => k_is)
  (case a_tell_lantern => k_is)
  (case l_tell_lantern => k_is)
  (case c_tell_lantern => k_is)
  (case k_tell_lantern => k_is)
  (case a_sell_lantern => k_is)
  (case l_sell_lantern => k_is)
  (case c_sell_lantern => k_is)
  (case k_sell_lantern => k_is)
  (case a_tell_glass => k_is)
  (case l_tell_glass => k_is)
  (case c_tell_glass => k_is)
  (case k_tell_glass => k_is)
  (case a_tell_strips => k_is)
  (case l_tell_strips => k_is)
  (case c_tell_strips => k_is)
  (case k_tell_strips => k_is)
  (case a_mend_lantern => k_is)
  (case l_mend_lantern => k_is)
  (case c_mend_lantern => k_is)
  (case k_mend_lantern => k_is)
  (case a_mending_sort => k_is)
  (case l_mending_sort => k_is)
  (case c_mending_sort => k_is)
  (case k_mending_sort => k_is)
  (case a_can_mend => k_is)
  (case l_can_mend => k_is)
  (case c_can_mend => k_is)
  (case k_can_mend => k_is)
  (case a_fill_lantern => k_is)
  (case l_fill_lantern => k_is)
  (case c_fill_lantern => k_is)
  (case k_fill_lantern => k_is)
  (case a_burn_night => k_is)
  (case l_burn_night => k_is)
  (case c_burn_night => k_is)
  (case k_burn_night => k_is)
  (case a_burnt_in_a_night => k_is)
  (case l_burnt_in_a_night => k_is)
  (case c_burnt_in_a_night => k_is)
  (case k_burnt_in_a_night => k_is)
  (case a_top_lanterns => k_is)
  (case l_top_lanterns => k_is)
  (case c_top_lanterns => k_is)
  (case k_top_lanterns => k_is)
  (case a_oil_in_full => k_is)
  (case l_oil_in_full => k_is)
  (case c_oil_in_full => k_is)
  (case k_oil_in_full => k_is)
  (case a_full_ones => k_is)
  (case l_full_ones => k_is)
  (case c_full_ones => k_is)
  (case k_full_ones => k_is)
  (case a_shares_of => k_is)
  (case l_shares_of => k_is)
  (case c_shares_of => k_is)
  (case k_shares_of => k_is)
  (case a_answer_in => k_is)
  (case l_answer_in => k_is)
  (case c_answer_in => k_is)
  (case k_answer_in => k_is)
  (case a_read_calls => k_is)
  (case l_read_calls => k_is)
  (case c_read_calls => k_is)
  (case k_read_calls => k_is)
  (case a_read_lists => k_is)
  (case l_read_lists => k_is)
  (case c_read_lists => k_is)
  (case k_read_lists => k_is)
  (case a_answers => k_is)
  (case l_answers => k_is)
  (case c_answers => k_is)
  (case k_answers => k_is)
  (case g_SHORTEST_STRIP => k_is)
  (case g_FEWEST_PANES => k_is)
  (case g_MOST_PANES => k_is)
  (case g_LEAST_GIRTH => k_is)
  (case g_GREATEST_GIRTH => k_is)
  (case g_SHORTEST_NEW => k_is)
  (case g_LONGEST_NEW => k_is)
  (case g_MOST_SORTS => k_is)
  (case g_WIDEST => k_is)
  (case g_MOST_PANES_IN_STOCK => k_is)
  (case g_MOST_STRIPS => k_is)
  (case g_MOST_LANTERNS => k_is)
  (case g_BEGIN => k_is)
  (case g_BURNT_PART => k_is)
  (case g_PANES => k_is)
  (case g_BRASS => k_is)
  (case g_RINGS => k_is)
  (case g_FIRST => k_is)
  (case g_MAY => k_is)
  (case g_SAME => k_is)
  (case g_MAKE => k_is)
  (case g_MEND => k_is)
  (case g_FILL => k_is)
  (case g_NIGHT => k_is)
  (case g_TOP => k_is)
  (case g_SELL => k_is)
  (case g_LANTERN => k_is)
  (case g_GLASS => k_is)
  (case g_STRIPS => k_is)
  (case n_len => k_is)
  (case n_range => k_is)
  (case n_min => k_is)
  (case n_sum => k_is)
  (case n_all => k_is)
  (case n_sorted => k_is)
  (case n_set => k_is)
  (case n_list => k_is)
  (case n_reversed => k_is)
  (case n_zip => k_is)
  (case n_enumerate => k_is)
  (case a_Shop => k_is)
  (case pg_Shop => k_is)
  (case hd_Shop => k_is)
  (case po_Shop => k_is)
  (case sa_Shop => k_is)
  (case no_Shop_new => k_is)
  (case no_Shop_widths => k_is)
  (case no_Shop_painted => k_is)
  (case no_Shop_stock => k_is)
  (case no_Shop_strips => k_is)
  (case no_Shop_lanterns => k_is)
  (case no_Shop_made => k_is)
  (case no_Shop_panes_gone => k_is)
  (case no_Shop_brass_come => k_is)
  (case no_Shop_scrap => k_is)
  (case no_Shop_brass_gone => k_is)
  (case mk_Shop => k_is)
  (case in_Shop => k_is)
  (case fn_Shop => k_is)
  (case kc_Shop => k_is)
  (case l_Shop => k_is)
  (case c_Shop => k_is)
  (case k_Shop => k_is)
  (case a_Lantern => k_is)
  (case pg_Lantern => k_is)
  (case hd_Lantern => k_is)
  (case po_Lantern => k_is)
  (case sa_Lantern => k_is)
  (case no_Lantern_girth => k_is)
  (case no_Lantern_ring => k_is)
  (case no_Lantern_oil => k_is)
  (case mk_Lantern => k_is)
  (case in_Lantern => k_is)
  (case fn_Lantern => k_is)
  (case kc_Lantern => k_is)
  (case l_Lantern => k_is)
  (case c_Lantern => k_is)
  (case k_Lantern => k_is)
  (case n_max => k_is)
  (case ne_tabs => kernel_rfl)

