import PyProof.Rows.All
import Wide.All
import OpenK.AllK
import Wide.FinOn
import HandS.ForMost
import HandS.Wide
import HandS.IsInst
import HandS.Property
import HandS.Style
import HandS.TupAny
import HandS.Rev
import HandS.NoneIn
import HandS.SortInts
import HandS.Conv
import HandS.Zip
import KE.GoesEnum
import KE.GoesZip
import HandS.ForExc
import HandS.TryMany
import HandS.ExcInit
import HandS.WordsExc
import HandS.SortKw
import HandS.Sort
import HandS.DictComp
import PySem.Challenge.RW_shortranks_k12_asked_again
import HandS.EndTab
import KE.SortKeyHeap
import PyProof.ZipIter
import PyProof.CallType
import PyProof.Walk
import PyProof.WalkLemmas
import PyProof.RangeIter
import PyProof.RulesTry
import HandS.RepeatKit
import KE.GoesEnumKw
import HandS.FStr
import HandS.ExcField
import KE.KExcIs
import HandS.ExcIs
import HandS.Text
import HandS.StrMore
import KE.KIntText
import KE.IntTextText
import PyProof.StrLawsTight
import PyProof.StrLawsChain
import PyProof.StrLawsAffix
import PyProof.Rows.ReprOcc
import HandS.Walk
import HandS.Flow
import KE.KNestM
/-! Plain mathematics of summaries: no Python here. Entries (value, low, high); lows from the left, highs from the right; ways. -/
namespace SR
abbrev Ent := Int × Int × Int
def lo (es : List Ent) (j : Nat) : Int := (es.getD j (0, 0, 0)).2.1
def hi (es : List Ent) (j : Nat) : Int := (es.getD j (0, 0, 0)).2.2
def vl (es : List Ent) (j : Nat) : Int := (es.getD j (0, 0, 0)).1
theorem getD_of {es : List Ent} {j : Nat} {e : Ent} (h : es[j]? = some e) : es.getD j (0, 0, 0) = e := by
  rw [List.getD_eq_getElem?_getD, h] <;> rfl
theorem lo_of {es : List Ent} {j : Nat} {e : Ent} (h : es[j]? = some e) : lo es j = e.2.1 := by unfold lo; rw [getD_of h]
theorem hi_of {es : List Ent} {j : Nat} {e : Ent} (h : es[j]? = some e) : hi es j = e.2.2 := by unfold hi; rw [getD_of h]
theorem vl_of {es : List Ent} {j : Nat} {e : Ent} (h : es[j]? = some e) : vl es j = e.1 := by unfold vl; rw [getD_of h]
theorem ent_at {es : List Ent} {j : Nat} (h : j < es.length) : es[j]? = some (vl es j, lo es j, hi es j) := by
  rw [List.getElem?_eq_getElem h]
  have e : es[j]? = some es[j] := List.getElem?_eq_getElem h
  rw [vl_of e, lo_of e, hi_of e]
/-- the greatest low of the first i entries, ranks rising: 0 for none -/
def lowS (es : List Ent) : Nat → Int
  | 0 => 0
  | i + 1 => max (lo es i) (lowS es i + 1)
/-- the least high of the last i entries, ranks rising: n + 1 for none -/
def hiS (n : Int) (es : List Ent) : Nat → Int
  | 0 => n + 1
  | i + 1 => min (hi es (es.length - 1 - i)) (hiS n es i - 1)
/-- low and high of entry j, tightened -/
def tlo (es : List Ent) (j : Nat) : Int := lowS es (j + 1)
def thi (n : Int) (es : List Ent) (j : Nat) : Int := hiS n es (es.length - j)
def tightL (n : Int) (es : List Ent) : List Ent := (List.range es.length).map fun j => (vl es j, tlo es j, thi n es j)
def Fits (n : Int) (es : List Ent) : Prop := ∀ j, j < es.length → tlo es j ≤ thi n es j
theorem max_if (a b : Int) : (if b > a then b else a) = max a b := by
  by_cases h : b > a
  · rw [if_pos h]; omega
  · rw [if_neg h]; omega
theorem min_if (a b : Int) : (if b < a then b else a) = min a b := by
  by_cases h : b < a
  · rw [if_pos h]; omega
  · rw [if_neg h]; omega
theorem tlo_zero (es : List Ent) : tlo es 0 = max (lo es 0) 1 := rfl
theorem tlo_succ (es : List Ent) (j : Nat) : tlo es (j + 1) = max (lo es (j + 1)) (tlo es j + 1) := rfl
theorem thi_last {n : Int} {es : List Ent} (h : 0 < es.length) : thi n es (es.length - 1) = min (hi es (es.length - 1)) n := by
  unfold thi
  rw [show es.length - (es.length - 1) = 0 + 1 by omega]
  show min (hi es (es.length - 1 - 0)) (n + 1 - 1) = _
  rw [Nat.sub_zero]
  omega
theorem thi_step {n : Int} {es : List Ent} {j : Nat} (h : j + 1 < es.length) : thi n es j = min (hi es j) (thi n es (j + 1) - 1) := by
  unfold thi
  rw [show es.length - j = (es.length - (j + 1)) + 1 by omega]
  show min (hi es (es.length - 1 - (es.length - (j + 1)))) (hiS n es (es.length - (j + 1)) - 1) = _
  rw [show es.length - 1 - (es.length - (j + 1)) = j by omega]
theorem tlo_lo (es : List Ent) (j : Nat) : lo es j ≤ tlo es j := by
  unfold tlo
  show lo es j ≤ max (lo es j) (lowS es j + 1)
  omega
theorem tlo_rise (es : List Ent) (j : Nat) : tlo es j + 1 ≤ tlo es (j + 1) := by rw [tlo_succ]; omega
theorem tlo_pos (es : List Ent) : ∀ j, 1 ≤ tlo es j
  | 0 => by rw [tlo_zero]; omega
  | j + 1 => by have := tlo_pos es j; rw [tlo_succ]; omega
theorem thi_hi {n : Int} {es : List Ent} {j : Nat} (h : j < es.length) : thi n es j ≤ hi es j := by
  by_cases h1 : j + 1 < es.length
  · rw [thi_step h1]; omega
  · have e : j = es.length - 1 := by omega
    subst e
    rw [thi_last (by omega)]; omega
theorem thi_rise {n : Int} {es : List Ent} {j : Nat} (h : j + 1 < es.length) : thi n es j + 1 ≤ thi n es (j + 1) := by rw [thi_step h]; omega
theorem hiS_le (n : Int) (es : List Ent) : ∀ i, hiS n es i ≤ n + 1
  | 0 => by show n + 1 ≤ n + 1; omega
  | i + 1 => by have := hiS_le n es i; show min _ _ ≤ _; omega
theorem thi_le {n : Int} {es : List Ent} {j : Nat} (h : j < es.length) : thi n es j ≤ n := by
  unfold thi
  rw [show es.length - j = (es.length - (j + 1)) + 1 by omega]
  have := hiS_le n es (es.length - (j + 1))
  show min _ _ ≤ _
  omega
theorem tight_len (n : Int) (es : List Ent) : (tightL n es).length = es.length := by unfold tightL; rw [List.length_map, List.length_range]
theorem tight_at {n : Int} {es : List Ent} {j : Nat} (h : j < es.length) : (tightL n es)[j]? = some (vl es j, tlo es j, thi n es j) := by
  unfold tightL
  rw [List.getElem?_map, List.getElem?_range h] <;> rfl
/-- what a Summary holds -/
structure Valid (n : Int) (es : List Ent) : Prop where
  n1 : 1 ≤ n
  n2 : n ≤ 10 ^ 30
  len : es.length ≤ 12
  ent : ∀ j, j < es.length → -10 ^ 30 ≤ vl es j ∧ vl es j ≤ 10 ^ 30 ∧ 1 ≤ lo es j ∧ lo es j ≤ hi es j ∧ hi es j ≤ n
  asc : ∀ j, j + 1 < es.length → vl es j ≤ vl es (j + 1)
theorem Valid.tight {n : Int} {es : List Ent} (v : Valid n es) (f : Fits n es) : Valid n (tightL n es) where
  n1 := v.n1
  n2 := v.n2
  len := by rw [tight_len]; exact v.len
  ent := fun j hj => by
    rw [tight_len] at hj
    have e := tight_at (n := n) hj
    rw [vl_of e, lo_of e, hi_of e]
    obtain ⟨a, b, _⟩ := v.ent j hj
    exact ⟨a, b, tlo_pos es j, f j hj, thi_le hj⟩
  asc := fun j hj => by
    rw [tight_len] at hj
    rw [vl_of (tight_at (n := n) hj), vl_of (tight_at (n := n) (show j < es.length by omega))]
    exact v.asc j hj
/-! ways -/
def extRow (row : List Int) (a b : Int) : List (List Int) :=
  (((List.range (b + 1 - a).toNat).map fun (i : Nat) => a + (i : Int)).filter fun r => row.isEmpty || decide (r > row.getLastD 0)).map fun r => row ++ [r]
def ways (es : List Ent) : Nat → List (List Int)
  | 0 => [[]]
  | i + 1 => (ways es i).flatMap fun row => extRow row (lo es i) (hi es i)
theorem mem_extRow {row w : List Int} {a b : Int} : w ∈ extRow row a b ↔ ∃ r, a ≤ r ∧ r ≤ b ∧ (row = [] ∨ row.getLastD 0 < r) ∧ w = row ++ [r] := by
  unfold extRow
  rw [List.mem_map]
  constructor
  · rintro ⟨r, hr, e⟩
    rw [List.mem_filter, List.mem_map] at hr
    obtain ⟨⟨i, hi, e2⟩, hp⟩ := hr
    rw [List.mem_range] at hi
    refine ⟨r, by omega, by omega, ?_, e.symm⟩
    rw [Bool.or_eq_true] at hp
    rcases hp with hp | hp
    · exact .inl (List.isEmpty_iff.mp hp)
    · exact .inr (of_decide_eq_true hp)
  · rintro ⟨r, h1, h2, h3, e⟩
    refine ⟨r, ?_, e.symm⟩
    rw [List.mem_filter, List.mem_map]
    refine ⟨⟨(r - a).toNat, ?_, ?_⟩, ?_⟩
    · rw [List.mem_range]; omega
    · omega
    · rw [Bool.or_eq_true]
      rcases h3 with h3 | h3
      · exact .inl (List.isEmpty_iff.mpr h3)
      · exact .inr (decide_eq_true h3)
theorem extRow_len (row : List Int) (a b : Int) : (extRow row a b).length ≤ (b + 1 - a).toNat := by
  unfold extRow
  rw [List.length_map]
  exact Nat.le_trans (List.length_filter_le _ _) (by rw [List.length_map, List.length_range]; exact Nat.le_refl _)
theorem flatMap_len {α β : Type} (f : α → List β) (k : Nat) : ∀ l : List α, (∀ x ∈ l, (f x).length ≤ k) → (l.flatMap f).length ≤ l.length * k
  | [], _ => by simp
  | x :: l, h => by
    rw [List.flatMap_cons, List.length_append, List.length_cons, Nat.add_mul]
    have h1 := h x (List.mem_cons_self ..)
    have h2 := flatMap_len f k l fun y hy => h y (List.mem_cons_of_mem _ hy)
    omega
/-- what each way keeps -/
structure IsWay (es : List Ent) (i : Nat) (w : List Int) : Prop where
  len : w.length = i
  ok : ∀ j, j < i → lo es j ≤ w.getD j 0 ∧ w.getD j 0 ≤ hi es j
  up : ∀ j, j + 1 < i → w.getD j 0 < w.getD (j + 1) 0
theorem getD_app_lt {w : List Int} {r : Int} {j : Nat} (h : j < w.length) : (w ++ [r]).getD j 0 = w.getD j 0 := by
  rw [List.getD_eq_getElem?_getD, List.getD_eq_getElem?_getD, List.getElem?_append_left h]
theorem getD_app_eq {w : List Int} {r : Int} {j : Nat} (h : j = w.length) : (w ++ [r]).getD j 0 = r := by
  subst h
  rw [List.getD_eq_getElem?_getD, List.getElem?_append_right (Nat.le_refl _)]
  simp
theorem last_getD {w : List Int} {i : Nat} (h : w.length = i + 1) : w.getLastD 0 = w.getD i 0 := by
  rw [List.getLastD_eq_getLast?, List.getLast?_eq_getElem?, h, List.getD_eq_getElem?_getD]
  rfl
theorem ways_is {es : List Ent} : ∀ i w, w ∈ ways es i → IsWay es i w
  | 0, w, h => by
    have e : w = [] := by simpa [ways] using h
    subst e
    exact ⟨rfl, fun j hj => absurd hj (Nat.not_lt_zero j), fun j hj => absurd hj (Nat.not_lt_zero _)⟩
  | i + 1, w, h => by
    have h' : w ∈ (ways es i).flatMap fun row => extRow row (lo es i) (hi es i) := h
    rw [List.mem_flatMap] at h'
    obtain ⟨row, hr, hw⟩ := h'
    obtain ⟨r, h1, h2, h3, e⟩ := mem_extRow.mp hw
    have I := ways_is i row hr
    subst e
    refine ⟨by rw [List.length_append, I.len]; rfl, fun j hj => ?_, fun j hj => ?_⟩
    · by_cases hji : j < i
      · rw [getD_app_lt (by rw [I.len]; exact hji)]; exact I.ok j hji
      · have ej : j = i := by omega
        subst ej
        rw [getD_app_eq I.len.symm]; exact ⟨h1, h2⟩
    · by_cases hji : j + 1 < i
      · rw [getD_app_lt (show j < row.length by rw [I.len]; omega), getD_app_lt (show j + 1 < row.length by rw [I.len]; omega)]; exact I.up j hji
      · have ej : i = j + 1 := by omega
        subst ej
        rw [getD_app_eq (show j + 1 = row.length from I.len.symm), getD_app_lt (by rw [I.len]; omega)]
        rcases h3 with h3 | h3
        · subst h3; have := I.len; simp at this
        · rw [last_getD I.len] at h3; exact h3
theorem way_low {es : List Ent} {i : Nat} {w : List Int} (I : IsWay es i w) (h1 : ∀ j, j < i → 1 ≤ lo es j) : ∀ j, j < i → tlo es j ≤ w.getD j 0
  | 0, hj => by have := I.ok 0 hj; have := h1 0 hj; rw [tlo_zero]; omega
  | j + 1, hj => by
    have a := way_low I h1 j (by omega)
    have b := I.up j hj
    have c := I.ok (j + 1) hj
    rw [tlo_succ]; omega
theorem way_high {n : Int} {es : List Ent} {w : List Int} (I : IsWay es es.length w) (hn : ∀ j, j < es.length → hi es j ≤ n) : ∀ i j, j < es.length → es.length - 1 - j = i → w.getD j 0 ≤ thi n es j
  | 0, j, hj, e => by
    have ej : j = es.length - 1 := by omega
    have := I.ok j hj
    have := hn j hj
    subst ej
    rw [thi_last (by omega)]; omega
  | i + 1, j, hj, e => by
    have a := way_high I hn i (j + 1) (by omega) (by omega)
    have b := I.up j (by omega)
    have c := I.ok j hj
    rw [thi_step (by omega)]; omega
theorem mem_of_way {es : List Ent} (f : Nat → Int) (h1 : ∀ j, j < es.length → lo es j ≤ f j ∧ f j ≤ hi es j) (h2 : ∀ j, j + 1 < es.length → f j < f (j + 1)) : ∀ i, i ≤ es.length → (List.range i).map f ∈ ways es i
  | 0, _ => by simp [ways]
  | i + 1, hi' => by
    have ih := mem_of_way f h1 h2 i (by omega)
    show _ ∈ (ways es i).flatMap fun row => extRow row (lo es i) (hi es i)
    rw [List.mem_flatMap]
    refine ⟨_, ih, mem_extRow.mpr ⟨f i, (h1 i (by omega)).1, (h1 i (by omega)).2, ?_, by rw [List.range_succ, List.map_append]; rfl⟩⟩
    cases i with
    | zero => exact .inl rfl
    | succ i =>
      refine .inr ?_
      rw [last_getD (i := i) (by rw [List.length_map, List.length_range])]
      have e : ((List.range (i + 1)).map f).getD i 0 = f i := by
        rw [List.getD_eq_getElem?_getD, List.getElem?_map, List.getElem?_range (by omega)]; rfl
      rw [e]
      exact h2 i (by omega)
section
variable {n : Int} {es : List Ent}
theorem low_way (f : Fits n es) : (List.range es.length).map (tlo es) ∈ ways es es.length :=
  mem_of_way (tlo es) (fun j hj => ⟨tlo_lo es j, Int.le_trans (f j hj) (thi_hi hj)⟩) (fun j hj => by have := tlo_rise es j; omega) _ (Nat.le_refl _)
theorem high_way (f : Fits n es) : (List.range es.length).map (thi n es) ∈ ways es es.length :=
  mem_of_way (thi n es) (fun j hj => ⟨Int.le_trans (tlo_lo es j) (f j hj), thi_hi hj⟩) (fun j hj => by have := thi_rise (n := n) hj; omega) _ (Nat.le_refl _)
theorem way_between (v : Valid n es) {w : List Int} (h : w ∈ ways es es.length) {j : Nat} (hj : j < es.length) : tlo es j ≤ w.getD j 0 ∧ w.getD j 0 ≤ thi n es j :=
  ⟨way_low (ways_is _ _ h) (fun j hj => (v.ent j hj).2.2.1) j hj, way_high (ways_is _ _ h) (fun j hj => (v.ent j hj).2.2.2.2) _ j hj rfl⟩
theorem no_way (v : Valid n es) (f : ¬ Fits n es) : ways es es.length = [] := by
  cases e : ways es es.length with
  | nil => rfl
  | cons w r =>
    refine absurd (fun j hj => ?_) f
    have hw : w ∈ ways es es.length := by rw [e]; exact List.mem_cons_self ..
    have := way_between v hw hj
    omega
theorem ways_len {k : Nat} (h : ∀ j, j < es.length → 1 ≤ lo es j ∧ hi es j ≤ k) : ∀ i, i ≤ es.length → (ways es i).length ≤ k ^ i
  | 0, _ => by simp [ways]
  | i + 1, hi' => by
    have ih := ways_len h i (by omega)
    have h1 := h i (by omega)
    have := flatMap_len (fun row => extRow row (lo es i) (hi es i)) k (ways es i) fun row _ => Nat.le_trans (extRow_len row _ _) (by omega)
    show ((ways es i).flatMap fun row => extRow row (lo es i) (hi es i)).length ≤ k ^ (i + 1)
    rw [Nat.pow_succ]
    exact Nat.le_trans this (Nat.mul_le_mul_right k ih)
end
def ab (i : Int) : Int := if i < 0 then -i else i
/-- the error of an entry for a rank; of all -/
def er (r : Int) (e : Ent) : Int := max (ab (r - e.2.1)) (ab (r - e.2.2))
def ers (es : List Ent) (r : Int) : List Int := es.map (er r)
theorem ers_len (es : List Ent) (r : Int) : (ers es r).length = es.length := List.length_map ..
theorem ers_at {es : List Ent} {r : Int} {i : Nat} {e : Ent} (h : es[i]? = some e) : (ers es r)[i]? = some (er r e) := by
  unfold ers
  rw [List.getElem?_map, h]
  rfl
end SR

set_option Elab.async false
set_option linter.all false
/-! Plain mathematics of rows that leave a summary: ranks, the least and the greatest row. -/
namespace SR
/-- the number at a rank (from 1) -/
def rat (row : List Int) (k : Int) : Int := row.getD (k - 1).toNat 0
/-- ranks for the entries, each above last -/
def Lv (row : List Int) : List Ent → Int → Prop
  | [], _ => True
  | e :: es, last => ∃ r, last < r ∧ e.2.1 ≤ r ∧ r ≤ e.2.2 ∧ rat row r = e.1 ∧ Lv row es r
theorem Lv.low {row : List Int} : ∀ {es : List Ent} {a b : Int}, Lv row es b → a ≤ b → Lv row es a
  | [], _, _, _, _ => trivial
  | _ :: _, _, _, ⟨r, h1, h2⟩, h => ⟨r, by omega, h2⟩
theorem Lv.of_fn {row : List Int} (f : Nat → Int) : ∀ (es : List Ent) (i : Nat) (last : Int), (∀ j, j < es.length → lo es j ≤ f (i + j) ∧ f (i + j) ≤ hi es j ∧ rat row (f (i + j)) = vl es j) → (∀ j, j + 1 < es.length → f (i + j) < f (i + j + 1)) → (0 < es.length → last < f i) → Lv row es last
  | [], _, _, _, _, _ => trivial
  | e :: es, i, last, h, hr, hl => by
    have h0 := h 0 (by simp)
    refine ⟨f i, hl (by simp), h0.1, h0.2.1, h0.2.2, ?_⟩
    refine Lv.of_fn f es (i + 1) (f i) (fun j hj => ?_) (fun j hj => ?_) (fun hp => ?_)
    · have := h (j + 1) (by simpa using hj)
      rw [show i + (j + 1) = i + 1 + j by omega] at this
      exact this
    · have := hr (j + 1) (by simpa using hj)
      rw [show i + (j + 1) = i + 1 + j by omega] at this
      exact this
    · exact hr 0 (by simpa using hp)
theorem Lv.fn {row : List Int} : ∀ {es : List Ent} {last : Int}, Lv row es last → ∃ f : Nat → Int, (∀ j, j < es.length → lo es j ≤ f j ∧ f j ≤ hi es j ∧ rat row (f j) = vl es j) ∧ (∀ j, j + 1 < es.length → f j < f (j + 1)) ∧ ∀ j, j < es.length → last < f j
  | [], last, _ => ⟨fun _ => 0, fun j hj => by simp at hj, fun j hj => by simp at hj, fun j hj => by simp at hj⟩
  | e :: es, last, ⟨r, h1, h2, h3, h4, h5⟩ => by
    obtain ⟨f, f1, f2, f3⟩ := Lv.fn h5
    refine ⟨fun j => match j with | 0 => r | j + 1 => f j, fun j hj => ?_, fun j hj => ?_, fun j hj => ?_⟩
    · cases j with
      | zero => exact ⟨h2, h3, h4⟩
      | succ j => exact f1 j (by simpa using hj)
    · cases j with
      | zero => exact f3 0 (by simpa using hj)
      | succ j => exact f2 j (by simpa using hj)
    · cases j with
      | zero => exact h1
      | succ j =>
        have := f3 j (by simpa using hj)
        show last < f j
        omega
/-- the row leaves the entries -/
def Lvs (row : List Int) (es : List Ent) : Prop := Lv row es 0
section
variable {n : Int} {es : List Ent} {row : List Int}
theorem Lvs.ranks (v : Valid n es) (h : Lvs row es) : ∃ f : Nat → Int, (∀ j, j < es.length → tlo es j ≤ f j ∧ f j ≤ thi n es j ∧ rat row (f j) = vl es j) ∧ ∀ j, j + 1 < es.length → f j < f (j + 1) := by
  obtain ⟨f, f1, f2, f3⟩ := Lv.fn h
  have I : IsWay es es.length ((List.range es.length).map f) := by
    have g : ∀ j, j < es.length → ((List.range es.length).map f).getD j 0 = f j := fun j hj => by
      rw [List.getD_eq_getElem?_getD, List.getElem?_map, List.getElem?_range hj]; rfl
    refine ⟨by rw [List.length_map, List.length_range], fun j hj => ?_, fun j hj => ?_⟩
    · rw [g j hj]; exact ⟨(f1 j hj).1, (f1 j hj).2.1⟩
    · rw [g j (by omega), g (j + 1) hj]; exact f2 j hj
  refine ⟨f, fun j hj => ?_, f2⟩
  have a := way_low I (fun j hj => (v.ent j hj).2.2.1) j hj
  have b := way_high I (fun j hj => (v.ent j hj).2.2.2.2) _ j hj rfl
  rw [List.getD_eq_getElem?_getD, List.getElem?_map, List.getElem?_range hj] at a b
  exact ⟨a, b, (f1 j hj).2.2⟩
theorem Lvs.fits (v : Valid n es) (h : Lvs row es) : Fits n es := fun j hj => by
  obtain ⟨f, f1, _⟩ := h.ranks v
  have := f1 j hj
  omega
theorem Lvs.of (f : Nat → Int) (h : ∀ j, j < es.length → tlo es j ≤ f j ∧ f j ≤ thi n es j ∧ rat row (f j) = vl es j) (hr : ∀ j, j + 1 < es.length → f j < f (j + 1)) : Lvs row es :=
  Lv.of_fn f es 0 0 (fun j hj => by
    rw [Nat.zero_add]
    obtain ⟨a, b, c⟩ := h j hj
    exact ⟨Int.le_trans (tlo_lo es j) a, Int.le_trans b (thi_hi hj), c⟩) (fun j hj => by rw [Nat.zero_add]; exact hr j hj) (fun hp => by have := (h 0 hp).1; have := tlo_pos es 0; omega)
theorem Valid.asc' (v : Valid n es) {i : Nat} : ∀ {j : Nat}, i ≤ j → j < es.length → vl es i ≤ vl es j
  | 0, h, _ => by rw [show i = 0 by omega]; exact Int.le_refl _
  | j + 1, h, hj => by
    by_cases e : i = j + 1
    · rw [e]; exact Int.le_refl _
    · have := v.asc' (i := i) (j := j) (by omega) (by omega)
      have := v.asc j hj
      omega
/-- the greatest of b and the numbers; the least of t and the numbers -/
def topD (b : Int) (l : List Int) : Int := l.foldl max b
def botD (t : Int) (l : List Int) : Int := l.foldl min t
theorem topD_ge (l : List Int) : ∀ b, b ≤ topD b l ∧ ∀ x ∈ l, x ≤ topD b l := by
  induction l with
  | nil => exact fun b => ⟨Int.le_refl _, fun x hx => by cases hx⟩
  | cons y l ih =>
    intro b
    obtain ⟨h1, h2⟩ := ih (max b y)
    refine ⟨by show b ≤ topD (max b y) l; omega, fun x hx => ?_⟩
    rcases List.mem_cons.mp hx with e | e
    · show x ≤ topD (max b y) l; omega
    · exact h2 x e
theorem topD_in (l : List Int) : ∀ b, topD b l = b ∨ topD b l ∈ l := by
  induction l with
  | nil => exact fun b => .inl rfl
  | cons y l ih =>
    intro b
    show topD (max b y) l = b ∨ topD (max b y) l ∈ y :: l
    rcases ih (max b y) with e | e
    · rw [e]
      by_cases c : y ≤ b
      · left; omega
      · right; rw [show max b y = y by omega]; exact List.mem_cons_self ..
    · exact .inr (List.mem_cons_of_mem _ e)
theorem botD_le (l : List Int) : ∀ b, botD b l ≤ b ∧ ∀ x ∈ l, botD b l ≤ x := by
  induction l with
  | nil => exact fun b => ⟨Int.le_refl _, fun x hx => by cases hx⟩
  | cons y l ih =>
    intro b
    obtain ⟨h1, h2⟩ := ih (min b y)
    refine ⟨by show botD (min b y) l ≤ b; omega, fun x hx => ?_⟩
    rcases List.mem_cons.mp hx with e | e
    · show botD (min b y) l ≤ x; omega
    · exact h2 x e
theorem botD_in (l : List Int) : ∀ b, botD b l = b ∨ botD b l ∈ l := by
  induction l with
  | nil => exact fun b => .inl rfl
  | cons y l ih =>
    intro b
    show botD (min b y) l = b ∨ botD (min b y) l ∈ y :: l
    rcases ih (min b y) with e | e
    · rw [e]
      by_cases c : b ≤ y
      · left; omega
      · right; rw [show min b y = y by omega]; exact List.mem_cons_self ..
    · exact .inr (List.mem_cons_of_mem _ e)
/-- what is known of the number at a rank: at least .., at most .. -/
def atLow (n : Int) (es : List Ent) (k : Int) : List Int := ((List.range es.length).filter fun j => decide (thi n es j ≤ k)).map (vl es)
def atHigh (es : List Ent) (k : Int) : List Int := ((List.range es.length).filter fun j => decide (k ≤ tlo es j)).map (vl es)
theorem mem_atLow {k x : Int} : x ∈ atLow n es k ↔ ∃ j, j < es.length ∧ thi n es j ≤ k ∧ vl es j = x := by
  unfold atLow
  rw [List.mem_map]
  exact ⟨fun ⟨j, h, e⟩ => by rw [List.mem_filter, List.mem_range] at h; exact ⟨j, h.1, of_decide_eq_true h.2, e⟩, fun ⟨j, a, b, e⟩ => ⟨j, List.mem_filter.mpr ⟨List.mem_range.mpr a, decide_eq_true b⟩, e⟩⟩
theorem mem_atHigh {k x : Int} : x ∈ atHigh es k ↔ ∃ j, j < es.length ∧ k ≤ tlo es j ∧ vl es j = x := by
  unfold atHigh
  rw [List.mem_map]
  exact ⟨fun ⟨j, h, e⟩ => by rw [List.mem_filter, List.mem_range] at h; exact ⟨j, h.1, of_decide_eq_true h.2, e⟩, fun ⟨j, a, b, e⟩ => ⟨j, List.mem_filter.mpr ⟨List.mem_range.mpr a, decide_eq_true b⟩, e⟩⟩
/-- the least row over b, the greatest row under t -/
def rowL (b n : Int) (es : List Ent) : List Int := (List.range n.toNat).map fun (i : Nat) => topD b (atLow n es ((i : Int) + 1))
def rowH (t n : Int) (es : List Ent) : List Int := (List.range n.toNat).map fun (i : Nat) => botD t (atHigh es ((i : Int) + 1))
theorem rat_map {m : Nat} {g : Int → Int} {k : Int} (h1 : 1 ≤ k) (h2 : k ≤ m) : rat ((List.range m).map fun (i : Nat) => g ((i : Int) + 1)) k = g k := by
  unfold rat
  rw [List.getD_eq_getElem?_getD, List.getElem?_map, List.getElem?_range (by omega)]
  show g (((k - 1).toNat : Int) + 1) = g k
  rw [show (((k - 1).toNat : Int) + 1) = k by omega]
theorem rowL_at {b k : Int} (h1 : 1 ≤ k) (h2 : k ≤ n) : rat (rowL b n es) k = topD b (atLow n es k) := rat_map (m := n.toNat) (g := fun k => topD b (atLow n es k)) h1 (by omega)
theorem rowH_at {t k : Int} (h1 : 1 ≤ k) (h2 : k ≤ n) : rat (rowH t n es) k = botD t (atHigh es k) := rat_map (m := n.toNat) (g := fun k => botD t (atHigh es k)) h1 (by omega)
theorem thi_lt {j i : Nat} (h : j < i) : ∀ (hi' : i < es.length), thi n es j < thi n es i := by
  induction i with
  | zero => omega
  | succ i ih =>
    intro hi'
    have := thi_rise (n := n) hi'
    by_cases e : j = i
    · subst e; omega
    · have := ih (by omega) (by omega)
      omega
theorem tlo_lt {j i : Nat} (h : j < i) : tlo es j < tlo es i := by
  induction i with
  | zero => omega
  | succ i ih =>
    have := tlo_rise es i
    by_cases e : j = i
    · subst e; omega
    · have := ih (by omega)
      omega
theorem rowL_leaves (v : Valid n es) (hF : Fits n es) {b : Int} (hb : ∀ j, j < es.length → b ≤ vl es j) : Lvs (rowL b n es) es := by
  refine Lvs.of (n := n) (thi n es) (fun j hj => ⟨hF j hj, Int.le_refl _, ?_⟩) fun j hj => thi_lt (by omega) hj
  rw [rowL_at (Int.le_trans (tlo_pos es j) (hF j hj)) (thi_le hj)]
  have h := topD_ge (atLow n es (thi n es j)) b
  have h1 := h.2 (vl es j) (mem_atLow.mpr ⟨j, hj, Int.le_refl _, rfl⟩)
  rcases topD_in (atLow n es (thi n es j)) b with e | e
  · have := hb j hj; omega
  · obtain ⟨i, hi', hle, ev⟩ := mem_atLow.mp e
    have hij : i ≤ j := by
      by_cases c : i ≤ j
      · exact c
      · have := thi_lt (n := n) (es := es) (show j < i by omega) hi'
        omega
    have := v.asc' hij hj
    omega
theorem rowH_leaves (v : Valid n es) (hF : Fits n es) {t : Int} (ht : ∀ j, j < es.length → vl es j ≤ t) : Lvs (rowH t n es) es := by
  refine Lvs.of (n := n) (tlo es) (fun j hj => ⟨Int.le_refl _, hF j hj, ?_⟩) fun j hj => tlo_lt (by omega)
  rw [rowH_at (tlo_pos es j) (Int.le_trans (hF j hj) (thi_le hj))]
  have h := botD_le (atHigh es (tlo es j)) t
  have h1 := h.2 (vl es j) (mem_atHigh.mpr ⟨j, hj, Int.le_refl _, rfl⟩)
  rcases botD_in (atHigh es (tlo es j)) t with e | e
  · have := ht j hj; omega
  · obtain ⟨i, hi', hle, ev⟩ := mem_atHigh.mp e
    have hij : j ≤ i := by
      by_cases c : j ≤ i
      · exact c
      · have := tlo_lt (es := es) (show i < j by omega)
        omega
    have := v.asc' hij hi'
    omega
theorem topD_mono {b : Int} {l m : List Int} (h : ∀ x ∈ l, x ∈ m) : topD b l ≤ topD b m := by
  rcases topD_in l b with e | e
  · rw [e]; exact (topD_ge m b).1
  · exact (topD_ge m b).2 _ (h _ e)
theorem botD_mono {b : Int} {l m : List Int} (h : ∀ x ∈ m, x ∈ l) : botD b l ≤ botD b m := by
  rcases botD_in m b with e | e
  · rw [e]; exact (botD_le l b).1
  · exact (botD_le l b).2 _ (h _ e)
theorem map_asc {m : Nat} {g : Int → Int} (h : ∀ a b, a ≤ b → g a ≤ g b) : ((List.range m).map fun (i : Nat) => g ((i : Int) + 1)).Pairwise (· ≤ ·) := by
  rw [List.pairwise_map]
  exact List.pairwise_lt_range.imp fun hab => h _ _ (by omega)
theorem rowL_asc (b : Int) : (rowL b n es).Pairwise (· ≤ ·) := map_asc (g := fun k => topD b (atLow n es k)) fun a c h => topD_mono fun x hx => by
  obtain ⟨j, h1, h2, e⟩ := mem_atLow.mp hx
  exact mem_atLow.mpr ⟨j, h1, by omega, e⟩
theorem rowH_asc (t : Int) : (rowH t n es).Pairwise (· ≤ ·) := map_asc (g := fun k => botD t (atHigh es k)) fun a c h => botD_mono fun x hx => by
  obtain ⟨j, h1, h2, e⟩ := mem_atHigh.mp hx
  exact mem_atHigh.mpr ⟨j, h1, by omega, e⟩
/-- an ascending row at two ranks -/
theorem rat_asc {row : List Int} (h : row.Pairwise (· ≤ ·)) {a b : Int} (h1 : 1 ≤ a) (h2 : a ≤ b) (h3 : b ≤ row.length) : rat row a ≤ rat row b := by
  unfold rat
  rw [List.getD_eq_getElem?_getD, List.getD_eq_getElem?_getD, List.getElem?_eq_getElem (show (a - 1).toNat < row.length by omega), List.getElem?_eq_getElem (show (b - 1).toNat < row.length by omega)]
  show row[(a - 1).toNat] ≤ row[(b - 1).toNat]
  by_cases e : (a - 1).toNat = (b - 1).toNat
  · simp only [e]; exact Int.le_refl _
  · exact List.pairwise_iff_getElem.mp h _ _ _ _ (by omega)
/-- the number at a rank, in any row that leaves the summary -/
theorem at_least (v : Valid n es) (h : Lvs row es) (hr : row.Pairwise (· ≤ ·)) (hl : (row.length : Int) = n) {b k : Int} (hb : ∀ x ∈ row, b ≤ x) (k1 : 1 ≤ k) (k2 : k ≤ n) : topD b (atLow n es k) ≤ rat row k := by
  obtain ⟨f, f1, f2⟩ := h.ranks v
  rcases topD_in (atLow n es k) b with e | e
  · rw [e]
    refine hb _ ?_
    unfold rat
    rw [List.getD_eq_getElem?_getD, List.getElem?_eq_getElem (show (k - 1).toNat < row.length by omega)]
    exact List.getElem_mem _
  · obtain ⟨j, hj, hle, ev⟩ := mem_atLow.mp e
    obtain ⟨a, c, d⟩ := f1 j hj
    rw [← ev, ← d]
    have := tlo_pos es j
    exact rat_asc hr (by omega) (by omega) (by omega)
theorem at_most (v : Valid n es) (h : Lvs row es) (hr : row.Pairwise (· ≤ ·)) (hl : (row.length : Int) = n) {t k : Int} (ht : ∀ x ∈ row, x ≤ t) (k1 : 1 ≤ k) (k2 : k ≤ n) : rat row k ≤ botD t (atHigh es k) := by
  obtain ⟨f, f1, f2⟩ := h.ranks v
  rcases botD_in (atHigh es k) t with e | e
  · rw [e]
    refine ht _ ?_
    unfold rat
    rw [List.getD_eq_getElem?_getD, List.getElem?_eq_getElem (show (k - 1).toNat < row.length by omega)]
    exact List.getElem_mem _
  · obtain ⟨j, hj, hle, ev⟩ := mem_atHigh.mp e
    obtain ⟨a, c, d⟩ := f1 j hj
    rw [← ev, ← d]
    have := thi_le (n := n) hj
    exact rat_asc hr (by omega) (by omega) (by omega)
end
end SR

set_option Elab.async false
set_option linter.all false
/-! How many numbers of a row are less than a value. -/
namespace SR
def cnt (row : List Int) (z : Int) : Int := ((row.filter fun x => decide (x < z)).length : Int)
theorem rat_one {x : Int} {r : List Int} : rat (x :: r) 1 = x := rfl
theorem rat_more {x : Int} {r : List Int} {k : Int} (h : 2 ≤ k) : rat (x :: r) k = rat r (k - 1) := by
  unfold rat
  rw [show (k - 1).toNat = (k - 1 - 1).toNat + 1 by omega]
  rfl
theorem cnt_none {row : List Int} {z : Int} (h : ∀ x ∈ row, z ≤ x) : cnt row z = 0 := by
  unfold cnt
  rw [List.filter_eq_nil_iff.mpr fun x hx => by have := h x hx; simp; omega]
  rfl
theorem cnt_le (row : List Int) (z : Int) : 0 ≤ cnt row z ∧ cnt row z ≤ row.length := by
  have := List.length_filter_le (fun x => decide (x < z)) row
  unfold cnt
  omega
theorem cnt_iff {z : Int} : ∀ {row : List Int}, row.Pairwise (· ≤ ·) → ∀ k : Int, 1 ≤ k → k ≤ row.length → (rat row k < z ↔ k ≤ cnt row z)
  | [], _, k, h1, h2 => by simp at h2; omega
  | x :: r, h, k, h1, h2 => by
    rw [List.pairwise_cons] at h
    rw [List.length_cons] at h2
    by_cases c : x < z
    · have e : cnt (x :: r) z = cnt r z + 1 := by
        unfold cnt
        rw [List.filter_cons_of_pos (by simpa using c), List.length_cons]
        omega
      rw [e]
      by_cases k1 : k = 1
      · subst k1
        rw [rat_one]
        have := (cnt_le r z).1
        exact ⟨fun _ => by omega, fun _ => c⟩
      · rw [rat_more (by omega)]
        have := cnt_iff h.2 (k - 1) (by omega) (by omega) (z := z)
        rw [this]
        omega
    · have e : cnt (x :: r) z = 0 := cnt_none fun y hy => by
        rcases List.mem_cons.mp hy with e | e
        · omega
        · have := h.1 y e; omega
      rw [e]
      by_cases k1 : k = 1
      · subst k1
        rw [rat_one]
        exact ⟨fun g => absurd g c, fun g => by omega⟩
      · rw [rat_more (by omega)]
        refine ⟨fun g => ?_, fun g => by omega⟩
        have : (k - 1 - 1).toNat < r.length := by omega
        have m : rat r (k - 1) ∈ r := by
          unfold rat
          rw [List.getD_eq_getElem?_getD, List.getElem?_eq_getElem this]
          exact List.getElem_mem _
        have := h.1 _ m
        omega
def belLow (es : List Ent) (z : Int) : List Int := ((List.range es.length).filter fun j => decide (vl es j < z)).map (tlo es)
def belHigh (n : Int) (es : List Ent) (z : Int) : List Int := ((List.range es.length).filter fun j => decide (z ≤ vl es j)).map fun j => thi n es j - 1
section
variable {n : Int} {es : List Ent} {row : List Int}
theorem mem_belLow {z x : Int} : x ∈ belLow es z ↔ ∃ j, j < es.length ∧ vl es j < z ∧ tlo es j = x := by
  unfold belLow
  rw [List.mem_map]
  exact ⟨fun ⟨j, h, e⟩ => by rw [List.mem_filter, List.mem_range] at h; exact ⟨j, h.1, of_decide_eq_true h.2, e⟩, fun ⟨j, a, b, e⟩ => ⟨j, List.mem_filter.mpr ⟨List.mem_range.mpr a, decide_eq_true b⟩, e⟩⟩
theorem mem_belHigh {z x : Int} : x ∈ belHigh n es z ↔ ∃ j, j < es.length ∧ z ≤ vl es j ∧ thi n es j - 1 = x := by
  unfold belHigh
  rw [List.mem_map]
  exact ⟨fun ⟨j, h, e⟩ => by rw [List.mem_filter, List.mem_range] at h; exact ⟨j, h.1, of_decide_eq_true h.2, e⟩, fun ⟨j, a, b, e⟩ => ⟨j, List.mem_filter.mpr ⟨List.mem_range.mpr a, decide_eq_true b⟩, e⟩⟩
theorem below_least (v : Valid n es) (h : Lvs row es) (hr : row.Pairwise (· ≤ ·)) (hl : (row.length : Int) = n) (z : Int) : topD 0 (belLow es z) ≤ cnt row z := by
  obtain ⟨f, f1, f2⟩ := h.ranks v
  rcases topD_in (belLow es z) 0 with e | e
  · rw [e]; exact (cnt_le row z).1
  · obtain ⟨j, hj, hz, ev⟩ := mem_belLow.mp e
    obtain ⟨a, c, d⟩ := f1 j hj
    rw [← ev]
    have := tlo_pos es j
    have := thi_le (n := n) hj
    have := (cnt_iff hr (f j) (by omega) (by omega)).mp (by rw [d]; exact hz)
    omega
theorem below_most (v : Valid n es) (h : Lvs row es) (hr : row.Pairwise (· ≤ ·)) (hl : (row.length : Int) = n) (z : Int) : cnt row z ≤ botD n (belHigh n es z) := by
  obtain ⟨f, f1, f2⟩ := h.ranks v
  rcases botD_in (belHigh n es z) n with e | e
  · rw [e, ← hl]; exact (cnt_le row z).2
  · obtain ⟨j, hj, hz, ev⟩ := mem_belHigh.mp e
    obtain ⟨a, c, d⟩ := f1 j hj
    rw [← ev]
    have := tlo_pos es j
    have := thi_le (n := n) hj
    have g := cnt_iff hr (f j) (by omega) (by omega) (z := z)
    rw [d] at g
    by_cases q : f j ≤ cnt row z
    · have := g.mpr q; omega
    · omega
theorem rowL_len (b : Int) (h : 0 ≤ n) : ((rowL b n es).length : Int) = n := by
  unfold rowL
  rw [List.length_map, List.length_range]; omega
theorem rowH_len (t : Int) (h : 0 ≤ n) : ((rowH t n es).length : Int) = n := by
  unfold rowH
  rw [List.length_map, List.length_range]; omega
theorem rowH_cnt (v : Valid n es) (hF : Fits n es) {t z : Int} (ht : ∀ j, j < es.length → vl es j ≤ t) (hz : z ≤ t) : cnt (rowH t n es) z = topD 0 (belLow es z) := by
  have n1 := v.n1
  have hl := rowH_len (n := n) (es := es) t (by omega)
  refine Int.le_antisymm ?_ (below_least v (rowH_leaves v hF ht) (rowH_asc t) hl z)
  have hc := cnt_le (rowH t n es) z
  by_cases c0 : cnt (rowH t n es) z = 0
  · rw [c0]; exact (topD_ge _ 0).1
  · have g := (cnt_iff (rowH_asc t) (cnt (rowH t n es) z) (by omega) (by omega)).mpr (Int.le_refl _)
    rw [rowH_at (by omega) (by omega)] at g
    rcases botD_in (atHigh es (cnt (rowH t n es) z)) t with e | e
    · omega
    · obtain ⟨j, hj, hle, ev⟩ := mem_atHigh.mp e
      exact Int.le_trans hle ((topD_ge _ 0).2 _ (mem_belLow.mpr ⟨j, hj, by omega, rfl⟩))
theorem rowL_cnt (v : Valid n es) (hF : Fits n es) {b z : Int} (hb : ∀ j, j < es.length → b ≤ vl es j) (hz : b < z) : cnt (rowL b n es) z = botD n (belHigh n es z) := by
  have n1 := v.n1
  have hl := rowL_len (n := n) (es := es) b (by omega)
  refine Int.le_antisymm (below_most v (rowL_leaves v hF hb) (rowL_asc b) hl z) ?_
  have hc := cnt_le (rowL b n es) z
  by_cases c0 : botD n (belHigh n es z) ≤ cnt (rowL b n es) z
  · exact c0
  · have hbd := (botD_le (belHigh n es z) n).1
    have g := cnt_iff (rowL_asc (n := n) (es := es) b) (cnt (rowL b n es) z + 1) (z := z) (by omega) (by omega)
    rw [rowL_at (by omega) (by omega)] at g
    rcases topD_in (atLow n es (cnt (rowL b n es) z + 1)) b with e | e
    · have := g.mp (by omega); omega
    · obtain ⟨j, hj, hle, ev⟩ := mem_atLow.mp e
      by_cases q : vl es j < z
      · have := g.mp (by omega); omega
      · have := (botD_le (belHigh n es z) n).2 _ (mem_belHigh.mpr ⟨j, hj, by omega, rfl⟩)
        omega
end
end SR

set_option Elab.async false
set_option linter.all false
/-! Plain mathematics of a row that is filled from numbers told at ranks. -/
namespace SR
def fillN (g : Int → Option Int) (f : Int) : Nat → Int
  | 0 => f
  | k + 1 => (g (1 + (k : Int))).getD (fillN g f k)
def fillRow (g : Int → Option Int) (f : Int) (n : Nat) : List Int := (List.range n).map fun (i : Nat) => fillN g f (i + 1)
theorem fillRow_succ (g : Int → Option Int) (f : Int) (n : Nat) : fillRow g f (n + 1) = fillRow g f n ++ [fillN g f (n + 1)] := by
  unfold fillRow
  rw [List.range_succ, List.map_append]
  rfl
theorem fillRow_len (g : Int → Option Int) (f : Int) (n : Nat) : (fillRow g f n).length = n := by unfold fillRow; rw [List.length_map, List.length_range]
theorem fillRow_at {g : Int → Option Int} {f : Int} {n : Nat} {k : Int} (h1 : 1 ≤ k) (h2 : k ≤ n) : rat (fillRow g f n) k = fillN g f k.toNat := by
  unfold rat fillRow
  rw [List.getD_eq_getElem?_getD, List.getElem?_map, List.getElem?_range (by omega)]
  show fillN g f ((k - 1).toNat + 1) = _
  rw [show (k - 1).toNat + 1 = k.toNat by omega]
theorem fillN_some {g : Int → Option Int} {f b : Int} {k : Int} (h1 : 1 ≤ k) (h : g k = some b) : fillN g f k.toNat = b := by
  obtain ⟨m, hm⟩ : ∃ m : Nat, k.toNat = m + 1 := ⟨k.toNat - 1, by omega⟩
  rw [hm]
  show (g (1 + (m : Int))).getD _ = b
  rw [show 1 + (m : Int) = k by omega, h]
  rfl
/-- the numbers told are not less than first, and ascend -/
structure Asc (g : Int → Option Int) (f : Int) : Prop where
  lo : ∀ k b, g k = some b → f ≤ b
  up : ∀ j k a b, j < k → g j = some a → g k = some b → a ≤ b
theorem Asc.le {g : Int → Option Int} {f : Int} (A : Asc g f) : ∀ (m : Nat) (k b : Int), (m : Int) < k → g k = some b → fillN g f m ≤ b
  | 0, k, b, _, h => A.lo k b h
  | m + 1, k, b, hk, h => by
    show (g (1 + (m : Int))).getD (fillN g f m) ≤ b
    cases e : g (1 + (m : Int)) with
    | none => exact A.le m k b (by omega) h
    | some a => exact A.up _ _ _ _ (by omega) e h
theorem Asc.step {g : Int → Option Int} {f : Int} (A : Asc g f) (m : Nat) : fillN g f m ≤ fillN g f (m + 1) := by
  show fillN g f m ≤ (g (1 + (m : Int))).getD (fillN g f m)
  cases e : g (1 + (m : Int)) with
  | none => exact Int.le_refl _
  | some a => exact A.le m _ a (by omega) e
theorem Asc.mono {g : Int → Option Int} {f : Int} (A : Asc g f) {i : Nat} : ∀ j, i ≤ j → fillN g f i ≤ fillN g f j
  | 0, h => by rw [show i = 0 by omega]; exact Int.le_refl _
  | j + 1, h => by
    by_cases e : i = j + 1
    · rw [e]; exact Int.le_refl _
    · exact Int.le_trans (A.mono j (by omega)) (A.step j)
theorem Asc.row {g : Int → Option Int} {f : Int} (A : Asc g f) (n : Nat) : (fillRow g f n).Pairwise (· ≤ ·) := by
  unfold fillRow
  rw [List.pairwise_map]
  exact List.pairwise_lt_range.imp fun h => A.mono _ (by omega)
/-- the first i entries' values at their lows -/
def gE (ts : List Ent) : Nat → Int → Option Int
  | 0, _ => none
  | i + 1, k => if k = lo ts i then some (vl ts i) else gE ts i k
theorem gE_succ (ts : List Ent) (i : Nat) (k : Int) : gE ts (i + 1) k = if k = lo ts i then some (vl ts i) else gE ts i k := rfl
theorem gE_is {ts : List Ent} : ∀ {i : Nat} {k b : Int}, gE ts i k = some b → ∃ j, j < i ∧ k = lo ts j ∧ b = vl ts j
  | 0, _, _, h => by cases h
  | i + 1, k, b, h => by
    unfold gE at h
    by_cases c : k = lo ts i
    · rw [if_pos c] at h
      exact ⟨i, by omega, c, (Option.some.inj h).symm⟩
    · rw [if_neg c] at h
      obtain ⟨j, h1, h2⟩ := gE_is h
      exact ⟨j, by omega, h2⟩
theorem gE_at {ts : List Ent} (up : ∀ i j, i < j → j < ts.length → lo ts i < lo ts j) : ∀ {i j : Nat}, i ≤ ts.length → j < i → gE ts i (lo ts j) = some (vl ts j)
  | 0, j, _, h => by omega
  | i + 1, j, hi', hj => by
    unfold gE
    by_cases e : j = i
    · subst e; rw [if_pos rfl]
    · have := up j i (by omega) (by omega)
      rw [if_neg (by omega)]
      exact gE_at up (by omega) (by omega)
theorem gE_asc {ts : List Ent} {f : Int} (up : ∀ i j, i < j → j < ts.length → lo ts i < lo ts j) (va : ∀ i j, i ≤ j → j < ts.length → vl ts i ≤ vl ts j) (hf : ∀ j, j < ts.length → f ≤ vl ts j) : Asc (gE ts ts.length) f where
  lo := fun k b h => by
    obtain ⟨j, h1, _, h3⟩ := gE_is h
    rw [h3]; exact hf j h1
  up := fun j k a b h ha hb => by
    obtain ⟨i1, h1, h2, h3⟩ := gE_is ha
    obtain ⟨i2, g1, g2, g3⟩ := gE_is hb
    rw [h3, g3]
    refine va _ _ ?_ g1
    by_cases c : i1 ≤ i2
    · exact c
    · have := up i2 i1 (by omega) h1
      omega
/-- the tightened entries: lows rise, values do not fall -/
theorem tight_up {n : Int} {es : List Ent} : ∀ i j, i < j → j < (tightL n es).length → lo (tightL n es) i < lo (tightL n es) j := fun i j h hj => by
  rw [tight_len] at hj
  rw [lo_of (tight_at (n := n) hj), lo_of (tight_at (n := n) (show i < es.length by omega))]
  exact tlo_lt h
theorem tight_va {n : Int} {es : List Ent} (v : Valid n es) : ∀ i j, i ≤ j → j < (tightL n es).length → vl (tightL n es) i ≤ vl (tightL n es) j := fun i j h hj => by
  rw [tight_len] at hj
  rw [vl_of (tight_at (n := n) hj), vl_of (tight_at (n := n) (show i < es.length by omega))]
  exact v.asc' h hj
theorem fill_leaves {n : Int} {es : List Ent} (v : Valid n es) (hF : Fits n es) {g : Int → Option Int} {f : Int} (hg : ∀ j, j < es.length → g (tlo es j) = some (vl es j)) : Lvs (fillRow g f n.toNat) es := by
  refine Lvs.of (n := n) (tlo es) (fun j hj => ⟨Int.le_refl _, hF j hj, ?_⟩) fun j hj => tlo_lt (by omega)
  have h1 := tlo_pos es j
  have h2 := hF j hj
  have h3 := thi_le (n := n) hj
  rw [fillRow_at h1 (by omega)]
  exact fillN_some h1 (hg j hj)
/-- one turn of the walk for places -/
theorem Lv.no {row : List Int} {e : Ent} {es : List Ent} {L : Int} (h : ∀ x, max e.2.1 (L + 1) ≤ x → x ≤ e.2.2 → rat row x ≠ e.1) : ¬ Lv row (e :: es) L := fun ⟨r, h1, h2, h3, h4, _⟩ => h r (by omega) h3 h4
theorem Lv.yes {row : List Int} {e : Ent} {es : List Ent} {L r : Int} (h1 : max e.2.1 (L + 1) ≤ r) (h2 : r ≤ e.2.2) (h3 : rat row r = e.1) (h : ∀ x, max e.2.1 (L + 1) ≤ x → x < r → rat row x ≠ e.1) : Lv row (e :: es) L ↔ Lv row es r := by
  constructor
  · rintro ⟨q, a, b, c, d, k⟩
    refine k.low ?_
    by_cases z : r ≤ q
    · exact z
    · exact absurd d (h q (by omega) (by omega))
  · exact fun k => ⟨r, by omega, by omega, h2, h3, k⟩
end SR

set_option Elab.async false
set_option linter.all false
set_option maxRecDepth 100000
set_option maxHeartbeats 4000000
/-! Rules of one's own over the hand layer: == and len of own instances, zip of three, enumerate of a tuple. -/
namespace SR
open PySem PySem.Spec PyProof.Rows L2
/-! ### heaps -/
theorem Same_new {H : Hp} {p : Addr} {o : HO} (h : H p = none) : Same H (upd H p o) := fun b u e => by rw [upd_ne (ne_of_none e h)]; exact e
theorem Same_new2 {H H1 : Hp} {p : Addr} {o : HO} (s : Same H H1) (h : H1 p = none) : Same H (upd H1 p o) := s.trans (Same_new h)
/-- a thing that H does not know may change -/
theorem Same_mut {H H1 : Hp} {p : Addr} {o : HO} (s : Same H H1) (h : H p = none) : Same H (upd H1 p o) := fun b u e => by rw [upd_ne (ne_of_none e h)]; exact s b u e
/-! ### == by an own __eq__ -/
section
variable {X : Cx}
def rEqO (K : PySem.W.Frag) (C : Addr) (sp : Sp) (E : XK) : R2 := fun x y H Q => ∃ a dx fs t, x = .ref a ∧ H a = some (.ins C dx fs) ∧ TyX K H y t ∧ PySem.W.notFirst K C t = true ∧ sp [x, y] H Q E
theorem op_eqO {CX : CXT} {C f : Addr} {fd : FuncData} {ps : List Str} {sp : Sp} {E : XK} {n : Nat} (F : FnOk X.prog X.w X.K X.mg X.base CX n f fd ps sp) (hr : Room n X.A)
    (hs : PySem.W.findIn X.K (.ref C) "__eq__" = some (some (.ref f))) (hf : PySem.W.isFn X.K (.ref f) = true) (hb : Binds X.K fd ps []) (hx : Passes CX X E) : OpR X (compareOp .Eq) (rEqO X.K C sp E) := by
  intro pins s σ H x y v u Q I rx ry hq
  obtain ⟨a, dx, fs, t, rfl, ha, ty, hn, hsp⟩ := hq
  cases rx
  obtain ⟨mA, J, _⟩ := ins_get I.hok ha
  obtain ⟨od, J, _⟩ := J.look
  obtain ⟨m, hF⟩ := I.fr
  obtain ⟨P, Z, p, _⟩ := kit_of I ry ty
  show wpAny (model X.prog X.w) X.A (richCompare .Eq (.ref a) u) (EP X pins σ Q) X.xe s
  refine PySem.W.cmp_K (op := .Eq) (tb := t) hr.units0 hF I.ok.mod.kin J (Z.ty _ _ I.kIn p) hn hs hf ?_
  have hl := F.len _ _ _ _ hsp
  have r2 : Vals [V.ref a, y] [Value.ref a, u] := .cons rfl (.cons ry .nil)
  refine wpAny_call (codeAny_mono (F.run X.A X.stack s H ⟨[.ref a, u], []⟩ [.ref a, u] [.ref a, y] Q E hr I.env0 (by
    have := hb s [.ref a, u] I.kIn (by simpa using hl)
    simpa using this) r2 hsp) fun r s' hq => ?_)
  cases r with
  | error e => exact hx pins σ H s e s' I hq
  | ok fl =>
    cases fl with
    | ret w' =>
      obtain ⟨z, H', I', rz, ez⟩ := I.after hq
      show PySem.W.CmpBack (EP X pins σ Q) w' s'
      have q : EP X pins σ Q w' s' := ⟨z, H', I', rz, ez⟩
      cases w' <;> first | exact q | (cases z <;> first | exact nomatch rz | (obtain ⟨_, e⟩ := rz; exact nomatch e))
    | next => exact False.elim hq
    | brk => exact False.elim hq
    | cont => exact False.elim hq

/-! ### len by an own __len__ -/
def rLenO (C : Addr) (sp : Sp) (E : XK) : List V → Hp → VK → Prop := fun xs H Q => ∃ a dx fs, xs = [.ref a] ∧ H a = some (.ins C dx fs) ∧ sp [.ref a] H (fun v H' => ∃ n : Int, v = .int n ∧ 0 ≤ n ∧ n < 2 ^ 63 ∧ Q (.int n) H') E
theorem call_lenO {CX : CXT} {C f : Addr} {fd : FuncData} {ps : List Str} {sp : Sp} {E : XK} {n : Nat} (F : FnOk X.prog X.w X.K X.mg X.base CX n f fd ps sp) (hr : Room (n + 1) X.A)
    (hs : PySem.W.findIn X.K (.ref C) "__len__" = some (some (.ref f))) (hf : PySem.W.isFn X.K (.ref f) = true) (hb : Binds X.K fd ps []) (hx : Passes CX X E) : CallR X (.builtin "len") (rLenO C sp E) := by
  intro pins s σ H xs us Q I r h
  obtain ⟨a, dx, fs, rfl, ha, hsp⟩ := h
  obtain ⟨u, rfl, ru⟩ := vals1 r
  cases ru
  obtain ⟨mA, J, _⟩ := ins_get I.hok ha
  obtain ⟨od, J, _⟩ := J.look
  obtain ⟨m, hF⟩ := I.fr
  refine PySem.W.len_K hF I.ok.mod.kin J hs hf ?_
  have hl := F.len _ _ _ _ hsp
  refine wpAny_call (codeAny_mono (F.run X.A.in1 X.stack s H ⟨[.ref a], []⟩ [.ref a] [.ref a] _ E hr.in1 I.env0.in1 (by
    have := hb s [.ref a] I.kIn (by simpa using hl)
    simpa using this) (.cons rfl .nil) hsp) fun r s' hq => ?_)
  cases r with
  | error e => exact hx pins σ H s e s' I hq
  | ok fl =>
    cases fl with
    | ret w' =>
      obtain ⟨z, H', I', rz, k, ez, h0, h1, q⟩ := I.after hq
      subst ez
      obtain ⟨t, rfl⟩ := rz
      exact ⟨⟨h0, h1⟩, .int k, H', I'.tok _, ⟨_, rfl⟩, q⟩
    | next => exact False.elim hq
    | brk => exact False.elim hq
    | cont => exact False.elim hq
end
/-! ### enumerate of a tuple -/
section
set_option maxHeartbeats 1000000 in
theorem meets_enum1 {v : Value} {o : Obj} {H : Heap → Prop} (B : Begins v o H) :
    Meets (Builtin.«enumerate.__new__» ⟨[.type "enumerate", v], []⟩) (fun _ R s => H s.heap ∧
      R (.ok (.ret (.ref (s.heap.push o).objs.size))) { s with heap := (s.heap.push o).push { cls := .type "enumerate", data := .fields #[.none, .bool false, .ref s.heap.objs.size, rawInt 0, .none, .none] } }) :=
  .of_wp fun prog w A R s h => by
    obtain ⟨hp, g, d, tk, os⟩ := s; obtain ⟨h1, h⟩ := h
    have hsub := sub_enumerate
    have q1 : ∀ {A' : Around} {E : Value → Shared → Prop} {Q : Value → Shared → Prop}, Q (.ref hp.objs.size) ⟨hp.push o, g, d, tk, os⟩ → wpAny (model prog w) A' (pyIter v) Q E ⟨hp, g, d, tk, os⟩ :=
      fun q => B.iter prog w _ _ ⟨hp, g, d, tk, os⟩ _ h1 q
    wp_walk using q1
    refine wpAny_stack_any fun st => wpAny_pure ?_
    split
    · rename_i c _ _ _ _ _
      cases (c == Value.type "enumerate")
      · wp_walk using q1
        exact ⟨_, rfl, h⟩
      · wp_walk using q1
        exact ⟨_, rfl, h⟩
    · wp_walk using q1
      exact ⟨_, rfl, h⟩
theorem enum_begins1 {prog : Program} {w : World} {A : Around} {E : Value → Shared → Prop} {s : Shared} {v : Value} {o : Obj} {H : Heap → Prop} {Q : Value → Shared → Prop} (B : Begins v o H) (h1 : H s.heap)
    (h : ∀ h', IsEnum h' (s.heap.objs.size + 1) s.heap.objs.size 0 .none → h'.get? s.heap.objs.size = some o → h'.objs.size = s.heap.objs.size + 2 →
      (∀ b o, s.heap.get? b = some o → h'.get? b = some o) → Q (.ref (s.heap.objs.size + 1)) { s with heap := h' }) :
    wpAny (model prog w) A (call (.type "enumerate") [v]) Q E s := by
  refine callType_new F.called_enumerate (by decide) (F.typeCall_enumerate_1 _) (F.newCall_enumerate_1 _) (fun obj => F.args_object_init_2 obj _) F.entry_enumerate_new
    (meets_enum1 B) ⟨h1, ?_⟩
  have hz : (s.heap.push o).objs.size = s.heap.objs.size + 1 := Heap.size_push ..
  show _ ∧ _
  rw [hz]
  have he : IsEnum ((s.heap.push o).push { cls := .type "enumerate", data := .fields #[.none, .bool false, .ref s.heap.objs.size, rawInt 0, .none, .none] }) (s.heap.objs.size + 1) s.heap.objs.size 0 .none := by
    have := Heap.get?_push_size (s.heap.push o) (o := { cls := .type "enumerate", data := .fields #[.none, .bool false, .ref s.heap.objs.size, rawInt 0, .none, .none] }) rfl
    rw [hz] at this; exact this
  refine ⟨⟨_, he, rfl⟩, h _ he (Heap.get?_push_of_some _ (Heap.get?_push_size _ B.free)) (by rw [Heap.size_push, hz]) fun b o x => Heap.get?_push_of_some _ (Heap.get?_push_of_some _ x)⟩
end
/-- the tuple at a, each item in a new pair with its place -/
def ItEt (K : PySem.W.Frag) (a : Addr) : It :=
  ⟨fun i H => ∃ (xs : List V) (x : V), SqT K H a xs ∧ xs[i]? = some x, fun i H v H' => ∃ T x, v = .ref T ∧ H T = none ∧ H' = upd H T (.tup [.int (i : Nat), x]) ∧ ∀ xs, SqT K H a xs → xs[i]? = some x, fun i H => ∃ xs : List V, SqT K H a xs ∧ xs.length = i⟩
theorem turn_enumT {P : Program} {w : World} {K : PySem.W.Frag} {elts : List Expr} {kk : Nat} {tpos : Pos} (a e it : Addr) :
    Turn P w K (.Tuple elts kk tpos) (ItEt K a) [e, it] e (fun i h => (∃ old, IsEnum h e it ((i : Nat) : Int) old) ∧ h.IsTupleIter it a i ∧ e ≠ it) where
  mem := by simp
  obj := fun i h st b hb => by
    obtain ⟨⟨old, he⟩, ⟨o, ho, hc, hd⟩, _⟩ := st
    have e' : b = e ∨ b = it := by simpa using hb
    rcases e' with z | z
    · rw [z]; exact ⟨_, he, fun v q => nomatch q⟩
    · rw [z]; exact ⟨o, ho, fun v q => by rw [hd] at q; cases q⟩
  keep := fun i h h' st k => let ⟨⟨old, he⟩, hi, hne⟩ := st; ⟨⟨old, k e (by simp) _ he⟩, hi.at fun o q => k it (by simp) o q, hne⟩
  item := by
    intro X hP hw hK hc i pins s σ H E I hf st hg
    subst hP hw hK
    obtain ⟨⟨old, he⟩, hit, hne⟩ := st
    obtain ⟨xs, x, hq, hx⟩ := hg
    obtain ⟨its, rv, p, hz⟩ := I.tuple hq
    obtain ⟨u, hu, ru⟩ := rv.get hx
    have hel : e < s.heap.objs.size := Heap.lt_size he
    have hil : it < s.heap.objs.size := by obtain ⟨_, q, _⟩ := hit; exact Heap.lt_size q
    have hT : s.heap.IsTuple a its.toArray := p
    obtain ⟨o1, ho1, hc1, _⟩ := id p
    obtain ⟨o2, ho2, hc2, _⟩ := id hit
    have hea : e ≠ a := fun z => by subst z; rw [he] at ho1; cases ho1; exact absurd hc1 (by simp)
    have hai : a ≠ it := fun z => by subst z; rw [ho1] at ho2; cases ho2; rw [hc1] at hc2; exact absurd hc2 (by simp)
    have hlt : i < its.toArray.size := by
      rw [List.size_toArray]
      exact (List.getElem?_eq_some_iff.mp hu).1
    refine wpAny_pyNext_enum_itemC (Draws.tuple (A := X.A.in1) (I.ok.hd hc) it a hai its.toArray) he ⟨hit, hT⟩ hlt hne (by simp [hne, hea]) fun y h' tk hP ho hs' hT2 hsz hk => ?_
    have ey : y = u := by
      have q : its.toArray[i]? = some y := hP
      rw [List.getElem?_toArray, hu] at q
      exact (Option.some.inj q).symm
    subst ey
    refine ⟨_, rfl, wpAny_letOwnedTupleGo_enum (s := { s with heap := h', toks := tk + 1 }) ho fun h'' he' sb => ?_⟩
    have hT3 : h''.get? s.heap.objs.size = some { cls := .type "tuple", data := .seq #[.int i tk, y] } := (sb.2 _ (Nat.ne_of_gt hel)).trans hT2
    have new : ObjOk X.prog X.w (upd H s.heap.objs.size (.tup [.int (i : Nat), x])) h'' s.heap.objs.size (.tup [.int (i : Nat), x]) :=
      ⟨by show 2 ≤ sizeLine; decide, [.int i tk, y], .cons ⟨_, rfl⟩ (.cons ru .nil), ⟨_, hT3, rfl, _, rfl⟩⟩
    have I1 : Inv X pins σ (upd H s.heap.objs.size (.tup [.int (i : Nat), x])) { s with heap := h'', toks := tk + 1 } :=
      I.turnedNew (ch := [e, it]) (fun b ob hb q => (sb.2 b (fun z => hb (by simp [z]))).trans (hk b ob (fun z => hb (by simp [z])) (fun z => hb (by simp [z])) q)) hf (Nat.le_refl _) new
    refine ⟨.ref s.heap.objs.size, _, I1, rfl, ⟨_, x, rfl, I.hok.fresh (Nat.le_refl _), rfl, fun ys hy => by rw [I.tuple_inj hy hq]; exact hx⟩, ⟨⟨y, ?_⟩, hs'.1.at fun o q => (sb.2 it (Ne.symm hne)).trans q, hne⟩, fun b hb => ?_⟩
    · have e1 : ((i + 1 : Nat) : Int) = (i : Int) + 1 := by omega
      rw [e1]; exact he'
    · have hb' : b < s.heap.objs.size := by
        have e' : b = e ∨ b = it := by simpa using hb
        rcases e' with z | z
        · rw [z]; exact hel
        · rw [z]; exact hil
      rw [upd_ne (Nat.ne_of_lt hb')]
      exact (hf b hb).1
  done := by
    intro X hP hw hK hc i pins s σ H E I hf st hg
    subst hP hw hK
    obtain ⟨⟨old, he⟩, hit, hne⟩ := st
    obtain ⟨xs, hq, hx⟩ := hg
    obtain ⟨its, rv, p, hz⟩ := I.tuple hq
    have hT : s.heap.IsTuple a its.toArray := p
    obtain ⟨o1, ho1, hc1, _⟩ := id p
    obtain ⟨o2, ho2, hc2, _⟩ := id hit
    have hai : a ≠ it := fun z => by subst z; rw [ho1] at ho2; cases ho2; rw [hc1] at hc2; exact absurd hc2 (by simp)
    obtain ⟨f0, f1, f2, f3, f4, f5⟩ := hf it (by simp)
    have hl : its.toArray.size = i := by rw [List.size_toArray, ← rv.length]; exact hx
    exact wpAny_pyNext_enum_endD (Draws.tuple (A := X.A.in1) (I.ok.hd hc) it a hai its.toArray) he (by rw [hl]; exact ⟨hit, hT⟩) fun h' eb => ⟨rfl, I.turned (t' := s.toks) (fun b o hb q => eb b o hb q) f0 f1 f3 f4 f5⟩
  self := fun A i s Q E st h => let ⟨⟨_, he⟩, _⟩ := st; wpAny_pyIter_enum he h
def iEnumT (K : PySem.W.Frag) (ta : TA) : TI := fun σ H R => ta σ H fun vs H1 => ∃ a xs, vs = [.ref a] ∧ SqT K H1 a xs ∧ R (ItEt K a) H1
theorem pi_enumT {X : Cx} {e : Expr} {ta : TA} {p pos tpos : Pos} {elts : List Expr} {kk : Nat} (hg : Gl X "enumerate") (hm : X.mg "enumerate" = none) (ha : PA X [e] ta) (hs : starEach [e] X.env = [(false, eval e X.env)] := by rfl) :
    PI X (.Tuple elts kk tpos) (.Call (.Name "enumerate" p) [e] [] pos) (iEnumT X.K ta) := by
  refine ⟨fun pins s σ H R I h => ?_⟩
  refine Call_ (ld_blt I hg hm boot_enumerate (PyProof.Rows.callWith_type1 (thn (ha.run pos pins s σ H _ I h) fun us s1 ⟨vs, H1, I1, r1, q1⟩ => ?_) hs rfl))
  obtain ⟨a, xs, ex, hq, q⟩ := q1
  subst ex
  cases r1 with
  | cons r rr =>
    cases rr
    cases r
    obtain ⟨its, rv, p', hz⟩ := I1.tuple hq
    have hT : s1.heap.IsTuple a its.toArray := p'
    refine enum_begins1 (begins_tuple a its.toArray) hT fun h' he ho hsz hk => wpAny_pyIter_enum he ?_
    have hit : h'.IsTupleIter s1.heap.objs.size a 0 := ⟨_, ho, rfl, rfl⟩
    have I2 : Inv X pins σ H1 { s1 with heap := h' } := I1.kept (t' := s1.toks) hk
    refine ⟨s1.heap.objs.size + 1, [s1.heap.objs.size + 1, s1.heap.objs.size], _, _, H1, rfl, I2, turn_enumT a (s1.heap.objs.size + 1) s1.heap.objs.size, ⟨⟨.none, he⟩, hit, Nat.succ_ne_self _⟩, fun b hb => ?_, q⟩
    have e' : b = s1.heap.objs.size + 1 ∨ b = s1.heap.objs.size := by simpa using hb
    have hle : s1.heap.objs.size ≤ b := by
      rcases e' with z | z
      · rw [z]; exact Nat.le_add_right _ _
      · rw [z]; exact Nat.le_refl _
    exact I1.fpOk hle (I1.hok.fresh hle)
theorem for_enumT {K : PySem.W.Frag} {a : Addr} {xs : List V} {g : TG} {tb : TS} {D : Ends} {σ : L2.St} {H : Hp} (Pv : Nat → L2.St → Hp → Prop) (h0 : Pv 0 σ H) (hq : ∀ i σ H, Pv i σ H → SqT K H a xs)
    (hs : ∀ (i : Nat) (x : V) (T : Addr) (σ : L2.St) (H : Hp), xs[i]? = some x → Pv i σ H → H T = none → g (.ref T) σ (upd H T (.tup [.int (i : Nat), x])) fun σ2 H2 => tb { D with nx := Pv (i + 1), ct := Pv (i + 1), bk := D.nx } σ2 H2) (hd : ∀ σ H, Pv xs.length σ H → D.nx σ H) :
    ∃ W : Nat → Nat → L2.St → Hp → Prop, (∃ m, W 0 m σ H) ∧ ∀ i m σ H, W i m σ H →
      ((ItEt K a).stop i H ∧ D.nx σ H) ∨ ((ItEt K a).go i H ∧ ∃ N : L2.St → Hp → Prop, (∀ σ' H', N σ' H' → ∃ m', m' < m ∧ W (i + 1) m' σ' H') ∧ ∀ v H', (ItEt K a).yld i H v H' → g v σ H' fun σ2 H2 => tb { D with nx := N, ct := N, bk := D.nx } σ2 H2) := by
  refine ⟨fun i m σ H => m = xs.length - i ∧ i ≤ xs.length ∧ Pv i σ H, ⟨xs.length, rfl, Nat.zero_le _, h0⟩, ?_⟩
  rintro i m σ H ⟨rfl, hi, p⟩
  have qx := hq i σ H p
  by_cases hlt : i < xs.length
  · have hx : xs[i]? = some xs[i] := List.getElem?_eq_getElem hlt
    refine .inr ⟨⟨xs, _, qx, hx⟩, Pv (i + 1), fun σ' H' p' => ⟨xs.length - (i + 1), by omega, rfl, hlt, p'⟩, fun v H' y => ?_⟩
    obtain ⟨T, x', rfl, hT, rfl, f1⟩ := y
    exact hs i x' T σ H (f1 xs qx) p hT
  · have e : i = xs.length := by omega
    subst e
    exact .inl ⟨⟨xs, qx, rfl⟩, hd σ H p⟩
/-! ### zip of a tuple and two lists -/
def ItZ3 (K : PySem.W.Frag) (a b c : Addr) : It :=
  ⟨fun i H => ∃ (xs ys zs : List V) (x y z : V), SqT K H a xs ∧ SqL K H b ys ∧ SqL K H c zs ∧ xs[i]? = some x ∧ ys[i]? = some y ∧ zs[i]? = some z,
    fun i H v H' => ∃ T x y z, v = .ref T ∧ H T = none ∧ H' = upd H T (.tup [x, y, z]) ∧ (∀ xs, SqT K H a xs → xs[i]? = some x) ∧ (∀ ys, SqL K H b ys → ys[i]? = some y) ∧ ∀ zs, SqL K H c zs → zs[i]? = some z,
    fun i H => ∃ xs ys zs : List V, SqT K H a xs ∧ SqL K H b ys ∧ SqL K H c zs ∧ xs.length = i ∧ ys.length = i ∧ zs.length = i⟩
/-- the cells of the zip lie apart from one another -/
structure Ap3 (z TI TO i1 i2 i3 : Addr) : Prop where
  TIz : TI ≠ z
  TOz : TO ≠ z
  TITO : TI ≠ TO
  TI1 : TI ≠ i1
  TI2 : TI ≠ i2
  TI3 : TI ≠ i3
  TO1 : TO ≠ i1
  TO2 : TO ≠ i2
  TO3 : TO ≠ i3
  z1 : z ≠ i1
  z2 : z ≠ i2
  z3 : z ≠ i3
  i12 : i1 ≠ i2
  i13 : i1 ≠ i3
  i23 : i2 ≠ i3
theorem ap3_of (n : Nat) : Ap3 (n + 5) (n + 3) (n + 4) n (n + 1) (n + 2) :=
  ⟨(show (n + 3 : Nat) ≠ n + 5 by omega), (show (n + 4 : Nat) ≠ n + 5 by omega), (show (n + 3 : Nat) ≠ n + 4 by omega), (show (n + 3 : Nat) ≠ n by omega), (show (n + 3 : Nat) ≠ n + 1 by omega), (show (n + 3 : Nat) ≠ n + 2 by omega), (show (n + 4 : Nat) ≠ n by omega), (show (n + 4 : Nat) ≠ n + 1 by omega), (show (n + 4 : Nat) ≠ n + 2 by omega), (show (n + 5 : Nat) ≠ n by omega), (show (n + 5 : Nat) ≠ n + 1 by omega), (show (n + 5 : Nat) ≠ n + 2 by omega), (show (n : Nat) ≠ n + 1 by omega), (show (n : Nat) ≠ n + 2 by omega), (show (n + 1 : Nat) ≠ n + 2 by omega)⟩
theorem le_of6 {n q : Nat} (h : q = n + 5 ∨ q = n + 3 ∨ q = n + 4 ∨ q = n ∨ q = n + 1 ∨ q = n + 2) : n ≤ q := by omega
theorem to_ne {n a : Nat} (h : a < n) : n + 4 ≠ a := by omega
theorem sep3 {z TI TO i1 i2 i3 a b c : Addr} (D : Ap3 z TI TO i1 i2 i3) (ha : ∀ q ∈ [z, TO, i1, i2, i3], q ≠ a) (hb : ∀ q ∈ [z, TO, i1, i2, i3], q ≠ b) (hc : ∀ q ∈ [z, TO, i1, i2, i3], q ≠ c) : ZipSep3 z TI TO i1 i2 i3 [i1, a] [i2, b] [i3, c] := by
  have nm : ∀ {x y q : Addr}, x ≠ y → x ≠ q → x ∉ [y, q] := fun h1 h2 h => by
    rcases List.mem_cons.mp h with e | h
    · exact h1 e
    · exact h2 (List.mem_singleton.mp h)
  exact ⟨D.TIz, D.TOz, D.TITO, D.TI1, by simp, nm D.z1 (ha z (by simp)), nm D.TO1 (ha TO (by simp)), D.TI2, by simp, nm D.z2 (hb z (by simp)), nm D.TO2 (hb TO (by simp)), D.TI3, by simp, nm D.z3 (hc z (by simp)), nm D.TO3 (hc TO (by simp)),
    nm D.i12 (hb i1 (by simp)), nm D.i13 (hc i1 (by simp)), nm (Ne.symm D.i12) (ha i2 (by simp)), nm D.i23 (hc i2 (by simp)), nm (Ne.symm D.i13) (ha i3 (by simp)), nm (Ne.symm D.i23) (hb i3 (by simp))⟩
/-- an own cell is no list and no tuple that stands -/
theorem cell_ne {h : Heap} {q a : Addr} {o : Obj} {T : String} (hq : ∃ o', h.get? q = some o' ∧ o'.cls = .type T) (ha : h.get? a = some o) (hn : o.cls ≠ .type T) : q ≠ a := fun z => by
  obtain ⟨o', e, c⟩ := hq
  rw [z, ha] at e
  cases e
  exact hn c
theorem turn_zip3 {P : Program} {w : World} {K : PySem.W.Frag} {elts : List Expr} {kk : Nat} {tpos : Pos} {a b c z TI TO i1 i2 i3 : Addr} (D : Ap3 z TI TO i1 i2 i3) :
    Turn P w K (.Tuple elts kk tpos) (ItZ3 K a b c) [z, TI, TO, i1, i2, i3] z (fun i h => IsZip h z TI TO .none ∧ IsTupOf3 h TI (.ref i1) (.ref i2) (.ref i3) ∧ (∃ x y q, IsTupOf3 h TO x y q) ∧ h.IsTupleIter i1 a i ∧ h.IsListIter i2 b i ∧ h.IsListIter i3 c i ∧ TO ≠ a) where
  mem := by simp
  obj := fun i h st q hq => by
    obtain ⟨hz, hTI, ⟨x, y, u, hTO⟩, ⟨o1, e1, _, d1⟩, ⟨o2, e2, _, d2⟩, ⟨o3, e3, _, d3⟩, _⟩ := st
    have e' : q = z ∨ q = TI ∨ q = TO ∨ q = i1 ∨ q = i2 ∨ q = i3 := by simpa using hq
    rcases e' with r | r | r | r | r | r
    · rw [r]; exact ⟨_, hz, fun v q => nomatch q⟩
    · rw [r]; exact ⟨_, hTI, fun v q => nomatch q⟩
    · rw [r]; exact ⟨_, hTO, fun v q => nomatch q⟩
    · rw [r]; exact ⟨o1, e1, fun v q => by rw [d1] at q; cases q⟩
    · rw [r]; exact ⟨o2, e2, fun v q => by rw [d2] at q; cases q⟩
    · rw [r]; exact ⟨o3, e3, fun v q => by rw [d3] at q; cases q⟩
  keep := fun i h h' st k => by
    obtain ⟨hz, hTI, ⟨x, y, u, hTO⟩, h1, h2, h3, ne⟩ := st
    exact ⟨k z (by simp) _ hz, k TI (by simp) _ hTI, ⟨x, y, u, k TO (by simp) _ hTO⟩, h1.at fun o q => k i1 (by simp) o q, h2.at fun o q => k i2 (by simp) o q, h3.at fun o q => k i3 (by simp) o q, ne⟩
  item := by
    intro X hP hw hK hc i pins s σ H E I hf st hg
    subst hP hw hK
    obtain ⟨hz, hTI, ⟨x0, y0, u0, hTO⟩, h1, h2, h3, neT⟩ := st
    obtain ⟨xs, ys, zs, x, y, u, hqx, hqy, hqz, hx, hy, hu⟩ := hg
    obtain ⟨its, rv, p, _⟩ := I.tuple hqx
    obtain ⟨its2, rv2, p2, _⟩ := I.list hqy
    obtain ⟨its3, rv3, p3, _⟩ := I.list hqz
    obtain ⟨v1, hv1, r1⟩ := rv.get hx
    obtain ⟨v2, hv2, r2⟩ := rv2.get hy
    obtain ⟨v3, hv3, r3⟩ := rv3.get hu
    have hzl : z < s.heap.objs.size := Heap.lt_size hz
    have hT1 : s.heap.IsTuple a its.toArray := p
    have hL2 : s.heap.IsList b its2.toArray := p2.isList
    have hL3 : s.heap.IsList c its3.toArray := p3.isList
    obtain ⟨oa, ea, ca, _⟩ := id hT1
    obtain ⟨ob, eb, cb, _⟩ := id hL2
    obtain ⟨oc, ec, cc, _⟩ := id hL3
    have k1 : ∃ o', s.heap.get? i1 = some o' ∧ o'.cls = .type "tuple_iterator" := let ⟨o, e, c, _⟩ := h1; ⟨o, e, c⟩
    have k2 : ∃ o', s.heap.get? i2 = some o' ∧ o'.cls = .type "list_iterator" := let ⟨o, e, c, _⟩ := h2; ⟨o, e, c⟩
    have k3 : ∃ o', s.heap.get? i3 = some o' ∧ o'.cls = .type "list_iterator" := let ⟨o, e, c, _⟩ := h3; ⟨o, e, c⟩
    have kz : ∃ o', s.heap.get? z = some o' ∧ o'.cls = .type "zip" := ⟨_, hz, rfl⟩
    have kT : ∃ o', s.heap.get? TO = some o' ∧ o'.cls = .type "tuple" := ⟨_, hTO, rfl⟩
    have apA : ∀ q ∈ [z, TO, i1, i2, i3], q ≠ a := fun q hq => by
      have e' : q = z ∨ q = TO ∨ q = i1 ∨ q = i2 ∨ q = i3 := by simpa using hq
      rcases e' with r | r | r | r | r
      · subst r; exact cell_ne kz ea (by rw [ca]; simp)
      · subst r; exact neT
      · subst r; exact cell_ne k1 ea (by rw [ca]; simp)
      · subst r; exact cell_ne k2 ea (by rw [ca]; simp)
      · subst r; exact cell_ne k3 ea (by rw [ca]; simp)
    have apB : ∀ q ∈ [z, TO, i1, i2, i3], q ≠ b := fun q hq => by
      have e' : q = z ∨ q = TO ∨ q = i1 ∨ q = i2 ∨ q = i3 := by simpa using hq
      rcases e' with r | r | r | r | r
      · subst r; exact cell_ne kz eb (by rw [cb]; simp)
      · subst r; exact cell_ne kT eb (by rw [cb]; simp)
      · subst r; exact cell_ne k1 eb (by rw [cb]; simp)
      · subst r; exact cell_ne k2 eb (by rw [cb]; simp)
      · subst r; exact cell_ne k3 eb (by rw [cb]; simp)
    have apC : ∀ q ∈ [z, TO, i1, i2, i3], q ≠ c := fun q hq => by
      have e' : q = z ∨ q = TO ∨ q = i1 ∨ q = i2 ∨ q = i3 := by simpa using hq
      rcases e' with r | r | r | r | r
      · subst r; exact cell_ne kz ec (by rw [cc]; simp)
      · subst r; exact cell_ne kT ec (by rw [cc]; simp)
      · subst r; exact cell_ne k1 ec (by rw [cc]; simp)
      · subst r; exact cell_ne k2 ec (by rw [cc]; simp)
      · subst r; exact cell_ne k3 ec (by rw [cc]; simp)
    have S := sep3 D apA apB apC
    have lt1 : i < its.toArray.size := by rw [List.size_toArray]; exact (List.getElem?_eq_some_iff.mp hv1).1
    have lt2 : i < its2.toArray.size := by rw [List.size_toArray]; exact (List.getElem?_eq_some_iff.mp hv2).1
    have lt3 : i < its3.toArray.size := by rw [List.size_toArray]; exact (List.getElem?_eq_some_iff.mp hv3).1
    have hd := I.ok.hd hc
    refine wpAny_pyNext_zipD3_item S (Draws.tuple (A := X.A.in1) hd i1 a (Ne.symm (apA i1 (by simp))) its.toArray) (Draws.list (A := X.A.in1) hd i2 b (Ne.symm (apB i2 (by simp))) its2.toArray) (Draws.list (A := X.A.in1) hd i3 c (Ne.symm (apC i3 (by simp))) its3.toArray)
      hz hTI hTO ⟨h1, hT1⟩ ⟨h2, hL2⟩ ⟨h3, hL3⟩ lt1 lt2 lt3 fun w1 w2 w3 h' tk q1 q2 q3 hz' hTO' s1 s2 s3 hT hsz hk => ?_
    have e1 : w1 = v1 := by
      have q : its.toArray[i]? = some w1 := q1
      rw [List.getElem?_toArray, hv1] at q
      exact (Option.some.inj q).symm
    have e2 : w2 = v2 := by
      have q : its2.toArray[i]? = some w2 := q2
      rw [List.getElem?_toArray, hv2] at q
      exact (Option.some.inj q).symm
    have e3 : w3 = v3 := by
      have q : its3.toArray[i]? = some w3 := q3
      rw [List.getElem?_toArray, hv3] at q
      exact (Option.some.inj q).symm
    subst e1 e2 e3
    refine ⟨_, rfl, wpAny_letOwnedTupleGo_zip (s := { s with heap := h', toks := tk }) hz' fun h'' hz'' sb => ?_⟩
    have hT2 : h''.get? s.heap.objs.size = some { cls := .type "tuple", data := .seq #[w1, w2, w3] } := (sb.2 _ (Nat.ne_of_gt hzl)).trans hT
    have new : ObjOk X.prog X.w (upd H s.heap.objs.size (.tup [x, y, u])) h'' s.heap.objs.size (.tup [x, y, u]) :=
      ⟨by show 3 ≤ sizeLine; decide, [w1, w2, w3], .cons r1 (.cons r2 (.cons r3 .nil)), ⟨_, hT2, rfl, _, rfl⟩⟩
    have I1 : Inv X pins σ (upd H s.heap.objs.size (.tup [x, y, u])) { s with heap := h'', toks := tk } :=
      I.turnedNew (t' := tk) (ch := [z, TI, TO, i1, i2, i3]) (fun c o hb q => (sb.2 c (fun q' => hb (by simp [q']))).trans (hk c o (fun q' => hb (by simp [q'])) (fun q' => hb (by simp [q'])) (fun q' => hb (by simp [q'])) (fun q' => hb (by simp [q'])) (fun q' => hb (by simp [q'])) q)) hf (Nat.le_refl _) new
    refine ⟨.ref s.heap.objs.size, _, I1, rfl, ⟨_, x, y, u, rfl, I.hok.fresh (Nat.le_refl _), rfl, fun l hl => by rw [I.tuple_inj hl hqx]; exact hx, fun l hl => by rw [I.list_inj hl hqy]; exact hy, fun l hl => by rw [I.list_inj hl hqz]; exact hu⟩, ⟨hz'', ?_, ⟨w1, w2, w3, ?_⟩, ?_, ?_, ?_, neT⟩, fun q hqm => ?_⟩
    · exact (sb.2 _ D.TIz).trans (hk _ _ D.TIz D.TITO D.TI1 D.TI2 D.TI3 hTI)
    · exact (sb.2 _ D.TOz).trans hTO'
    · exact s1.1.at fun o q => (sb.2 _ (Ne.symm D.z1)).trans q
    · exact s2.1.at fun o q => (sb.2 _ (Ne.symm D.z2)).trans q
    · exact s3.1.at fun o q => (sb.2 _ (Ne.symm D.z3)).trans q
    · have hlt : q < s.heap.objs.size := by
        have e' : q = z ∨ q = TI ∨ q = TO ∨ q = i1 ∨ q = i2 ∨ q = i3 := by simpa using hqm
        rcases e' with r | r | r | r | r | r
        · rw [r]; exact hzl
        · rw [r]; exact Heap.lt_size hTI
        · rw [r]; exact Heap.lt_size hTO
        · rw [r]; obtain ⟨_, e1, _⟩ := h1; exact Heap.lt_size e1
        · rw [r]; obtain ⟨_, e2, _⟩ := h2; exact Heap.lt_size e2
        · rw [r]; obtain ⟨_, e3, _⟩ := h3; exact Heap.lt_size e3
      rw [upd_ne (Nat.ne_of_lt hlt)]
      exact (hf q hqm).1
  done := by
    intro X hP hw hK hc i pins s σ H E I hf st hg
    subst hP hw hK
    obtain ⟨hz, hTI, ⟨x0, y0, u0, hTO⟩, h1, h2, h3, neT⟩ := st
    obtain ⟨xs, ys, zs, hqx, hqy, hqz, l1, l2, l3⟩ := hg
    obtain ⟨its, rv, p, _⟩ := I.tuple hqx
    obtain ⟨its2, rv2, p2, _⟩ := I.list hqy
    obtain ⟨its3, rv3, p3, _⟩ := I.list hqz
    have hT1 : s.heap.IsTuple a its.toArray := p
    have hL2 : s.heap.IsList b its2.toArray := p2.isList
    have hL3 : s.heap.IsList c its3.toArray := p3.isList
    obtain ⟨oa, ea, ca, _⟩ := id hT1
    obtain ⟨ob, eb, cb, _⟩ := id hL2
    obtain ⟨oc, ec, cc, _⟩ := id hL3
    have k1 : ∃ o', s.heap.get? i1 = some o' ∧ o'.cls = .type "tuple_iterator" := let ⟨o, e, c, _⟩ := h1; ⟨o, e, c⟩
    have k2 : ∃ o', s.heap.get? i2 = some o' ∧ o'.cls = .type "list_iterator" := let ⟨o, e, c, _⟩ := h2; ⟨o, e, c⟩
    have k3 : ∃ o', s.heap.get? i3 = some o' ∧ o'.cls = .type "list_iterator" := let ⟨o, e, c, _⟩ := h3; ⟨o, e, c⟩
    have kz : ∃ o', s.heap.get? z = some o' ∧ o'.cls = .type "zip" := ⟨_, hz, rfl⟩
    have kT : ∃ o', s.heap.get? TO = some o' ∧ o'.cls = .type "tuple" := ⟨_, hTO, rfl⟩
    have apA : ∀ q ∈ [z, TO, i1, i2, i3], q ≠ a := fun q hq => by
      have e' : q = z ∨ q = TO ∨ q = i1 ∨ q = i2 ∨ q = i3 := by simpa using hq
      rcases e' with r | r | r | r | r
      · subst r; exact cell_ne kz ea (by rw [ca]; simp)
      · subst r; exact neT
      · subst r; exact cell_ne k1 ea (by rw [ca]; simp)
      · subst r; exact cell_ne k2 ea (by rw [ca]; simp)
      · subst r; exact cell_ne k3 ea (by rw [ca]; simp)
    have apB : ∀ q ∈ [z, TO, i1, i2, i3], q ≠ b := fun q hq => by
      have e' : q = z ∨ q = TO ∨ q = i1 ∨ q = i2 ∨ q = i3 := by simpa using hq
      rcases e' with r | r | r | r | r
      · subst r; exact cell_ne kz eb (by rw [cb]; simp)
      · subst r; exact cell_ne kT eb (by rw [cb]; simp)
      · subst r; exact cell_ne k1 eb (by rw [cb]; simp)
      · subst r; exact cell_ne k2 eb (by rw [cb]; simp)
      · subst r; exact cell_ne k3 eb (by rw [cb]; simp)
    have apC : ∀ q ∈ [z, TO, i1, i2, i3], q ≠ c := fun q hq => by
      have e' : q = z ∨ q = TO ∨ q = i1 ∨ q = i2 ∨ q = i3 := by simpa using hq
      rcases e' with r | r | r | r | r
      · subst r; exact cell_ne kz ec (by rw [cc]; simp)
      · subst r; exact cell_ne kT ec (by rw [cc]; simp)
      · subst r; exact cell_ne k1 ec (by rw [cc]; simp)
      · subst r; exact cell_ne k2 ec (by rw [cc]; simp)
      · subst r; exact cell_ne k3 ec (by rw [cc]; simp)
    have S := sep3 D apA apB apC
    have n1 : its.toArray.size = i := by rw [List.size_toArray, ← rv.length]; exact l1
    have n2 : its2.toArray.size = i := by rw [List.size_toArray, ← rv2.length]; exact l2
    have n3 : its3.toArray.size = i := by rw [List.size_toArray, ← rv3.length]; exact l3
    have hd := I.ok.hd hc
    exact wpAny_pyNext_zipD3_end S (Draws.tuple (A := X.A.in1) hd i1 a (Ne.symm (apA i1 (by simp))) its.toArray) (Draws.list (A := X.A.in1) hd i2 b (Ne.symm (apB i2 (by simp))) its2.toArray) (Draws.list (A := X.A.in1) hd i3 c (Ne.symm (apC i3 (by simp))) its3.toArray)
      hz hTI hTO ⟨h1, hT1⟩ ⟨h2, hL2⟩ ⟨h3, hL3⟩ (by omega) (by omega) (by omega) (by omega) fun h' tk hk => ⟨rfl, I.turnedL (t' := tk) (ch := [z, TI, TO, i1, i2, i3]) (fun c o hb q =>
      hk c o (fun q' => hb (by simp [q'])) (fun q' => hb (by simp [q'])) (fun q' => hb (by simp [q'])) (fun q' => hb (by simp [q'])) (fun q' => hb (by simp [q'])) q) hf⟩
  self := fun A i s Q E st h => wpAny_pyIter_zip st.1 h
def iZip3 (K : PySem.W.Frag) (ta : TA) : TI := fun σ H R => ta σ H fun vs H1 => ∃ a b c xs ys zs, vs = [.ref a, .ref b, .ref c] ∧ SqT K H1 a xs ∧ SqL K H1 b ys ∧ SqL K H1 c zs ∧ R (ItZ3 K a b c) H1
theorem pi_zip3 {X : Cx} {e e2 e3 : Expr} {ta : TA} {p pos tpos : Pos} {elts : List Expr} {kk : Nat} (hg : Gl X "zip") (hm : X.mg "zip" = none) (ha : PA X [e, e2, e3] ta)
    (hs : starEach [e, e2, e3] X.env = (false, eval e X.env) :: starEach [e2, e3] X.env := by rfl) (hpl : (backTo pos (starEach [e2, e3] X.env)).any (·.1) = false := by rfl) :
    PI X (.Tuple elts kk tpos) (.Call (.Name "zip" p) [e, e2, e3] [] pos) (iZip3 X.K ta) := by
  refine ⟨fun pins s σ H R I h => ?_⟩
  refine Call_ (ld_blt I hg hm PyProof.Rows.boot_zip (PyProof.Rows.callWith_type1 (thn (ha.run pos pins s σ H _ I h) fun us s1 ⟨vs, H1, I1, r1, q1⟩ => ?_) hs hpl))
  obtain ⟨a, b, c, xs, ys, zs, ex, hqx, hqy, hqz, q⟩ := q1
  subst ex
  cases r1 with
  | cons r rr =>
  cases rr with
  | cons r' rr =>
  cases rr with
  | cons r'' rr =>
    cases rr
    cases r
    cases r'
    cases r''
    obtain ⟨its, rv, p1, _⟩ := I1.tuple hqx
    obtain ⟨its2, rv2, p2, _⟩ := I1.list hqy
    obtain ⟨its3, rv3, p3, _⟩ := I1.list hqz
    have hT1 : s1.heap.IsTuple a its.toArray := p1
    obtain ⟨oa, ea, _⟩ := id hT1
    have hal : a < s1.heap.objs.size := Heap.lt_size ea
    refine zip_begins3 (begins_tuple a its.toArray) (begins_list b its2.toArray) (begins_list c its3.toArray) hT1 p2.isList p3.isList fun h' hz hTI hTO g1 g2 g3 hsz hk => wpAny_pyIter_zip hz ?_
    have I2 : Inv X pins σ H1 { s1 with heap := h' } := I1.kept (t' := s1.toks) hk
    refine ⟨s1.heap.objs.size + 5, [s1.heap.objs.size + 5, s1.heap.objs.size + 3, s1.heap.objs.size + 4, s1.heap.objs.size, s1.heap.objs.size + 1, s1.heap.objs.size + 2], _, _, H1, rfl, I2, turn_zip3 (ap3_of _), ⟨hz, hTI, ⟨_, _, _, hTO⟩, ⟨_, g1, rfl, rfl⟩, ⟨_, g2, rfl, rfl⟩, ⟨_, g3, rfl, rfl⟩, to_ne hal⟩, fun q hqm => ?_, q⟩
    · have hle : s1.heap.objs.size ≤ q := by
        have e' : q = s1.heap.objs.size + 5 ∨ q = s1.heap.objs.size + 3 ∨ q = s1.heap.objs.size + 4 ∨ q = s1.heap.objs.size ∨ q = s1.heap.objs.size + 1 ∨ q = s1.heap.objs.size + 2 := by simpa using hqm
        exact le_of6 e'
      exact I1.fpOk hle (I1.hok.fresh hle)
theorem for_zip3 {K : PySem.W.Frag} {a b c : Addr} {xs ys zs : List V} {g : TG} {tb : TS} {D : Ends} {σ : L2.St} {H : Hp} (hl : xs.length = ys.length) (hl2 : xs.length = zs.length) (Pv : Nat → L2.St → Hp → Prop) (h0 : Pv 0 σ H) (hq : ∀ i σ H, Pv i σ H → SqT K H a xs ∧ SqL K H b ys ∧ SqL K H c zs)
    (hs : ∀ (i : Nat) (x y z : V) (T : Addr) (σ : L2.St) (H : Hp), xs[i]? = some x → ys[i]? = some y → zs[i]? = some z → Pv i σ H → H T = none → g (.ref T) σ (upd H T (.tup [x, y, z])) fun σ2 H2 => tb { D with nx := Pv (i + 1), ct := Pv (i + 1), bk := D.nx } σ2 H2) (hd : ∀ σ H, Pv xs.length σ H → D.nx σ H) :
    ∃ W : Nat → Nat → L2.St → Hp → Prop, (∃ m, W 0 m σ H) ∧ ∀ i m σ H, W i m σ H →
      ((ItZ3 K a b c).stop i H ∧ D.nx σ H) ∨ ((ItZ3 K a b c).go i H ∧ ∃ N : L2.St → Hp → Prop, (∀ σ' H', N σ' H' → ∃ m', m' < m ∧ W (i + 1) m' σ' H') ∧ ∀ v H', (ItZ3 K a b c).yld i H v H' → g v σ H' fun σ2 H2 => tb { D with nx := N, ct := N, bk := D.nx } σ2 H2) := by
  refine ⟨fun i m σ H => m = xs.length - i ∧ i ≤ xs.length ∧ Pv i σ H, ⟨xs.length, rfl, Nat.zero_le _, h0⟩, ?_⟩
  rintro i m σ H ⟨rfl, hi, p⟩
  obtain ⟨qx, qy, qz⟩ := hq i σ H p
  by_cases hlt : i < xs.length
  · have hx : xs[i]? = some xs[i] := List.getElem?_eq_getElem hlt
    have hy : ys[i]? = some (ys[i]'(by omega)) := List.getElem?_eq_getElem (by omega)
    have hz : zs[i]? = some (zs[i]'(by omega)) := List.getElem?_eq_getElem (by omega)
    refine .inr ⟨⟨xs, ys, zs, _, _, _, qx, qy, qz, hx, hy, hz⟩, Pv (i + 1), fun σ' H' p' => ⟨xs.length - (i + 1), by omega, rfl, hlt, p'⟩, fun v H' y => ?_⟩
    obtain ⟨T, x', y', z', rfl, hT, rfl, f1, f2, f3⟩ := y
    exact hs i x' y' z' T σ H (f1 xs qx) (f2 ys qy) (f3 zs qz) p hT
  · have e : i = xs.length := by omega
    subst e
    exact .inl ⟨⟨xs, ys, zs, qx, qy, qz, rfl, hl.symm, hl2.symm⟩, hd σ H p⟩
end SR

set_option Elab.async false
set_option linter.all false
set_option maxRecDepth 100000
set_option maxHeartbeats 4000000
/-! Short words: a def that stands under its name (Dn), a built-in called, entries and summaries in the heap. -/
namespace SR
open PySem PySem.Spec PyProof.Rows L2
theorem pr_at {A B : Type} {F : A → B → Prop} : ∀ {l : List A} {m : List B} {i : Nat} {b : B}, Paired F l m → m[i]? = some b → ∃ a, l[i]? = some a ∧ F a b
  | _, _, _, _, .nil, e => by simp at e
  | _, _, 0, _, .cons r _, e => by simp at e; subst e; exact ⟨_, rfl, r⟩
  | _, _, i + 1, b, .cons _ t, e => by
    obtain ⟨u, h1, h2⟩ := pr_at (i := i) (b := b) t (by simpa using e)
    exact ⟨u, by simpa using h1, h2⟩
theorem pr_at' {A B : Type} {F : A → B → Prop} : ∀ {l : List A} {m : List B} {i : Nat} {a : A}, Paired F l m → l[i]? = some a → ∃ b, m[i]? = some b ∧ F a b
  | _, _, _, _, .nil, e => by simp at e
  | _, _, 0, _, .cons r _, e => by simp at e; subst e; exact ⟨_, rfl, r⟩
  | _, _, i + 1, a, .cons _ t, e => by
    obtain ⟨u, h1, h2⟩ := pr_at' (i := i) (a := a) t (by simpa using e)
    exact ⟨u, by simpa using h1, h2⟩
theorem pr_app {A B : Type} {F : A → B → Prop} : ∀ {l l2 : List A} {m m2 : List B}, Paired F l m → Paired F l2 m2 → Paired F (l ++ l2) (m ++ m2)
  | _, _, _, _, .nil, s => s
  | _, _, _, _, .cons r t, s => .cons r (pr_app t s)
theorem pr_drop {A B : Type} {F : A → B → Prop} : ∀ {l : List A} {m : List B} (n : Nat), Paired F l m → Paired F (l.drop n) (m.drop n)
  | _, _, 0, h => h
  | _, _, _ + 1, .nil => .nil
  | _, _, n + 1, .cons _ t => pr_drop n t
theorem pr_set {A B : Type} {F : A → B → Prop} {a : A} {b : B} (h : F a b) : ∀ {l : List A} {m : List B} (i : Nat), Paired F l m → Paired F (l.set i a) (m.set i b)
  | _, _, _, .nil => .nil
  | _, _, 0, .cons _ t => .cons h t
  | _, _, i + 1, .cons r t => .cons r (pr_set h i t)
theorem pr_out {A B : Type} {F : A → B → Prop} : ∀ {l : List A} {m : List B} (i : Nat), Paired F l m → Paired F (l.eraseIdx i) (m.eraseIdx i)
  | _, _, _, .nil => .nil
  | _, _, 0, .cons _ t => t
  | _, _, i + 1, .cons r t => .cons r (pr_out i t)
theorem pr_map {A B C : Type} {F : A → C → Prop} {G : B → C → Prop} {f : A → B} (h : ∀ a c, F a c → G (f a) c) : ∀ {l : List A} {m : List C}, Paired F l m → Paired G (l.map f) m
  | _, _, .nil => .nil
  | _, _, .cons r t => .cons (h _ _ r) (pr_map h t)
theorem tyes_of {σ : L2.St} {H : Hp} {Q : Bool → Hp → Prop} (h : Q true H) : tYes σ H Q := h
/-! ### defs by their names -/
section
variable {P : Program} {w : World} {K : PySem.W.Frag} {mg : Str → Option Value} {base : Heap}
/-- the name x holds a def that keeps sp, with no default values, and no error leaves it -/
def Dn (P : Program) (w : World) (K : PySem.W.Frag) (mg : Str → Option Value) (base : Heap) (x : Str) (ps : List Str) (k : Nat) (sp : Sp) : Prop :=
  ∃ f fd, FnOk P w K mg base CX0 k f fd ps sp ∧ mg x = some (.ref f) ∧ PySem.W.keepIn K (.ref f) = true ∧ Binds K fd ps []
/-- a def of the text under its name -/
structure Fd (K : PySem.W.Frag) (mg : Str → Option Value) (x qual : Str) (st : Stmt) (ps : List Str) (f : Addr) (fd : FuncData) : Prop where
  F : Fun K x qual st f fd
  g : mg x = some (.ref f)
  b : Binds K fd ps []
theorem Fd.dn {x qual : Str} {st : Stmt} {ps : List Str} {f : Addr} {fd : FuncData} {k : Nat} {sp : Sp} (d : Fd K mg x qual st ps f fd) (G : FnOk P w K mg base CX0 k f fd ps sp) : Dn P w K mg base x ps k sp := ⟨f, fd, G, d.g, d.F.kp, d.b⟩
end
section
variable {X : Cx}
theorem pe_dn {x : Str} {ps : List Str} {k : Nat} {sp : Sp} {e : Expr} {es : List Expr} {t : TA} {p pos : Pos} (D : Dn X.prog X.w X.K X.mg X.base x ps k sp) (hr : Room k X.A) (ha : PA X (e :: es) t) (hg : Gl X x := by rfl)
    (hdb : (x == ("__debug__" : Str)) = false := by decide) (he : starEach (e :: es) X.env = (false, eval e X.env) :: starEach es X.env := by rfl) (hpl : (backTo pos (starEach es X.env)).any (·.1) = false := by rfl) :
    PE X (.Call (.Name x p) (e :: es) [] pos) (tCall sp [] E0 t) := by
  obtain ⟨f, fd, F, hm, hk, hb⟩ := D
  exact pe_call F hr hg hm hk hb .nil pass0 ha hdb he hpl
theorem pe_gi {x : Str} {i : Int} {t : Tok} {pos : Pos} (hm : X.mg x = some (.int i t)) (hg : Gl X x := by rfl) (hd : (x == ("__debug__" : Str)) = false := by decide) : PE X (.Name x pos) (tC (.int i)) := pe_glob hg hm ⟨_, rfl⟩ hd
end
/-! ### entries -/
def EntV (H : Hp) (v : V) (e : Ent) : Prop := ∃ t, v = .ref t ∧ H t = some (.tup [.int e.1, .int e.2.1, .int e.2.2])
def EntsV (H : Hp) (vs : List V) (es : List Ent) : Prop := Paired (EntV H) vs es
theorem EntV.mono {H H' : Hp} (s : Same H H') {v : V} {e : Ent} (h : EntV H v e) : EntV H' v e := let ⟨t, a, b⟩ := h; ⟨t, a, s _ _ b⟩
theorem EntsV.mono {H H' : Hp} (s : Same H H') {vs : List V} {es : List Ent} (h : EntsV H vs es) : EntsV H' vs es := Paired.mapP h fun _ _ x => x.mono s
theorem EntsV.len {H : Hp} {vs : List V} {es : List Ent} (h : EntsV H vs es) : vs.length = es.length := Paired.length h
/-- a tuple of entries -/
def TupV (H : Hp) (v : V) (es : List Ent) : Prop := ∃ a vs, v = .ref a ∧ H a = some (.tup vs) ∧ EntsV H vs es
theorem TupV.mono {H H' : Hp} (s : Same H H') {v : V} {es : List Ent} (h : TupV H v es) : TupV H' v es := let ⟨a, vs, e, b, c⟩ := h; ⟨a, vs, e, s _ _ b, c.mono s⟩
def sfl (n : Int) (v : V) : List (Str × V) := putF "_entries" v (putF "_many" (.int n) [])
theorem sne : ¬ (("_many" : Str) = "_entries") := by decide +kernel
theorem sfl_many (n : Int) (v : V) : (sfl n v).lookup ("_many" : Str) = some (.int n) := by
  unfold sfl
  rw [lookup_putF, if_neg sne, lookup_putF, if_pos rfl]
theorem sfl_entries (n : Int) (v : V) : (sfl n v).lookup ("_entries" : Str) = some v := by
  unfold sfl
  rw [lookup_putF, if_pos rfl]
/-- a Summary of n and es at v -/
def SumV (C : Addr) (H : Hp) (v : V) (n : Int) (es : List Ent) : Prop := ∃ p dx u, v = .ref p ∧ H p = some (.ins C dx (sfl n u)) ∧ TupV H u es
theorem SumV.mono {C : Addr} {H H' : Hp} (s : Same H H') {v : V} {n : Int} {es : List Ent} (h : SumV C H v n es) : SumV C H' v n es := let ⟨p, dx, u, e, b, c⟩ := h; ⟨p, dx, u, e, s _ _ b, c.mono s⟩
/-! ### data -/
def entD (e : Ent) : PyData := .tuple [.int e.1, .int e.2.1, .int e.2.2]
theorem EntV.dp {K : PySem.W.Frag} {H : Hp} {v : V} {e : Ent} (h : EntV H v e) : Dp K H v (entD e) := by
  obtain ⟨t, rfl, ht⟩ := h
  exact .tup (SqT.of ht) (.cons (.int _) (.cons (.int _) (.cons (.int _) .nil)))
theorem EntsV.dp {K : PySem.W.Frag} {H : Hp} : ∀ {vs : List V} {es : List Ent}, EntsV H vs es → DpAll K H vs (es.map entD)
  | _, _, .nil => .nil
  | _, _, .cons r t => .cons r.dp (EntsV.dp t)
theorem TupV.dp {K : PySem.W.Frag} {H : Hp} {v : V} {es : List Ent} (h : TupV H v es) : Dp K H v (.tuple (es.map entD)) := by
  obtain ⟨a, vs, rfl, ha, he⟩ := h
  exact .tup (SqT.of ha) he.dp
/-- flat rows of ints, tuples of such: they can be compared, and == is = -/
theorem shaped_tup {k : Nat} : ∀ {ds : List PyData}, (∀ d ∈ ds, d.canLay0 = true ∧ d.depth ≤ k) → (PyData.tuple ds).canLay0 = true ∧ (PyData.tuple ds).depth ≤ k + 1
  | [], _ => ⟨rfl, by show 0 + 1 ≤ k + 1; omega⟩
  | d :: ds, h => by
    have h1 := h d (List.mem_cons_self ..)
    have h2 := shaped_tup (ds := ds) fun x hx => h x (List.mem_cons_of_mem _ hx)
    have a : PyData.canLayAll0 (d :: ds) = true := by
      show (d.canLay0 && PyData.canLayAll0 ds) = true
      rw [h1.1]
      exact h2.1
    refine ⟨a, ?_⟩
    have b : PyData.depthAll ds + 1 ≤ k + 1 := h2.2
    show max d.depth (PyData.depthAll ds) + 1 ≤ k + 1
    omega
theorem ent_lay (e : Ent) : (entD e).canLay0 = true ∧ (entD e).depth ≤ 1 := ⟨rfl, by show max 0 (max 0 (max 0 0)) + 1 ≤ 1; decide⟩
theorem shaped_of {d : PyData} (h : d.canLay0 = true ∧ d.depth ≤ 64) : SeqAt.shaped d = true := by
  unfold SeqAt.shaped
  rw [h.1, decide_eq_true h.2]
  rfl
theorem ents_lay (es : List Ent) : (PyData.tuple (es.map entD)).canLay0 = true ∧ (PyData.tuple (es.map entD)).depth ≤ 2 := shaped_tup fun d hd => by
  obtain ⟨e, _, rfl⟩ := List.mem_map.mp hd
  exact ent_lay e
theorem shaped_ents (es : List Ent) : SeqAt.shaped (.tuple (es.map entD)) = true := shaped_of ⟨(ents_lay es).1, Nat.le_trans (ents_lay es).2 (by decide)⟩
theorem shaped_ent (e : Ent) : SeqAt.shaped (entD e) = true := shaped_of ⟨(ent_lay e).1, Nat.le_trans (ent_lay e).2 (by decide)⟩
theorem eqv_int (i j : Int) : PyData.eqv (.int i) (.int j) = decide (i = j) := by
  show (i == j) = decide (i = j)
  by_cases h : i = j
  · subst h; simp
  · rw [decide_eq_false h]; exact beq_eq_false_iff_ne.mpr h
theorem eqv_ent (e f : Ent) : PyData.eqv (entD e) (entD f) = decide (e = f) := by
  obtain ⟨a, b, c⟩ := e
  obtain ⟨a', b', c'⟩ := f
  show (PyData.eqv (.int a) (.int a') && (PyData.eqv (.int b) (.int b') && (PyData.eqv (.int c) (.int c') && true))) = _
  rw [eqv_int, eqv_int, eqv_int, Bool.and_true, ← Bool.decide_and, ← Bool.decide_and]
  exact decide_eq_decide.mpr ⟨fun ⟨x, y, z⟩ => by rw [x, y, z], fun h => by injection h with h1 h2; injection h2 with h2 h3; exact ⟨h1, h2, h3⟩⟩
theorem eqvAll_ents : ∀ es fs : List Ent, PyData.eqvAll (es.map entD) (fs.map entD) = decide (es = fs)
  | [], [] => rfl
  | [], _ :: _ => rfl
  | _ :: _, [] => rfl
  | e :: es, f :: fs => by
    show (PyData.eqv (entD e) (entD f) && PyData.eqvAll (es.map entD) (fs.map entD)) = _
    rw [eqv_ent, eqvAll_ents es fs, ← Bool.decide_and]
    exact decide_eq_decide.mpr ⟨fun ⟨x, y⟩ => by rw [x, y], fun h => by injection h with h1 h2; exact ⟨h1, h2⟩⟩
theorem eqv_ents (es fs : List Ent) : PyData.eqv (.tuple (es.map entD)) (.tuple (fs.map entD)) = decide (es = fs) := eqvAll_ents es fs
end SR

set_option Elab.async false
set_option linter.all false
set_option maxRecDepth 100000
set_option maxHeartbeats 4000000
/-! Words that no law's text is needed for. -/
namespace SR
open PySem PySem.Spec PyProof.Rows L2
def rTupOf (K : PySem.W.Frag) : List V → Hp → VK → Prop := fun xs H Q => ∃ p ys, xs = [.ref p] ∧ ((SqL K H p ys ∧ ∀ l, H l = none → Q (.ref l) (upd H l (.tup ys))) ∨ (SqT K H p ys ∧ Q (.ref p) H))
theorem call_tupK {X : Cx} : CallR X (.type "tuple") (rTupOf X.K) := call_tuple_of
def rListOf (K : PySem.W.Frag) : List V → Hp → VK → Prop := fun xs H Q => ∃ p ys, xs = [.ref p] ∧ (SqL K H p ys ∨ SqT K H p ys) ∧ ∀ l, H l = none → Q (.ref l) (upd H l (.lst ys))
theorem call_listK {X : Cx} : CallR X (.type "list") (rListOf X.K) := call_list_of
mutual
theorem dp_mono {K : PySem.W.Frag} {H H' : Hp} (s : Same H H') : ∀ {v : V} {d : PyData}, Dp K H v d → Dp K H' v d
  | _, _, .non => .non
  | _, _, .bl b => .bl b
  | _, _, .int i => .int i
  | _, _, .str x => .str x
  | _, _, .lst h a => .lst (s.seq h) (dpAll_mono s a)
  | _, _, .tup h a => .tup (by
      rcases h with (h | ⟨o, h⟩) | h
      · exact .inl (.inl (s _ _ h))
      · exact .inl (.inr ⟨o, s _ _ h⟩)
      · exact .inr h) (dpAll_mono s a)
theorem dpAll_mono {K : PySem.W.Frag} {H H' : Hp} (s : Same H H') : ∀ {vs : List V} {ds : List PyData}, DpAll K H vs ds → DpAll K H' vs ds
  | _, _, .nil => .nil
  | _, _, .cons h t => .cons (dp_mono s h) (dpAll_mono s t)
end
theorem dpAll_app {K : PySem.W.Frag} {H : Hp} : ∀ {vs ws : List V} {ds es : List PyData}, DpAll K H vs ds → DpAll K H ws es → DpAll K H (vs ++ ws) (ds ++ es)
  | _, _, _, _, .nil, h => h
  | _, _, _, _, .cons a t, h => .cons a (dpAll_app t h)
theorem shaped_lst {ds : List PyData} (h : ∀ d ∈ ds, d.canLay0 = true ∧ d.depth ≤ 60) : SeqAt.shaped (.list ds) = true := shaped_of ⟨(shaped_tup h).1, Nat.le_trans (shaped_tup h).2 (by decide)⟩
theorem eqv_nilL (ds : List PyData) : PyData.eqv (.list ds) (.list []) = ds.isEmpty := by
  cases ds with
  | nil => rfl
  | cons d r => rfl
theorem rat_get {row : List Int} {r : Int} (h1 : 1 ≤ r) (h2 : r ≤ row.length) : (row.map V.int)[(r - 1).toNat]? = some (.int (rat row r)) := by
  unfold rat
  rw [List.getElem?_map, List.getD_eq_getElem?_getD, List.getElem?_eq_getElem (show (r - 1).toNat < row.length by omega)]
  rfl
def WayV (H : Hp) (v : V) (w : List Int) : Prop := ∃ t, v = .ref t ∧ H t = some (.tup (w.map V.int))
theorem dpInts {K : PySem.W.Frag} {H : Hp} : ∀ w : List Int, DpAll K H (w.map V.int) (w.map PyData.int)
  | [] => .nil
  | i :: w => .cons (.int i) (dpInts w)
theorem shaped_intsL (w : List Int) : SeqAt.shaped (.list (w.map PyData.int)) = true := shaped_lst fun d hd => by
  obtain ⟨i, _, rfl⟩ := List.mem_map.mp hd
  exact ⟨rfl, Nat.zero_le _⟩
theorem two_ways {b : Bool} {ta tb : TE} {σ : L2.St} {H : Hp} {Q : VK} (R : V → Hp → Prop) (h1 : b = true → ∀ Q' : VK, (∀ v H', R v H' → Q' v H') → ta σ H Q') (h2 : b = false → ∀ Q' : VK, (∀ v H', R v H' → Q' v H') → tb σ H Q') (hq : ∀ v H', R v H' → Q v H') :
    if b = true then ta σ H Q else tb σ H Q := by
  cases b with
  | true => exact iteT (h1 rfl Q hq)
  | false => exact iteF (h2 rfl Q hq)
def WaysV (H : Hp) (vs : List V) (ws : List (List Int)) : Prop := Paired (WayV H) vs ws
theorem WaysV.mono {H H' : Hp} (s : Same H H') {vs : List V} {ws : List (List Int)} (h : WaysV H vs ws) : WaysV H' vs ws := Paired.mapP h fun _ _ ⟨t, a, b⟩ => ⟨t, a, s _ _ b⟩
theorem WaysV.len {H : Hp} {vs : List V} {ws : List (List Int)} (h : WaysV H vs ws) : vs.length = ws.length := Paired.length h
theorem shaped_ints (w : List Int) : SeqAt.shaped (.tuple (w.map PyData.int)) = true := by
  have h := shaped_tup (k := 60) (ds := w.map PyData.int) fun d hd => by
    obtain ⟨i, _, rfl⟩ := List.mem_map.mp hd
    exact ⟨rfl, Nat.zero_le _⟩
  exact shaped_of ⟨h.1, Nat.le_trans h.2 (by decide)⟩
theorem eqv_nilT (ds : List PyData) : PyData.eqv (.tuple ds) (.tuple []) = ds.isEmpty := by
  cases ds with
  | nil => rfl
  | cons d r => rfl
theorem atI_lastD {w : List Int} (h : w ≠ []) : atI (w.map V.int) (-1) = some (.int (w.getLastD 0)) := by
  have e : w = w.dropLast ++ [w.getLastD 0] := by
    rw [List.getLastD_eq_getLast?, List.getLast?_eq_some_getLast h]
    exact (List.dropLast_concat_getLast h).symm
  rw [e, List.map_append]
  have := atI_last (w.dropLast.map V.int) (.int (w.getLastD 0))
  rw [List.getLastD_eq_getLast?, List.getLast?_eq_some_getLast h] at this ⊢
  simp only [List.map_append, List.map_cons, List.map_nil, Option.getD_some] at this ⊢
  rw [List.getLastD_eq_getLast?]
  simpa using this
theorem last_in {row : List Int} (h : row ≠ []) : row.getLastD 0 ∈ row := by
  rw [List.getLastD_eq_getLast?, List.getLast?_eq_some_getLast h]
  exact List.getLast_mem h
/-! ### small words for the law -/
theorem int_take {l : List Int} {i : Nat} {z : Int} (h : l[i]? = some z) : (l.take i).map V.int ++ [.int z] = (l.take (i + 1)).map V.int := by
  rw [List.take_add_one, h, List.map_append]
  rfl
theorem map_int_at {l : List Int} {i : Nat} {z : V} (h : (l.map V.int)[i]? = some z) : ∃ x, l[i]? = some x ∧ z = .int x := by
  rw [List.getElem?_map] at h
  cases e : l[i]? with
  | none => rw [e] at h; cases h
  | some x => rw [e] at h; exact ⟨x, rfl, (Option.some.inj h).symm⟩

def wayD (w : List Int) : PyData := .tuple (w.map PyData.int)
theorem WaysV.dp {K : PySem.W.Frag} {H : Hp} : ∀ {vs : List V} {ws : List (List Int)}, WaysV H vs ws → DpAll K H vs (ws.map wayD)
  | _, _, .nil => .nil
  | _, _, .cons ⟨t, e, h⟩ r => by
    subst e
    exact .cons (.tup (SqT.of h) (dpInts _)) (WaysV.dp r)
theorem shaped_ways (ws : List (List Int)) : SeqAt.shaped (.list (ws.map wayD)) = true := shaped_lst fun d hd => by
  obtain ⟨w, _, rfl⟩ := List.mem_map.mp hd
  have h := shaped_tup (k := 0) (ds := w.map PyData.int) fun d hd => by
    obtain ⟨i, _, rfl⟩ := List.mem_map.mp hd
    exact ⟨rfl, Nat.zero_le _⟩
  exact ⟨h.1, Nat.le_trans h.2 (by decide)⟩
theorem sorted_eq : ∀ {l m : List Int}, l.Perm m → l.Pairwise (· ≤ ·) → m.Pairwise (· ≤ ·) → l = m
  | [], m, p, _, _ => p.nil_eq
  | x :: l, [], p, _, _ => by have := p.length_eq; simp at this
  | x :: l, y :: m, p, a, b => by
    have e : x = y := by
      rw [List.pairwise_cons] at a b
      have hy : y ∈ x :: l := p.mem_iff.mpr (List.mem_cons_self ..)
      have hx : x ∈ y :: m := p.mem_iff.mp (List.mem_cons_self ..)
      have h1 : x ≤ y := by
        rcases List.mem_cons.mp hy with h | h
        · rw [h]; exact Int.le_refl _
        · exact a.1 y h
      have h2 : y ≤ x := by
        rcases List.mem_cons.mp hx with h | h
        · rw [h]; exact Int.le_refl _
        · exact b.1 x h
      omega
    subst e
    rw [List.pairwise_cons] at a b
    rw [sorted_eq p.cons_inv a.2 b.2]
theorem eqv_self_ints : ∀ w : List Int, PyData.eqvAll (w.map PyData.int) (w.map PyData.int) = true
  | [] => rfl
  | i :: w => by
    show (PyData.eqv (.int i) (.int i) && PyData.eqvAll (w.map PyData.int) (w.map PyData.int)) = true
    rw [eqv_int, decide_eq_true rfl, eqv_self_ints w]
    rfl
/-- None or an int -/
def OI (x : V) : Prop := x = .non ∨ ∃ i, x = .int i
theorem OI.dp {x : V} (h : OI x) : ∃ d, (∀ (K : PySem.W.Frag) (H : Hp), Dp K H x d) ∧ d.canLay0 = true ∧ d.depth ≤ 60 ∧ PyData.eqv d d = true := by
  rcases h with rfl | ⟨i, rfl⟩
  · exact ⟨_, fun _ _ => .non, rfl, Nat.zero_le _, rfl⟩
  · exact ⟨.int i, fun _ _ => .int i, rfl, Nat.zero_le _, by rw [eqv_int, decide_eq_true rfl]⟩
/-- two pairs of the same are equal -/
theorem eq_pair {K : PySem.W.Frag} {H : Hp} {p q : Addr} {x y : V} (hx : OI x) (hy : OI y) (hp : H p = some (.tup [x, y])) (hq : H q = some (.tup [x, y])) : ∃ d e, Dp K H (.ref p) d ∧ Dp K H (.ref q) e ∧ SeqAt.shaped d = true ∧ SeqAt.shaped e = true ∧ PyData.eqv d e = true := by
  obtain ⟨d1, a1, b1, c1, e1⟩ := hx.dp
  obtain ⟨d2, a2, b2, c2, e2⟩ := hy.dp
  have sh : SeqAt.shaped (.tuple [d1, d2]) = true := by
    have h := shaped_tup (k := 60) (ds := [d1, d2]) fun d hd => by
      have : d = d1 ∨ d = d2 := by simpa using hd
      rcases this with rfl | rfl
      · exact ⟨b1, c1⟩
      · exact ⟨b2, c2⟩
    exact shaped_of ⟨h.1, Nat.le_trans h.2 (by decide)⟩
  refine ⟨.tuple [d1, d2], .tuple [d1, d2], .tup (SqT.of hp) (.cons (a1 _ _) (.cons (a2 _ _) .nil)), .tup (SqT.of hq) (.cons (a1 _ _) (.cons (a2 _ _) .nil)), sh, sh, ?_⟩
  show (PyData.eqv d1 d1 && (PyData.eqv d2 d2 && true)) = true
  rw [e1, e2]; rfl
theorem cut_from {xs : List V} {t : Nat} (h : t ≤ xs.length) : cutV xs (some (t : Int)) none = xs.drop t := by
  unfold cutV
  rw [show HT.sIx xs.length 0 (some (t : Int)) = min t xs.length from HT.sIx_nat xs.length 0 t, HT.sIx_none, Nat.min_eq_left h]
  exact List.take_of_length_le (by rw [List.length_drop]; exact Nat.le_refl _)
theorem cut_to {xs : List V} {t : Nat} (h : t ≤ xs.length) : cutV xs none (some (t : Int)) = xs.take t := by
  unfold cutV
  rw [show HT.sIx xs.length xs.length (some (t : Int)) = min t xs.length from HT.sIx_nat xs.length xs.length t, HT.sIx_none, Nat.min_eq_left h]
  rfl
section
variable {K : PySem.W.Frag} {H : Hp} {Q : VK}
theorem sl_from {tr : Addr} {row : List Int} {t : Nat} (hr : H tr = some (.tup (row.map V.int))) (ht : t ≤ row.length) (k : ∀ v H', Same H H' → WayV H' v (row.drop t) → Q v H') : rSlA K (.ref tr) (some (t : Int)) none H Q := by
  have htl : t ≤ (row.map V.int).length := by rw [List.length_map]; exact ht
  refine ⟨tr, _, rfl, SqT.of hr, fun ⟨h1, _⟩ => ?_, fun _ p np => ?_⟩
  · rw [show HT.sIx (row.map V.int).length 0 (some (t : Int)) = min t (row.map V.int).length from HT.sIx_nat _ 0 t, Nat.min_eq_left htl] at h1
    refine k _ _ (Same.refl _) ⟨tr, rfl, ?_⟩
    rw [h1, List.drop_zero]; exact hr
  · refine k _ _ (Same_new np) ⟨p, rfl, ?_⟩
    rw [upd_same, cut_from htl, List.map_drop]
theorem sl_to {tr : Addr} {row : List Int} {t : Nat} (hr : H tr = some (.tup (row.map V.int))) (ht : t ≤ row.length) (k : ∀ v H', Same H H' → WayV H' v (row.take t) → Q v H') : rSlA K (.ref tr) none (some (t : Int)) H Q := by
  have htl : t ≤ (row.map V.int).length := by rw [List.length_map]; exact ht
  refine ⟨tr, _, rfl, SqT.of hr, fun ⟨_, h1⟩ => ?_, fun _ p np => ?_⟩
  · rw [show HT.sIx (row.map V.int).length (row.map V.int).length (some (t : Int)) = min t (row.map V.int).length from HT.sIx_nat _ _ t, Nat.min_eq_left htl, List.length_map] at h1
    refine k _ _ (Same.refl _) ⟨tr, rfl, ?_⟩
    rw [h1, List.take_length]; exact hr
  · refine k _ _ (Same_new np) ⟨p, rfl, ?_⟩
    rw [upd_same, cut_to htl, List.map_take]
theorem cat_way {x y : V} {a b : List Int} (hx : WayV H x a) (hy : WayV H y b) (hl : a.length + b.length ≤ 900) (k : ∀ v H', Same H H' → WayV H' v (a ++ b) → Q v H') : rCatA K x y H Q := by
  obtain ⟨p, rfl, hp⟩ := hx
  obtain ⟨q, rfl, hq⟩ := hy
  refine ⟨p, q, _, _, rfl, rfl, SqT.of hp, SqT.of hq, ?_, fun h => ?_, fun _ h => ?_, fun _ _ r nr => ?_⟩
  · rw [List.length_map, List.length_map]
    exact Nat.le_of_lt (small1000 (by omega))
  · have e : a = [] := List.map_eq_nil_iff.mp h
    subst e
    exact k _ _ (Same.refl _) ⟨q, rfl, hq⟩
  · have e : b = [] := List.map_eq_nil_iff.mp h
    subst e
    exact k _ _ (Same.refl _) ⟨p, rfl, by rw [List.append_nil]; exact hp⟩
  · exact k _ _ (Same_new nr) ⟨r, rfl, by rw [upd_same, List.map_append]⟩
end
theorem next_of {D : Ends} {σ : L2.St} {H : Hp} (h : D.nx σ H) : tNext D σ H := h
theorem seq_ifs {c : TT} {t rest : TS} {D : Ends} {σ : L2.St} {H : Hp} (R : Hp → Prop) (hc : ∀ Q : Bool → Hp → Prop, (∀ H1, R H1 → Q false H1) → c σ H Q) (hn : ∀ H1, R H1 → rest D σ H1) : tSeq (tIfS c t tNext) rest D σ H := hc _ fun H1 r => iteF (hn H1 r)
/-- an if statement, its two ways joined behind it -/
theorem seq_ifj {c : TT} {t u rest : TS} {D : Ends} {σ : L2.St} {H : Hp} (R : L2.St → Hp → Prop) (hc : ∀ N : L2.St → Hp → Prop, (∀ σ1 H1, R σ1 H1 → N σ1 H1) → c σ H fun b H1 => if b = true then t { D with nx := N } σ H1 else u { D with nx := N } σ H1) (hn : ∀ σ1 H1, R σ1 H1 → rest D σ1 H1) : tSeq (tIfS c t u) rest D σ H := hc (rest D) hn
theorem asc_at {l : List Int} (h : l.Pairwise (· ≤ ·)) : ∀ (a b : Nat) (x y : Int), a ≤ b → l[a]? = some x → l[b]? = some y → x ≤ y := fun a b x y hab hx hy => by
  obtain ⟨ha, rfl⟩ := List.getElem?_eq_some_iff.mp hx
  obtain ⟨hb, rfl⟩ := List.getElem?_eq_some_iff.mp hy
  by_cases e : a = b
  · subst e; exact Int.le_refl _
  · exact List.pairwise_iff_getElem.mp h a b ha hb (by omega)
theorem range_asc (m : Nat) (c : Int) : ((List.range m).map fun (i : Nat) => c + (i : Int)).Pairwise (· ≤ ·) := by
  rw [List.pairwise_map]
  exact List.pairwise_lt_range.imp fun h => by omega
def IsMin (l : List Int) (m : Int) : Prop := m ∈ l ∧ ∀ x ∈ l, m ≤ x
def IsMax (l : List Int) (m : Int) : Prop := m ∈ l ∧ ∀ x ∈ l, x ≤ m
def FirstAt (l : List Int) (m : Int) (j : Nat) : Prop := l[j]? = some m ∧ ∀ (i : Nat) (z : Int), i < j → l[i]? = some z → z ≠ m
theorem IsMin.uniq {l : List Int} {a b : Int} (h : IsMin l a) (g : IsMin l b) : a = b := Int.le_antisymm (h.2 _ g.1) (g.2 _ h.1)
theorem IsMax.uniq {l : List Int} {a b : Int} (h : IsMax l a) (g : IsMax l b) : a = b := Int.le_antisymm (g.2 _ h.1) (h.2 _ g.1)
/-! ### what the promises tell, held against all rows -/
theorem FirstAt.uniq {l : List Int} {m : Int} {i j : Nat} (h : FirstAt l m i) (g : FirstAt l m j) : i = j := by
  rcases Nat.lt_trichotomy i j with c | c | c
  · exact absurd rfl (g.2 i m c h.1)
  · exact c
  · exact absurd rfl (h.2 j m c g.1)
theorem first_of {m : Int} : ∀ {l : List Int}, m ∈ l → ∃ j, FirstAt l m j
  | x :: l, h => by
    by_cases e : x = m
    · subst e
      exact ⟨0, rfl, fun i z hi => absurd hi (Nat.not_lt_zero i)⟩
    · have h' : m ∈ l := by
        rcases List.mem_cons.mp h with h | h
        · exact absurd h.symm e
        · exact h
      obtain ⟨j, h1, h2⟩ := first_of h'
      refine ⟨j + 1, by simpa using h1, fun i z hi hz => ?_⟩
      cases i with
      | zero =>
        have : x = z := by simpa using hz
        rw [← this]; exact e
      | succ i => exact h2 i z (by omega) (by simpa using hz)
theorem min_of : ∀ {l : List Int}, l ≠ [] → ∃ m, IsMin l m
  | [], h => absurd rfl h
  | [x], _ => ⟨x, by simp, fun y hy => by rw [List.mem_singleton.mp hy]; exact Int.le_refl _⟩
  | x :: y :: l, _ => by
    obtain ⟨m, hm, hl⟩ := min_of (l := y :: l) (by simp)
    by_cases c : m ≤ x
    · refine ⟨m, List.mem_cons_of_mem _ hm, fun z hz => ?_⟩
      rcases List.mem_cons.mp hz with h | h
      · rw [h]; exact c
      · exact hl z h
    · refine ⟨x, List.mem_cons_self .., fun z hz => ?_⟩
      rcases List.mem_cons.mp hz with h | h
      · rw [h]; exact Int.le_refl _
      · have := hl z h; omega
theorem flat_ints (l : List Int) : (l.map V.int).all flatV = true := by
  rw [List.all_map]
  exact List.all_eq_true.mpr fun _ _ => rfl
theorem eqV_int (i j : Int) : eqV (.int i) (.int j) = decide (i = j) := by
  first | rfl | (show (i == j) = decide (i = j); by_cases h : i = j <;> simp [h])
theorem index_of {K : PySem.W.Frag} {H : Hp} {D : Addr} {l : List Int} {m : Int} {j : Nat} {Q : VK} (hD : SqL K H D (l.map V.int)) (f : FirstAt l m j) (q : Q (.int (j : Nat)) H) : rIndex K (.ref D) [.int m] H Q := by
  refine ⟨D, _, .int m, j, .int m, rfl, rfl, hD, rfl, flat_ints l, ?_, ?_, fun i z hi hz => ?_, q⟩
  · rw [List.getElem?_map, f.1]; rfl
  · rw [eqV_int, decide_eq_true rfl]
  · obtain ⟨x, hx, rfl⟩ := map_int_at hz
    rw [eqV_int]
    exact decide_eq_false (f.2 i x hi hx)
theorem sh2 (g R : Int) : SeqAt.shaped (.tuple [.int g, .int R]) = true := shaped_of ⟨rfl, by show max 0 (max 0 0) + 1 ≤ 64; decide⟩
theorem eq2 (g R : Int) : PyData.eqv (.tuple [.int g, .int R]) (.tuple [.int g, .int R]) = true := by
  show (PyData.eqv (.int g) (.int g) && (PyData.eqv (.int R) (.int R) && true)) = true
  rw [eqv_int, eqv_int, decide_eq_true rfl, decide_eq_true rfl]
  rfl
theorem index1 {l : List Int} {m : Int} {j : Nat} (f : FirstAt l m j) : (l.map V.int)[j]? = some (.int m) := by rw [List.getElem?_map, f.1]; rfl
theorem index2 (m : Int) : eqV (.int m) (.int m) = true := by rw [eqV_int, decide_eq_true rfl]
theorem index3 {l : List Int} {m : Int} {j : Nat} (f : FirstAt l m j) : ∀ (i : Nat) (z : V), i < j → (l.map V.int)[i]? = some z → eqV z (.int m) = false := fun i z hi hz => by
  obtain ⟨x, hx, rfl⟩ := map_int_at hz
  rw [eqV_int]
  exact decide_eq_false (f.2 i x hi hx)
theorem st_eq {t : TS} {D : Ends} {σ σ' : L2.St} {H : Hp} (h : σ = σ') (g : t D σ' H) : t D σ H := by rw [h]; exact g
def spLaw (K : PySem.W.Frag) : Sp := fun vs H Q _ => ∃ (a : Addr) (ns : List Int), vs = [.ref a] ∧ SqL K H a (ns.map V.int) ∧ ns.length ≤ 63 ∧ ∀ H', Q (.bl true) H'
theorem blkOk_eq {N : List Str} {sc sc' scope : Scope} {own : List (Str × Nat)} (h : BlkOk N sc' scope own) (e : sc.names = sc'.names) : BlkOk N sc scope own := ⟨h.kind, h.uniq, h.ix, by rw [e]; exact h.free, h.own⟩
def pick (p : Ent → Bool) (f : Ent → Int) (es : List Ent) : List Int := (es.filter p).map f
theorem pick_more {p : Ent → Bool} {f : Ent → Int} {es : List Ent} {i : Nat} {e : Ent} (h : es[i]? = some e) : pick p f (es.take (i + 1)) = pick p f (es.take i) ++ (if p e = true then [f e] else []) := by
  unfold pick
  rw [List.take_add_one, h, List.filter_append, List.map_append]
  by_cases c : p e = true
  · rw [if_pos c]; simp [c]
  · rw [if_neg c]; simp [c]
theorem pick_len {p : Ent → Bool} {f : Ent → Int} {es : List Ent} : (pick p f es).length ≤ es.length := by
  unfold pick
  rw [List.length_map]
  exact List.length_filter_le _ _
section
variable {C : Addr}
/-- a property under its name -/
def Pr (P : Program) (w : World) (K : PySem.W.Frag) (mg : Str → Option Value) (base : Heap) (C : Addr) (f : Str) (k : Nat) (sp : Sp) : Prop := ∃ p g fd, PropOf K C f p g ∧ FnOk P w K mg base CX0 k g fd ["self"] sp ∧ Binds K fd ["self"] []
theorem pe_pr {X : Cx} {f : Str} {k : Nat} {sp : Sp} {e : Expr} {ta : TE} {pos : Pos} (D : Pr X.prog X.w X.K X.mg X.base C f k sp) (c : Cls X.K C) (hr : Room (k + 1) X.A) (he : PE X e ta) (hab : attributeBase e f X.env (eval e X.env) = eval e X.env := by rfl) : PE X (.Attribute e f pos) (tProp C sp [] E0 ta) := by
  obtain ⟨p, g, fd, hp, F, b⟩ := D
  exact pe_prop he c hp F hr b .nil pass0 hab
end
end SR

set_option Elab.async false
set_option linter.all false
set_option maxRecDepth 100000
set_option maxHeartbeats 4000000
/-! Own error classes without fields, whose __init__ takes nothing but self and does nothing: made by X(). -/
namespace SR
open PySem PySem.W PySem.Calls PyProof.Rows PySem.HandSPX
def nzA (p1 : Pos) : Arguments := { posonlyargs := [], args := [{ arg := "self", annotation := none, pos := p1 }], vararg := none, kwonlyargs := [], kw_defaults := [], kwarg := none, defaults := [] }
def nzB (q1 : Pos) : List Stmt := [.Pass q1]
def nzS : Scope := { kind := .function, names := [(PySem.Str.ofString "self", .local)], isGenerator := false, isCoroutine := false, more := [] }
/-- what the top says of such a class x, at C, its __init__ at fI -/
structure NzTxt (K : Frag) (mg : Str → Option Value) (x : Str) (C fI : Addr) : Prop where
  gC : mg x = some (.ref C)
  cls : ∃ nm q N bs bm sn sub ab col dd k0 k1 k2 k3 k5, K.lookup C = some (excClassObj nm q C N bs bm true sn sub ab col dd k0 k1 k2 k3 k5 "ValueError.__new__") ∧ refsVE bm = true
  iC : findIn K (.ref C) "__init__" = some (some (.ref fI))
  tC : typeIn K (.ref fI) = some (.type "function")
  kC : keepIn K (.ref C) = true
  exC : subIn K (.ref C) (.type "BaseException") = some true
  tyC : typeIn K (.ref C) = some (.type "type")
  fn : ∃ (oc : Value) (od : Option Addr) (doc pm : Value) (an : Option Addr) (kV cdv ct : Value) (osl : Array (Option Value)) (qn : Str) (p1 q1 : Pos),
    K.lookup fI = some ⟨oc, od, .func (fnOf "__init__" qn (nzA p1) (nzB q1) nzS .none kV doc pm an cdv ct), osl⟩ ∧ codeIn K cdv qn = true
theorem nz_size : ([] : List Value).length ≤ sizeLine := by
  rw [sizeLine_eq]
  exact (by decide : 0 ≤ 16777216)
section
variable {prog : Program} {w : World} {A : Around} {E : Value → Shared → Prop} {R : Result → Shared → Prop} {s : Shared} {K : Frag} {mg : Str → Option Value} {x : Str} {C fI : Addr}
theorem nz_init (T : NzTxt K mg x C fI) {a : Addr} (X : K.In s.heap) (hlim : s.heap.NoLimit) (hroom : A.depth < recursionLimit)
    (hq : ∀ h' tk, (∀ b o, s.heap.get? b = some o → h'.get? b = some o) → R (.ok (.ret .none)) { s with heap := h', toks := tk }) :
    codeAny (model prog w) A (.call (.ref fI) ⟨[.ref a], []⟩) R s := by
  obtain ⟨oc, od, doc, pm, an, kV, cdv, ct, osl, qn, p1, q1, ho, hcd⟩ := T.fn
  refine Att.call_fn (binds := [("self", .ref a)]) X hlim ho hcd hroom (BindsTo.of_eq (by first | rfl | with_unfolding_all rfl)) (by first | rfl | decide | with_unfolding_all rfl) (fun s₁ IC => ?_) rfl rfl rfl
  obtain ⟨h₁, tk₁, rfl⟩ := IC.toInCall.same
  have k : ∀ b o, s.heap.get? b = some o → h₁.get? b = some o := IC.toInCall.keep
  show wpAny _ _ (execs _ _) _ _ _
  refine wpAny_execs_cons ?_
  refine wpAny_Pass ?_
  show wpAny _ _ (execs _ _) _ _ _
  exact wpAny_execs_nil (hq h₁ tk₁ k)
theorem nz_made (T : NzTxt K mg x C fI) (X : K.In s.heap) (hlim : s.heap.NoLimit) (hroom : A.depth + 1 < recursionLimit)
    (hq : ∀ h' tk e, s.heap.objs.size ≤ e → s.heap.MadeExcOf h' e (.ref C) [] → R (.ok (.ret (.ref e))) { s with heap := h', toks := tk }) :
    codeAny (model prog w) A (.call (.ref C) ⟨[], []⟩) R s := by
  obtain ⟨nm, q, N, bs, bm, sn, sub, ab, col, dd, k0, k1, k2, k3, k5, hC, hbm⟩ := T.cls
  obtain ⟨hp, g, dr, tk, os⟩ := s
  have k : ∀ b o, hp.get? b = some o → ((hp.push (kdv_tup [])).push (excO C hp.objs.size)).get? b = some o := fun b o e => Heap.get?_push_of_some _ (Heap.get?_push_of_some _ e)
  have hget : ((hp.push (kdv_tup [])).push (excO C hp.objs.size)).get? (hp.objs.size + 1) = some (excO C hp.objs.size) := by heap_get
  have hget0 : ((hp.push (kdv_tup [])).push (excO C hp.objs.size)).get? hp.objs.size = some (kdv_tup []) := by heap_get
  have hnx : ∀ z, hp.objs.size ≤ z → hp.get? z = none := fun z hz => by
    cases e : hp.get? z with
    | none => rfl
    | some o => exact absurd (Heap.lt_size e) (Nat.not_lt.mpr hz)
  refine call_own F.excBase_ValueError (fun X => refsVE_contains X bm hbm) (X _ _ hC) (looks_findIn X T.iC) (fun self => bind_fn X self T.tC) nz_size ?_
  refine nz_init (s := ⟨(hp.push (kdv_tup [])).push (excO C hp.objs.size), g, dr, tk, os⟩) T (X.keeps k) (hlim.keeps k) ?_ fun h' tk' k' => ?_
  · show A.depth + 1 < recursionLimit
    exact hroom
  · exact ⟨rfl, hq h' tk' (hp.objs.size + 1) (Nat.le_succ _) ⟨fun b o e => k' b o (k b o e), hnx _ (Nat.le_succ _), hp.objs.size, k' _ _ hget, hnx _ (Nat.le_refl _), k' _ _ hget0⟩⟩
end
end SR
namespace SR
open PySem PySem.Spec PyProof.Rows L2
section
variable {X : Cx} {x : Str} {C fI : Addr}
theorem pmk_nz {p pos : Pos} {k : Nat} (T : NzTxt X.K X.mg x C fI) (hr : Room k X.A) (hk : 1 ≤ k) (hg : Gl X x) (hdb : (x == ("__debug__" : Str)) = false := by decide) :
    PMk X (.Call (.Name x p) [] [] pos) (fun _ H Q => Q (.ref C) none H) := by
  intro pins s σ H Q I q
  refine wpAny_Call_Name_kw (ld_glob I hg T.gC ?_ hdb)
  refine PySem.W.callWith_K0 I.kIn T.kC ?_
  refine wpAny_call (nz_made T I.kIn I.nolimit (by have := hr.dp; omega) fun h' tk' e he M => ?_)
  exact mk_of (s := ⟨s.heap, s.gens, s.drawn, tk', s.os⟩) (I.tok tk') ⟨M.keeps, M.new, M.there⟩ (raises_own T.exC T.tyC) q (I.hok.fresh he)
end
section
variable {P : Program} {w : World} {K : PySem.W.Frag} {mg : Str → Option Value} {base : Heap} {C N M fI : Addr}
/-- as Dn, but errors may leave it -/
def DnX (P : Program) (w : World) (K : PySem.W.Frag) (mg : Str → Option Value) (base : Heap) (x : Str) (ps : List Str) (k : Nat) (sp : Sp) : Prop :=
  ∃ f fd, FnOk P w K mg base (L2.CX P w) k f fd ps sp ∧ mg x = some (.ref f) ∧ PySem.W.keepIn K (.ref f) = true ∧ Binds K fd ps []
theorem Fd.dnx {x qual : Str} {st : Stmt} {ps : List Str} {f : Addr} {fd : FuncData} {k : Nat} {sp : Sp} (d : Fd K mg x qual st ps f fd) (G : FnOk P w K mg base (L2.CX P w) k f fd ps sp) : DnX P w K mg base x ps k sp := ⟨f, fd, G, d.g, d.F.kp, d.b⟩
/-- called where no error may leave -/
theorem pe_dn0 {X : Cx} {x : Str} {ps : List Str} {k : Nat} {sp : Sp} {e : Expr} {es : List Expr} {t : TA} {p pos : Pos} (D : DnX X.prog X.w X.K X.mg X.base x ps k sp) (hr : Room k X.A) (ha : PA X (e :: es) t) (hg : Gl X x := by rfl)
    (hdb : (x == ("__debug__" : Str)) = false := by decide) (he : starEach (e :: es) X.env = (false, eval e X.env) :: starEach es X.env := by rfl) (hpl : (backTo pos (starEach es X.env)).any (·.1) = false := by rfl) :
    PE X (.Call (.Name x p) (e :: es) [] pos) (tCall sp [] E0 t) := by
  obtain ⟨f, fd, F, hm, hk, hb⟩ := D
  exact pe_call F hr hg hm hk hb .nil passL ha hdb he hpl
/-- called where errors are passed on -/
theorem pe_dnX {X : Cx} {W : WX} {x : Str} {ps : List Str} {k : Nat} {sp : Sp} {e : Expr} {es : List Expr} {t : TA} {p pos : Pos} (D : DnX X.prog X.w X.K X.mg X.base x ps k sp) (hr : Room k X.A) (tk : Takes X W) (ha : PA X (e :: es) t) (hg : Gl X x := by rfl)
    (hdb : (x == ("__debug__" : Str)) = false := by decide) (he : starEach (e :: es) X.env = (false, eval e X.env) :: starEach es X.env := by rfl) (hpl : (backTo pos (starEach es X.env)).any (·.1) = false := by rfl) :
    PE X (.Call (.Name x p) (e :: es) [] pos) (tCallS sp (WE W) t) := by
  obtain ⟨f, fd, F, hm, hk, hb⟩ := D
  exact pe_callS F hr hg hm hk hb (fun σ => passAt tk σ) ha hdb he hpl
end
end SR

set_option Elab.async false
set_option linter.all false
set_option maxRecDepth 100000
set_option maxHeartbeats 4000000
/-! max(xs, default=d), min(xs, default=d) over a list of ints. -/
namespace SR
open PySem PySem.W PySem.Calls PyProof.Rows
theorem upd_get {h : Heap} {a b : Addr} {f : Obj → Obj} {o : Obj} (hne : b ≠ a) (e : h.get? b = some o) : (h.update a f).get? b = some o := by rw [Heap.get?_update_other h f (Ne.symm hne)]; exact e
section
variable {prog : Program} {w : World} {A : Around} {R : Result → Shared → Prop} {I S : Addr} {fp wr : List Addr} {n : Nat} {P : Nat → Value → Prop} {St : Nat → Heap → Prop} {bt : Nat → Nat → Bool} {kw : List (Str × Value)}
theorem mx_loop (W : Walks prog w A.in1 I fp wr n P St) (hcmp : CmpOf prog w A.in1 CmpOp.Gt P bt) (hSf : S ∉ fp) : ∀ (k j : Nat) (s : Shared) (vb : Value) (c : Nat), n - (j + 1) = k → j + 1 ≤ n → St (j + 1) s.heap → P (argBest bt j) vb →
    s.heap.get? S = some { cls := .type "list", data := .seq #[vb, vb] c } →
    (∀ v h' tk, P (argBest bt (n - 1)) v → (∀ b o, b ∉ wr → b ≠ S → s.heap.get? b = some o → h'.get? b = some o) → R (.ok (.ret v)) { s with heap := h', toks := tk }) →
    codeAny (model prog w) A (.builtin "max.loop" { pos := [.ref I, .none, .ref S], kw := kw }) R s := by
  have hSw : S ∉ wr := fun h => hSf (W.sub S h)
  have hname : toString "max" ++ toString ".loop" = "max.loop" := by decide
  intro k
  induction k with
  | zero =>
    intro j s vb c hk hj hst hPb hS hR
    have hin : j + 1 = n := by omega
    refine codeAny_builtin F.entry_max_loop ?_
    rw [Around.under_plainId F.plain_max_loop]
    refine wpAny_bind (wpAny_seqItems hS rfl ?_)
    refine wpAny_bind (wpAny_tryCatch (W.done s _ _ (hin ▸ hst) fun h' tk keep => ?_))
    refine wpAny_bind (wpAny_updateSeq (keep S _ hSw hS) rfl ?_)
    refine wpAny_bind (wpAny_letGo ?_)
    refine wpAny_pure (hR vb _ tk ?_ fun b o hb hbS e => ?_)
    · rw [← hin]; exact hPb
    · exact upd_get hbS (keep b o hb e)
  | succ k ih =>
    intro j s vb c hk hj hst hPb hS hR
    have hlt : j + 1 < n := by omega
    refine codeAny_builtin F.entry_max_loop ?_
    rw [Around.under_plainId F.plain_max_loop]
    refine wpAny_bind (wpAny_seqItems hS rfl ?_)
    refine wpAny_bind (wpAny_tryCatch (W.item (j + 1) s _ _ hlt hst fun v h' tk hv hst' keep => ?_))
    refine wpAny_bind (wpAny_pure ?_)
    refine wpAny_bind (wpAny_tryCatch (wpAny_holding (wpAny_bind (hcmp (j + 1) (argBest bt j) v vb _ _ _ hv hPb ?_))))
    refine wpAny_bind (wpAny_holding (wpAny_truthy_bool ?_))
    refine wpAny_bind (wpAny_letGo ?_)
    refine wpAny_pure ?_
    have hS' := keep S _ hSw hS
    have eb : argBest bt (j + 1) = if bt (j + 1) (argBest bt j) = true then j + 1 else argBest bt j := rfl
    by_cases hb : bt (j + 1) (argBest bt j) = true
    · rw [if_pos hb] at eb ⊢
      refine wpAny_bind (wpAny_updateSeq hS' rfl ?_)
      refine wpAny_bind (wpAny_letGo ?_)
      rw [hname]
      refine wpAny_pure ⟨plainId_quiet F.plain_max_loop _, ?_⟩
      refine ih (j + 1) _ v c (by omega) (by omega) ?_ (by rw [eb]; exact hv) ?_ ?_
      · exact W.frame _ _ _ hst' fun b hb2 o e => upd_get (fun z => hSf (by rw [← z]; exact hb2)) e
      · exact Heap.get?_update_self _ hS' rfl
      · intro v2 h2 tk2 hv2 k2
        exact hR v2 h2 tk2 hv2 fun b o hbw hbS e => k2 b o hbw hbS (upd_get hbS (keep b o hbw e))
    · rw [if_neg hb] at eb ⊢
      refine wpAny_bind (wpAny_letGo ?_)
      rw [hname]
      refine wpAny_pure ⟨plainId_quiet F.plain_max_loop _, ?_⟩
      refine ih (j + 1) _ vb c (by omega) (by omega) hst' (by rw [eb]; exact hPb) hS' ?_
      intro v2 h2 tk2 hv2 k2
      exact hR v2 h2 tk2 hv2 fun b o hbw hbS e => k2 b o hbw hbS (keep b o hbw e)
/-- the first item -/
theorem mx_first (W : Walks prog w A.in1 I fp wr n P St) (hcmp : CmpOf prog w A.in1 CmpOp.Gt P bt) (hSf : S ∉ fp) (hn : 0 < n) {s : Shared} {c : Nat} (hst : St 0 s.heap)
    (hS : s.heap.get? S = some { cls := .type "list", data := .seq #[] c })
    (hR : ∀ v h' tk, P (argBest bt (n - 1)) v → (∀ b o, b ∉ wr → b ≠ S → s.heap.get? b = some o → h'.get? b = some o) → R (.ok (.ret v)) { s with heap := h', toks := tk }) :
    codeAny (model prog w) A (.builtin "max.loop" { pos := [.ref I, .none, .ref S], kw := kw }) R s := by
  have hSw : S ∉ wr := fun h => hSf (W.sub S h)
  have hname : toString "max" ++ toString ".loop" = "max.loop" := by decide
  refine codeAny_builtin F.entry_max_loop ?_
  rw [Around.under_plainId F.plain_max_loop]
  refine wpAny_bind (wpAny_seqItems hS rfl ?_)
  refine wpAny_bind (wpAny_tryCatch (W.item 0 s _ _ hn hst fun v h' tk hv hst' keep => ?_))
  refine wpAny_bind (wpAny_pure ?_)
  have hS' := keep S _ hSw hS
  refine wpAny_bind (wpAny_updateSeq hS' rfl ?_)
  rw [hname]
  refine wpAny_pure ⟨plainId_quiet F.plain_max_loop _, ?_⟩
  have hS2 := Heap.get?_update_self (Obj.mapSeq fun _ => #[v, v]) hS' rfl
  refine mx_loop W hcmp hSf _ 0 _ v _ rfl (by omega) ?_ hv hS2 ?_
  · exact W.frame _ _ _ hst' fun b hb2 o e => upd_get (fun z => hSf (by rw [← z]; exact hb2)) e
  · intro v2 h2 tk2 hv2 k2
    exact hR v2 h2 tk2 hv2 fun b o hbw hbS e => k2 b o hbw hbS (upd_get hbS (keep b o hbw e))
/-- no item: the default -/
theorem mx_none (W : Walks prog w A.in1 I fp wr 0 P St) (hSf : S ∉ fp) {s : Shared} {c : Nat} {d : Value} {x : Str} (hst : St 0 s.heap)
    (hS : s.heap.get? S = some { cls := .type "list", data := .seq #[] c })
    (hR : ∀ h' tk, (∀ b o, b ∉ wr → b ≠ S → s.heap.get? b = some o → h'.get? b = some o) → R (.ok (.ret d)) { s with heap := h', toks := tk }) :
    codeAny (model prog w) A (.builtin "max.loop" { pos := [.ref I, .none, .ref S], kw := [(x, d)] }) R s := by
  refine codeAny_builtin F.entry_max_loop ?_
  rw [Around.under_plainId F.plain_max_loop]
  refine wpAny_bind (wpAny_seqItems hS rfl ?_)
  refine wpAny_bind (wpAny_tryCatch (W.done s _ _ hst fun h' tk keep => ?_))
  refine wpAny_bind (wpAny_rule ?_)
  exact wpAny_pure (hR h' tk fun b o hb _ e => keep b o hb e)
end
theorem ints_at : ∀ {its : List Value} {ns : List Int} {i : Nat} {v : Value}, IntsAre its ns → its[i]? = some v → ∃ t, v = .int (ns.getD i 0) t
  | _, _, _, _, .nil, e => by simp at e
  | _, _, 0, _, .cons n t _, e => ⟨t, by simpa using e.symm⟩
  | _, _, i + 1, _, .cons n t h, e => by
    obtain ⟨t', e'⟩ := ints_at (i := i) h (by simpa using e)
    exact ⟨t', by simpa using e'⟩
theorem getD_in {l : List Int} {i : Nat} (h : i < l.length) : l.getD i 0 ∈ l := by
  rw [List.getD_eq_getElem?_getD, List.getElem?_eq_getElem h]
  exact List.getElem_mem _
/-- max(l, default=d) -/
theorem max_dflt {prog : Program} {w : World} {A : Around} {E : Value → Shared → Prop} {s : Shared} {l : Addr} {its : List Value} {ns : List Int} {d : Value} {Q : Value → Shared → Prop} (hh : A.handled = none) (hl : s.heap.IsList l its.toArray) (hi : IntsAre its ns)
    (h0 : ns = [] → ∀ (h' : Heap) (tk : Nat), (∀ b o, s.heap.get? b = some o → h'.get? b = some o) → Q d { s with heap := h', toks := tk })
    (h : ∀ (h' : Heap) (tk : Nat) (m : Int) (t' : Tok), (∀ b o, s.heap.get? b = some o → h'.get? b = some o) → m ∈ ns → (∀ a ∈ ns, a ≤ m) → Q (.int m t') { s with heap := h', toks := tk }) :
    wpAny (model prog w) A (call (.builtin "max") [.ref l] [("default", d)]) Q E s := by
  have hname : toString "max" ++ toString ".loop" = "max.loop" := by decide
  have hlen : its.length = ns.length := hi.length
  obtain ⟨ol, hol, hoc, hod⟩ := id hl
  have hll := Heap.lt_size hol
  refine kmk_tree F.kind_max F.plain_max F.entry_max rfl ?_
  refine wpAny_bind (wpAny_of_eq (show _ = pure [none, some d] from rfl) ?_)
  refine wpAny_bind (wpAny_pure ?_)
  refine wpAny_bind (wpAny_pyIter_list hl ?_)
  refine wpAny_bind (wpAny_newList ?_)
  rw [hname]
  refine wpAny_pure ⟨plainId_quiet F.plain_max_loop _, ?_⟩
  have k1 : ∀ b o, s.heap.get? b = some o → ((s.heap.push { cls := .type "list_iterator", data := .fields #[.ref l, .int 0 0] }).push { cls := .type "list", data := .seq #[] }).get? b = some o := fun b o e => Heap.get?_push_of_some _ (Heap.get?_push_of_some _ e)
  have gI : ((s.heap.push { cls := .type "list_iterator", data := .fields #[.ref l, .int 0 0] }).push { cls := .type "list", data := .seq #[] }).get? s.heap.objs.size = some { cls := .type "list_iterator", data := .fields #[.ref l, .int 0 0] } := by heap_get
  have gS : ((s.heap.push { cls := .type "list_iterator", data := .fields #[.ref l, .int 0 0] }).push { cls := .type "list", data := .seq #[] }).get? (s.heap.push { cls := .type "list_iterator", data := .fields #[.ref l, .int 0 0] }).objs.size = some { cls := .type "list", data := .seq #[] } := by heap_get
  have hS : (s.heap.push { cls := .type "list_iterator", data := .fields #[.ref l, .int 0 0] }).objs.size = s.heap.objs.size + 1 := Heap.size_push ..
  have W := Walks.list (prog := prog) (w := w) (A := A.in1) hh s.heap.objs.size l (Nat.ne_of_lt hll) its.toArray
  have hSf : (s.heap.push { cls := .type "list_iterator", data := .fields #[.ref l, .int 0 0] }).objs.size ∉ [s.heap.objs.size, l] := by
    rw [hS]
    intro hm
    rcases List.mem_cons.mp hm with e | e
    · exact Nat.succ_ne_self _ e
    · have e2 : s.heap.objs.size + 1 = l := List.mem_singleton.mp e
      exact absurd hll (by rw [← e2]; exact Nat.not_lt.mpr (Nat.le_succ _))
  have fresh : ∀ b o, s.heap.get? b = some o → b ∉ [s.heap.objs.size] ∧ b ≠ (s.heap.push { cls := .type "list_iterator", data := .fields #[.ref l, .int 0 0] }).objs.size := fun b o e => by
    have hb : b < s.heap.objs.size := Heap.lt_size e
    rw [hS]
    exact ⟨fun hm => Nat.ne_of_lt hb (List.mem_singleton.mp hm), Nat.ne_of_lt (Nat.lt_succ_of_lt hb)⟩
  have st0 : Heap.IsListIter ((s.heap.push { cls := .type "list_iterator", data := .fields #[.ref l, .int 0 0] }).push { cls := .type "list", data := .seq #[] }) s.heap.objs.size l 0 ∧ Heap.IsList ((s.heap.push { cls := .type "list_iterator", data := .fields #[.ref l, .int 0 0] }).push { cls := .type "list", data := .seq #[] }) l its.toArray := ⟨⟨_, gI, rfl, rfl⟩, ⟨ol, k1 _ _ hol, hoc, hod⟩⟩
  cases ns with
  | nil =>
    have e0 : its = [] := List.length_eq_zero_iff.mp hlen
    subst e0
    refine mx_none W hSf st0 gS fun h' tk keep => ?_
    exact h0 rfl h' tk fun b o e => keep b o (fresh b o e).1 (fresh b o e).2 (k1 b o e)
  | cons z zs =>
    have hsz : its.toArray.size = zs.length + 1 := by rw [List.size_toArray, hlen]; rfl
    refine mx_first W (CmpOf.ints_gt (fun i => (z :: zs).getD i 0) fun i v hv => ints_at hi (by simpa using hv)) hSf (by omega) st0 gS fun v h' tk hv keep => ?_
    obtain ⟨t, rfl⟩ := ints_at hi (i := argBest (fun i j => decide ((z :: zs).getD i 0 > (z :: zs).getD j 0)) (its.toArray.size - 1)) (v := v) (by simpa using hv)
    obtain ⟨a1, a2⟩ := argBest_gt (fun i => (z :: zs).getD i 0) (its.toArray.size - 1)
    refine h h' tk _ t (fun b o e => keep b o (fresh b o e).1 (fresh b o e).2 (k1 b o e)) (getD_in (by rw [List.length_cons]; omega)) fun x hx => ?_
    obtain ⟨i, hi', rfl⟩ := List.mem_iff_getElem.mp hx
    have := a2 i (by rw [List.length_cons] at hi'; omega)
    rw [List.getD_eq_getElem?_getD (i := i), List.getElem?_eq_getElem hi'] at this
    exact this
end SR

set_option Elab.async false
set_option linter.all false
set_option maxRecDepth 100000
set_option maxHeartbeats 4000000
namespace SR
open PySem PySem.W PySem.Calls PyProof.Rows
section
variable {prog : Program} {w : World} {A : Around} {R : Result → Shared → Prop} {I S : Addr} {fp wr : List Addr} {n : Nat} {P : Nat → Value → Prop} {St : Nat → Heap → Prop} {bt : Nat → Nat → Bool} {kw : List (Str × Value)}
theorem mn_loop (W : Walks prog w A.in1 I fp wr n P St) (hcmp : CmpOf prog w A.in1 CmpOp.Lt P bt) (hSf : S ∉ fp) : ∀ (k j : Nat) (s : Shared) (vb : Value) (c : Nat), n - (j + 1) = k → j + 1 ≤ n → St (j + 1) s.heap → P (argBest bt j) vb →
    s.heap.get? S = some { cls := .type "list", data := .seq #[vb, vb] c } →
    (∀ v h' tk, P (argBest bt (n - 1)) v → (∀ b o, b ∉ wr → b ≠ S → s.heap.get? b = some o → h'.get? b = some o) → R (.ok (.ret v)) { s with heap := h', toks := tk }) →
    codeAny (model prog w) A (.builtin "min.loop" { pos := [.ref I, .none, .ref S], kw := kw }) R s := by
  have hSw : S ∉ wr := fun h => hSf (W.sub S h)
  have hname : toString "min" ++ toString ".loop" = "min.loop" := by decide
  intro k
  induction k with
  | zero =>
    intro j s vb c hk hj hst hPb hS hR
    have hin : j + 1 = n := by omega
    refine codeAny_builtin F.entry_min_loop ?_
    rw [Around.under_plainId F.plain_min_loop]
    refine wpAny_bind (wpAny_seqItems hS rfl ?_)
    refine wpAny_bind (wpAny_tryCatch (W.done s _ _ (hin ▸ hst) fun h' tk keep => ?_))
    refine wpAny_bind (wpAny_updateSeq (keep S _ hSw hS) rfl ?_)
    refine wpAny_bind (wpAny_letGo ?_)
    refine wpAny_pure (hR vb _ tk ?_ fun b o hb hbS e => ?_)
    · rw [← hin]; exact hPb
    · exact upd_get hbS (keep b o hb e)
  | succ k ih =>
    intro j s vb c hk hj hst hPb hS hR
    have hlt : j + 1 < n := by omega
    refine codeAny_builtin F.entry_min_loop ?_
    rw [Around.under_plainId F.plain_min_loop]
    refine wpAny_bind (wpAny_seqItems hS rfl ?_)
    refine wpAny_bind (wpAny_tryCatch (W.item (j + 1) s _ _ hlt hst fun v h' tk hv hst' keep => ?_))
    refine wpAny_bind (wpAny_pure ?_)
    refine wpAny_bind (wpAny_tryCatch (wpAny_holding (wpAny_bind (hcmp (j + 1) (argBest bt j) v vb _ _ _ hv hPb ?_))))
    refine wpAny_bind (wpAny_holding (wpAny_truthy_bool ?_))
    refine wpAny_bind (wpAny_letGo ?_)
    refine wpAny_pure ?_
    have hS' := keep S _ hSw hS
    have eb : argBest bt (j + 1) = if bt (j + 1) (argBest bt j) = true then j + 1 else argBest bt j := rfl
    by_cases hb : bt (j + 1) (argBest bt j) = true
    · rw [if_pos hb] at eb ⊢
      refine wpAny_bind (wpAny_updateSeq hS' rfl ?_)
      refine wpAny_bind (wpAny_letGo ?_)
      rw [hname]
      refine wpAny_pure ⟨plainId_quiet F.plain_min_loop _, ?_⟩
      refine ih (j + 1) _ v c (by omega) (by omega) ?_ (by rw [eb]; exact hv) ?_ ?_
      · exact W.frame _ _ _ hst' fun b hb2 o e => upd_get (fun z => hSf (by rw [← z]; exact hb2)) e
      · exact Heap.get?_update_self _ hS' rfl
      · intro v2 h2 tk2 hv2 k2
        exact hR v2 h2 tk2 hv2 fun b o hbw hbS e => k2 b o hbw hbS (upd_get hbS (keep b o hbw e))
    · rw [if_neg hb] at eb ⊢
      refine wpAny_bind (wpAny_letGo ?_)
      rw [hname]
      refine wpAny_pure ⟨plainId_quiet F.plain_min_loop _, ?_⟩
      refine ih (j + 1) _ vb c (by omega) (by omega) hst' (by rw [eb]; exact hPb) hS' ?_
      intro v2 h2 tk2 hv2 k2
      exact hR v2 h2 tk2 hv2 fun b o hbw hbS e => k2 b o hbw hbS (keep b o hbw e)
/-- the first item -/
theorem mn_first (W : Walks prog w A.in1 I fp wr n P St) (hcmp : CmpOf prog w A.in1 CmpOp.Lt P bt) (hSf : S ∉ fp) (hn : 0 < n) {s : Shared} {c : Nat} (hst : St 0 s.heap)
    (hS : s.heap.get? S = some { cls := .type "list", data := .seq #[] c })
    (hR : ∀ v h' tk, P (argBest bt (n - 1)) v → (∀ b o, b ∉ wr → b ≠ S → s.heap.get? b = some o → h'.get? b = some o) → R (.ok (.ret v)) { s with heap := h', toks := tk }) :
    codeAny (model prog w) A (.builtin "min.loop" { pos := [.ref I, .none, .ref S], kw := kw }) R s := by
  have hSw : S ∉ wr := fun h => hSf (W.sub S h)
  have hname : toString "min" ++ toString ".loop" = "min.loop" := by decide
  refine codeAny_builtin F.entry_min_loop ?_
  rw [Around.under_plainId F.plain_min_loop]
  refine wpAny_bind (wpAny_seqItems hS rfl ?_)
  refine wpAny_bind (wpAny_tryCatch (W.item 0 s _ _ hn hst fun v h' tk hv hst' keep => ?_))
  refine wpAny_bind (wpAny_pure ?_)
  have hS' := keep S _ hSw hS
  refine wpAny_bind (wpAny_updateSeq hS' rfl ?_)
  rw [hname]
  refine wpAny_pure ⟨plainId_quiet F.plain_min_loop _, ?_⟩
  have hS2 := Heap.get?_update_self (Obj.mapSeq fun _ => #[v, v]) hS' rfl
  refine mn_loop W hcmp hSf _ 0 _ v _ rfl (by omega) ?_ hv hS2 ?_
  · exact W.frame _ _ _ hst' fun b hb2 o e => upd_get (fun z => hSf (by rw [← z]; exact hb2)) e
  · intro v2 h2 tk2 hv2 k2
    exact hR v2 h2 tk2 hv2 fun b o hbw hbS e => k2 b o hbw hbS (upd_get hbS (keep b o hbw e))
/-- no item: the default -/
theorem mn_none (W : Walks prog w A.in1 I fp wr 0 P St) (hSf : S ∉ fp) {s : Shared} {c : Nat} {d : Value} {x : Str} (hst : St 0 s.heap)
    (hS : s.heap.get? S = some { cls := .type "list", data := .seq #[] c })
    (hR : ∀ h' tk, (∀ b o, b ∉ wr → b ≠ S → s.heap.get? b = some o → h'.get? b = some o) → R (.ok (.ret d)) { s with heap := h', toks := tk }) :
    codeAny (model prog w) A (.builtin "min.loop" { pos := [.ref I, .none, .ref S], kw := [(x, d)] }) R s := by
  refine codeAny_builtin F.entry_min_loop ?_
  rw [Around.under_plainId F.plain_min_loop]
  refine wpAny_bind (wpAny_seqItems hS rfl ?_)
  refine wpAny_bind (wpAny_tryCatch (W.done s _ _ hst fun h' tk keep => ?_))
  refine wpAny_bind (wpAny_rule ?_)
  exact wpAny_pure (hR h' tk fun b o hb _ e => keep b o hb e)
end
/-- min(l, default=d) -/
theorem min_dflt {prog : Program} {w : World} {A : Around} {E : Value → Shared → Prop} {s : Shared} {l : Addr} {its : List Value} {ns : List Int} {d : Value} {Q : Value → Shared → Prop} (hh : A.handled = none) (hl : s.heap.IsList l its.toArray) (hi : IntsAre its ns)
    (h0 : ns = [] → ∀ (h' : Heap) (tk : Nat), (∀ b o, s.heap.get? b = some o → h'.get? b = some o) → Q d { s with heap := h', toks := tk })
    (h : ∀ (h' : Heap) (tk : Nat) (m : Int) (t' : Tok), (∀ b o, s.heap.get? b = some o → h'.get? b = some o) → m ∈ ns → (∀ a ∈ ns, m ≤ a) → Q (.int m t') { s with heap := h', toks := tk }) :
    wpAny (model prog w) A (call (.builtin "min") [.ref l] [("default", d)]) Q E s := by
  have hname : toString "min" ++ toString ".loop" = "min.loop" := by decide
  have hlen : its.length = ns.length := hi.length
  obtain ⟨ol, hol, hoc, hod⟩ := id hl
  have hll := Heap.lt_size hol
  refine kmk_tree F.kind_min F.plain_min F.entry_min rfl ?_
  refine wpAny_bind (wpAny_of_eq (show _ = pure [none, some d] from rfl) ?_)
  refine wpAny_bind (wpAny_pure ?_)
  refine wpAny_bind (wpAny_pyIter_list hl ?_)
  refine wpAny_bind (wpAny_newList ?_)
  rw [hname]
  refine wpAny_pure ⟨plainId_quiet F.plain_min_loop _, ?_⟩
  have k1 : ∀ b o, s.heap.get? b = some o → ((s.heap.push { cls := .type "list_iterator", data := .fields #[.ref l, .int 0 0] }).push { cls := .type "list", data := .seq #[] }).get? b = some o := fun b o e => Heap.get?_push_of_some _ (Heap.get?_push_of_some _ e)
  have gI : ((s.heap.push { cls := .type "list_iterator", data := .fields #[.ref l, .int 0 0] }).push { cls := .type "list", data := .seq #[] }).get? s.heap.objs.size = some { cls := .type "list_iterator", data := .fields #[.ref l, .int 0 0] } := by heap_get
  have gS : ((s.heap.push { cls := .type "list_iterator", data := .fields #[.ref l, .int 0 0] }).push { cls := .type "list", data := .seq #[] }).get? (s.heap.push { cls := .type "list_iterator", data := .fields #[.ref l, .int 0 0] }).objs.size = some { cls := .type "list", data := .seq #[] } := by heap_get
  have hS : (s.heap.push { cls := .type "list_iterator", data := .fields #[.ref l, .int 0 0] }).objs.size = s.heap.objs.size + 1 := Heap.size_push ..
  have W := Walks.list (prog := prog) (w := w) (A := A.in1) hh s.heap.objs.size l (Nat.ne_of_lt hll) its.toArray
  have hSf : (s.heap.push { cls := .type "list_iterator", data := .fields #[.ref l, .int 0 0] }).objs.size ∉ [s.heap.objs.size, l] := by
    rw [hS]
    intro hm
    rcases List.mem_cons.mp hm with e | e
    · exact Nat.succ_ne_self _ e
    · have e2 : s.heap.objs.size + 1 = l := List.mem_singleton.mp e
      exact absurd hll (by rw [← e2]; exact Nat.not_lt.mpr (Nat.le_succ _))
  have fresh : ∀ b o, s.heap.get? b = some o → b ∉ [s.heap.objs.size] ∧ b ≠ (s.heap.push { cls := .type "list_iterator", data := .fields #[.ref l, .int 0 0] }).objs.size := fun b o e => by
    have hb : b < s.heap.objs.size := Heap.lt_size e
    rw [hS]
    exact ⟨fun hm => Nat.ne_of_lt hb (List.mem_singleton.mp hm), Nat.ne_of_lt (Nat.lt_succ_of_lt hb)⟩
  have st0 : Heap.IsListIter ((s.heap.push { cls := .type "list_iterator", data := .fields #[.ref l, .int 0 0] }).push { cls := .type "list", data := .seq #[] }) s.heap.objs.size l 0 ∧ Heap.IsList ((s.heap.push { cls := .type "list_iterator", data := .fields #[.ref l, .int 0 0] }).push { cls := .type "list", data := .seq #[] }) l its.toArray := ⟨⟨_, gI, rfl, rfl⟩, ⟨ol, k1 _ _ hol, hoc, hod⟩⟩
  cases ns with
  | nil =>
    have e0 : its = [] := List.length_eq_zero_iff.mp hlen
    subst e0
    refine mn_none W hSf st0 gS fun h' tk keep => ?_
    exact h0 rfl h' tk fun b o e => keep b o (fresh b o e).1 (fresh b o e).2 (k1 b o e)
  | cons z zs =>
    have hsz : its.toArray.size = zs.length + 1 := by rw [List.size_toArray, hlen]; rfl
    refine mn_first W (CmpOf.ints_lt (fun i => (z :: zs).getD i 0) fun i v hv => ints_at hi (by simpa using hv)) hSf (by omega) st0 gS fun v h' tk hv keep => ?_
    obtain ⟨t, rfl⟩ := ints_at hi (i := argBest (fun i j => decide ((z :: zs).getD i 0 < (z :: zs).getD j 0)) (its.toArray.size - 1)) (v := v) (by simpa using hv)
    obtain ⟨a1, a2⟩ := argBest_lt (fun i => (z :: zs).getD i 0) (its.toArray.size - 1)
    refine h h' tk _ t (fun b o e => keep b o (fresh b o e).1 (fresh b o e).2 (k1 b o e)) (getD_in (by rw [List.length_cons]; omega)) fun x hx => ?_
    obtain ⟨i, hi', rfl⟩ := List.mem_iff_getElem.mp hx
    have := a2 i (by rw [List.length_cons] at hi'; omega)
    rw [List.getD_eq_getElem?_getD (i := i), List.getElem?_eq_getElem hi'] at this
    exact this
end SR
namespace SR
open PySem PySem.Spec PyProof.Rows L2
/-- the greatest, the least number of a list, d if there is none -/
def OptMax (l : List Int) (d x : V) : Prop := (l = [] ∧ x = d) ∨ ∃ m, x = .int m ∧ m ∈ l ∧ ∀ a ∈ l, a ≤ m
def OptMin (l : List Int) (d x : V) : Prop := (l = [] ∧ x = d) ∨ ∃ m, x = .int m ∧ m ∈ l ∧ ∀ a ∈ l, m ≤ a
def rMaxD (K : PySem.W.Frag) : List V → List V → Hp → VK → Prop := fun vs zs H Q => ∃ (a : Addr) (ns : List Int) (d : V), vs = [.ref a] ∧ zs = [d] ∧ SqL K H a (ns.map V.int) ∧ ∀ x, OptMax ns d x → Q x H
def rMinD (K : PySem.W.Frag) : List V → List V → Hp → VK → Prop := fun vs zs H Q => ∃ (a : Addr) (ns : List Int) (d : V), vs = [.ref a] ∧ zs = [d] ∧ SqL K H a (ns.map V.int) ∧ ∀ x, OptMin ns d x → Q x H
theorem cr_maxD {X : Cx} (hc : X.calm = true) : CallRK X (.builtin "max") ["default"] (rMaxD X.K) := by
  intro pins s σ H xs zs us ws Q I r1 r2 h
  obtain ⟨a, ns, d, rfl, rfl, hs, h1⟩ := h
  obtain ⟨its, rv, hl, _⟩ := I.list hs
  rw [Vals.ref1 r1]
  cases r2 with
  | cons rd rn =>
    rename_i d' ws'
    cases rn
    show wpAny _ _ (call (.builtin "max") [.ref a] [("default", d')]) _ _ _
    refine max_dflt (I.ok.hd hc) hl.isList (Vals.ints rv) (fun e h' tk k => ?_) (fun h' tk m t' k hm hle => ?_)
    · exact ⟨d, H, I.kept k, rd, h1 _ (.inl ⟨e, rfl⟩)⟩
    · exact ⟨.int m, H, I.kept k, ⟨t', rfl⟩, h1 _ (.inr ⟨m, rfl, hm, hle⟩)⟩
theorem cr_minD {X : Cx} (hc : X.calm = true) : CallRK X (.builtin "min") ["default"] (rMinD X.K) := by
  intro pins s σ H xs zs us ws Q I r1 r2 h
  obtain ⟨a, ns, d, rfl, rfl, hs, h1⟩ := h
  obtain ⟨its, rv, hl, _⟩ := I.list hs
  rw [Vals.ref1 r1]
  cases r2 with
  | cons rd rn =>
    rename_i d' ws'
    cases rn
    show wpAny _ _ (call (.builtin "min") [.ref a] [("default", d')]) _ _ _
    refine min_dflt (I.ok.hd hc) hl.isList (Vals.ints rv) (fun e h' tk k => ?_) (fun h' tk m t' k hm hle => ?_)
    · exact ⟨d, H, I.kept k, rd, h1 _ (.inl ⟨e, rfl⟩)⟩
    · exact ⟨.int m, H, I.kept k, ⟨t', rfl⟩, h1 _ (.inr ⟨m, rfl, hm, hle⟩)⟩
end SR

set_option Elab.async false
set_option linter.all false
set_option maxRecDepth 100000
set_option maxHeartbeats 4000000
/-! sorted(t), t a tuple of ints. -/
namespace SR
open PySem PySem.W PySem.Calls PyProof.Rows
theorem collect_tup {prog : Program} {w : World} {A : Around} {E : Value → Shared → Prop} {s : Shared} {l : Addr} {vs : List Value} {Q : List Value → Shared → Prop} (hl : IsTup s.heap l vs.toArray) (hz : vs.length ≤ sizeLine)
    (h : Q vs { s with heap := (s.heap.push { cls := .type "list", data := .seq #[] }).update s.heap.objs.size (Obj.mapSeq fun x => x ++ vs.toArray) }) : wpAny (model prog w) A (collect (.ref l)) Q E s := by
  obtain ⟨ol, hol, hoc, nn, hod⟩ := hl
  have gS : (s.heap.push { cls := .type "list", data := .seq #[] }).get? s.heap.objs.size = some { cls := .type "list", data := .seq #[] } := Heap.get?_push_size _ rfl
  have gS2 := Heap.get?_update_self (Obj.mapSeq fun x => x ++ vs.toArray) gS rfl
  have ev : (#[] ++ vs.toArray).toList = vs := by simp
  refine wpAny_bind (wpAny_runValue (codeAny_builtin F.entry_proto_collect ?_))
  rw [Around.under_plainId F.plain_proto_collect]
  refine wpAny_bind (wpAny_newObj_type (wpAny_pure ⟨plainId_quiet F.plain_list_iadd _, codeAny_builtin F.entry_list_iadd ?_⟩))
  rw [Around.under_plainId F.plain_list_iadd]
  refine wpAny_mono (wpAny_extend_seq (R := fun r s' => r = .ok (.ret (.ref s.heap.objs.size)) ∧ s' = { s with heap := (s.heap.push { cls := .type "list", data := .seq #[] }).update s.heap.objs.size (Obj.mapSeq fun x => x ++ vs.toArray) }) s.heap.objs.size l (.ref s.heap.objs.size) 0 (.inr rfl) gS (Heap.get?_push_of_some _ hol) hoc hod ⟨rfl, rfl⟩ (by rw [List.size_toArray]; exact hz)) (fun fin s' hf => ?_) (fun e s' he => by cases he.1)
  cases fin with
  | done f =>
    obtain ⟨e1, rfl⟩ := hf
    cases e1
    refine wpAny_bind (wpAny_load gS2 ?_)
    refine wpAny_pure ?_
    rw [ev]
    exact h
  | again c' =>
    refine ⟨hf.1, codeAny_mono hf.2 fun r s'' hr => ?_⟩
    obtain ⟨rfl, rfl⟩ := hr
    refine wpAny_bind (wpAny_load gS2 ?_)
    refine wpAny_pure ?_
    rw [ev]
    exact h
theorem sorted_tup {prog : Program} {w : World} {A : Around} {E : Value → Shared → Prop} {s : Shared} {l : Addr} {vs : List Value} {ns : List Int} {Q : Value → Shared → Prop} (hl : IsTup s.heap l vs.toArray) (hz : vs.length ≤ sizeLine) (hi : IntsAre vs ns)
    (h : ∀ (h' : Heap) (p : Addr) (out : List Value) (ns' : List Int), (∀ b o, s.heap.get? b = some o → h'.get? b = some o) → s.heap.objs.size ≤ p → (∃ e, h'.get? p = some (seqObj "list" out.toArray e)) → IntsAre out ns' → ns'.Perm ns → ns'.Pairwise (· ≤ ·) → Q (.ref p) { s with heap := h' }) :
    wpAny (model prog w) A (call (.builtin "sorted") [.ref l]) Q E s := by
  refine call_function_entry kind_sorted plain_sorted entry_sorted (args_sorted1 (.ref l)) ?_
  refine wpAny_bind (wpAny_pure ?_)
  refine wpAny_bind (collect_tup hl hz ?_)
  obtain ⟨h1, e1⟩ : ∃ h1, h1 = (s.heap.push { cls := .type "list", data := .seq #[] }).update s.heap.objs.size (Obj.mapSeq fun x => x ++ vs.toArray) := ⟨_, rfl⟩
  have hsz : h1.objs.size = s.heap.objs.size + 1 := by rw [e1, Heap.size_update, Heap.size_push]
  have keep : ∀ b o, s.heap.get? b = some o → h1.get? b = some o := fun b o e => by
    rw [e1]
    exact upd_get (Nat.ne_of_lt (Heap.lt_size e)) (Heap.get?_push_of_some _ e)
  rw [← e1]
  refine wpAny_bind (wpAny_newList ?_ (by simpa using hz))
  have hoL : (h1.push { cls := .type "list", data := .seq (vs.toArray.toList).toArray }).get? h1.objs.size = some (seqObj "list" vs.toArray 0) := Heap.get?_push_size _ rfl
  refine wpAny_bind (wpAny_holding ?_)
  refine wpAny_call_entry slot_list_sort ⟨_, hoL, rfl⟩ entry_list_sort ?_ (args_list_sort _)
  refine SrtO.list_sort_ord SrtO.swo_int hoL hz (fun h2 => SrtO.ints_sortable hi h2) fun out hs hb => ⟨.none, rfl, wpAny_pure ⟨_, rfl, ?_⟩⟩
  obtain ⟨k1, k2, k3⟩ := SrtO.ints_out hi hs hb
  have hle : s.heap.objs.size ≤ h1.objs.size := by rw [hsz]; exact Nat.le_succ _
  refine h _ _ out _ (fun b o e => ?_) hle (sortedHeap_at hoL) k1 k2 k3
  have hb1 := keep b o e
  have hlt := Heap.lt_size hb1
  rw [sortedHeap_old (Nat.ne_of_lt hlt) (by rw [Heap.size_push]; exact Nat.lt_succ_of_lt hlt)]
  exact Heap.get?_push_of_some _ hb1
end SR
namespace SR
open PySem PySem.Spec PyProof.Rows L2
def rSortedT (K : PySem.W.Frag) : List V → Hp → VK → Prop := fun vs H Q => ∃ (a : Addr) (ns : List Int), vs = [.ref a] ∧ SqT K H a (ns.map V.int) ∧ ∀ (ns' : List Int) (p : Addr), ns'.Perm ns → ns'.Pairwise (· ≤ ·) → H p = none → Q (.ref p) (upd H p (.lst (ns'.map V.int)))
theorem cr_sortedT {X : Cx} : CallR X (.builtin "sorted") (rSortedT X.K) := by
  intro pins s σ H xs us Q I r h
  obtain ⟨a, ns, rfl, hs, q⟩ := h
  obtain ⟨its, rv, ht, hz⟩ := I.tuple hs
  rw [Vals.ref1 r]
  refine sorted_tup ht (by rw [← Vals.length rv]; exact hz) (Vals.ints rv) fun h' p out ns' keep hp ⟨e, he⟩ hi perm asc => ?_
  have hlen : (ns'.map V.int).length ≤ sizeLine := by
    rw [List.length_map] at hz ⊢
    rw [perm.length_eq]
    exact hz
  exact ⟨.ref p, upd H p (.lst (ns'.map V.int)), Inv.laid I keep hp ⟨hlen, out, e, vals_of_ints hi, he⟩, rfl, q ns' p perm asc (I.hok.fresh hp)⟩
end SR

set_option Elab.async false
set_option linter.all false
set_option maxRecDepth 100000
set_option maxHeartbeats 4000000
namespace SR
open PySem PySem.Spec PyProof.Rows L2
/-! The law's source of draws: a list of a state, the cells and a place. -/
/-- at p the source, its cells at c -/
def DrawAt (H : Hp) (p c : Addr) : Prop := ∃ (s i : Int) (cs : List Int), H p = some (.lst [.int s, .ref c, .int i]) ∧ H c = some (.lst (cs.map V.int)) ∧ 0 ≤ s ∧ s < 2147483647 ∧ 0 ≤ i ∧ cs.length ≤ 63
theorem DrawAt.ne {H : Hp} {p c : Addr} (d : DrawAt H p c) : p ≠ c := by
  obtain ⟨s, i, cs, h1, h2, _⟩ := d
  refine ne_of h1 h2 fun z => ?_
  have e : ([V.int s, V.ref c, V.int i] : List V) = cs.map V.int := by injection z
  match cs, e with
  | x :: y :: r, e => simp at e
theorem DrawAt.mono {H H' : Hp} (s : Same H H') {p c : Addr} (d : DrawAt H p c) : DrawAt H' p c := let ⟨s', i, cs, h1, h2, r⟩ := d; ⟨s', i, cs, s _ _ h1, s _ _ h2, r⟩
/-- all but the source stands -/
def SameD (p c : Addr) (H H' : Hp) : Prop := ∀ a o, H a = some o → a ≠ p → a ≠ c → H' a = some o
theorem SameD.refl {p c : Addr} (H : Hp) : SameD p c H H := fun _ _ h _ _ => h
theorem SameD.trans {p c : Addr} {H H1 H2 : Hp} (a : SameD p c H H1) (b : SameD p c H1 H2) : SameD p c H H2 := fun x o h h1 h2 => b x o (a x o h h1 h2) h1 h2
theorem sameD_of {p c : Addr} {H H' : Hp} (s : Same H H') : SameD p c H H' := fun a o h _ _ => s a o h
/-- what is no list stands -/
theorem SameD.keep {p c : Addr} {H H' : Hp} (s : SameD p c H H') (d : DrawAt H p c) {a : Addr} {o : HO} (h : H a = some o) (hn : ∀ xs, o ≠ .lst xs) : H' a = some o := by
  obtain ⟨s', i, cs, h1, h2, _⟩ := d
  exact s a o h (ne_of h h1 (hn _)) (ne_of h h2 (hn _))
theorem SameD.ent {p c : Addr} {H H' : Hp} (s : SameD p c H H') (d : DrawAt H p c) {v : V} {e : Ent} (h : EntV H v e) : EntV H' v e := let ⟨t, a, b⟩ := h; ⟨t, a, s.keep d b (fun xs => by intro z; cases z)⟩
theorem SameD.ents {p c : Addr} {H H' : Hp} (s : SameD p c H H') (d : DrawAt H p c) {vs : List V} {es : List Ent} (h : EntsV H vs es) : EntsV H' vs es := Paired.mapP h fun _ _ x => s.ent d x
theorem SameD.tup {p c : Addr} {H H' : Hp} (s : SameD p c H H') (d : DrawAt H p c) {v : V} {es : List Ent} (h : TupV H v es) : TupV H' v es := let ⟨a, vs, e, b, k⟩ := h; ⟨a, vs, e, s.keep d b (fun xs => by intro z; cases z), s.ents d k⟩
theorem SameD.sum {p c : Addr} {H H' : Hp} (s : SameD p c H H') (d : DrawAt H p c) {C : Addr} {v : V} {n : Int} {es : List Ent} (h : SumV C H v n es) : SumV C H' v n es := let ⟨q, dx, u, e, b, k⟩ := h; ⟨q, dx, u, e, s.keep d b (fun xs => by intro z; cases z), s.tup d k⟩
/-- a new thing that the old heap did not know may have changed -/
theorem SameD.mut {p c : Addr} {H H1 : Hp} {q : Addr} {o : HO} (s : SameD p c H H1) (h : H q = none) : SameD p c H (upd H1 q o) := fun b u e h1 h2 => by rw [upd_ne (ne_of_none e h)]; exact s b u e h1 h2
theorem SameD.free {p c : Addr} {H H' : Hp} (s : SameD p c H H') (d : DrawAt H p c) (d' : DrawAt H' p c) {q : Addr} (h : H' q = none) : H q = none := by
  cases e : H q with
  | none => rfl
  | some o =>
    obtain ⟨s', i, cs, h1, h2, _⟩ := d'
    have a1 : q ≠ p := fun z => by subst z; rw [h1] at h; cases h
    have a2 : q ≠ c := fun z => by subst z; rw [h2] at h; cases h
    rw [s q o e a1 a2] at h
    cases h
/-- an item of a written list of three, four, at a drawn place -/
theorem at3 {P : V → Prop} {a b c : V} {r : Int} (h0 : 0 ≤ r) (h1 : r < 3) (pa : P a) (pb : P b) (pc : P c) : ∃ v, atI [a, b, c] r = some v ∧ P v := by
  have h : r = 0 ∨ r = 1 ∨ r = 2 := by omega
  rcases h with rfl | rfl | rfl
  · exact ⟨a, rfl, pa⟩
  · exact ⟨b, rfl, pb⟩
  · exact ⟨c, rfl, pc⟩
theorem at4 {P : V → Prop} {a b c d : V} {r : Int} (h0 : 0 ≤ r) (h1 : r < 4) (pa : P a) (pb : P b) (pc : P c) (pd : P d) : ∃ v, atI [a, b, c, d] r = some v ∧ P v := by
  have h : r = 0 ∨ r = 1 ∨ r = 2 ∨ r = 3 := by omega
  rcases h with rfl | rfl | rfl | rfl
  · exact ⟨a, rfl, pa⟩
  · exact ⟨b, rfl, pb⟩
  · exact ⟨c, rfl, pc⟩
  · exact ⟨d, rfl, pd⟩
/-- a new address is not the source's -/
theorem DrawAt.fresh {H : Hp} {p c z : Addr} (d : DrawAt H p c) (nz : H z = none) : z ≠ p ∧ z ≠ c := by
  obtain ⟨_, _, _, h1, h2, _⟩ := d
  exact ⟨fun e => (nomatch (e ▸ nz).symm.trans h1), fun e => (nomatch (e ▸ nz).symm.trans h2)⟩
/-- what was new when the source stood stays through a draw -/
theorem SameD.at {p c z : Addr} {H H' : Hp} {o : HO} (s : SameD p c H H') (h : H z = some o) (n : z ≠ p ∧ z ≠ c) : H' z = some o := s z o h n.1 n.2
theorem SameD.way {p c : Addr} {H H' : Hp} (s : SameD p c H H') (d : DrawAt H p c) {v : V} {w : List Int} (h : WayV H v w) : WayV H' v w := let ⟨t, a, b⟩ := h; ⟨t, a, s.keep d b (fun xs => by intro z; cases z)⟩
/-- an item of a written list of ints at a drawn place -/
theorem at_ints (l : List Int) {r : Int} (h0 : 0 ≤ r) (h1 : r < l.length) : ∃ b, atI (l.map V.int) r = some (.int b) ∧ b ∈ l := by
  have hl : r.toNat < l.length := by omega
  refine ⟨l[r.toNat], ?_, List.getElem_mem hl⟩
  refine at_of (j := r.toNat) (by omega) ?_
  rw [List.getElem?_map, List.getElem?_eq_getElem hl]
  rfl
theorem nb {b : Int} (h0 : 0 ≤ b) (h : b ≤ 10 ^ 30) : b.natAbs < 2 ^ 200 := Nat.lt_of_le_of_lt (m := 10 ^ 30) (by omega) (by decide)
end SR


set_option maxRecDepth 100000
/-! The text by places. -/
namespace SR
open PySem L2
def topS (i : Nat) : Stmt := PySem.Challenge.pw_shortranks_k12_asked_again.main.body.getD i (.Pass ⟨0, 0, 0, 0⟩)
abbrev s_is_integer : Stmt := topS 2
abbrev s_is_between : Stmt := topS 3
abbrev s_RankError : Stmt := topS 5
abbrev s_RankError_init : Stmt := inClass (topS 5) 0
abbrev s_BadCount : Stmt := topS 6
abbrev s_BadEntries : Stmt := topS 7
abbrev s_BadEntries_init : Stmt := inClass (topS 7) 0
abbrev s_BadSummary : Stmt := topS 8
abbrev s_NoRow : Stmt := topS 9
abbrev s_BadRank : Stmt := topS 10
abbrev s_BadValue : Stmt := topS 11
abbrev s_NoEntry : Stmt := topS 12
abbrev s_BadIndex : Stmt := topS 13
abbrev s_BadError : Stmt := topS 14
abbrev s_Full : Stmt := topS 15
abbrev s_BadRow : Stmt := topS 16
abbrev s_TooLong : Stmt := topS 17
abbrev s_BadRanks : Stmt := topS 18
abbrev s_BadParts : Stmt := topS 19
abbrev s_InvalidText : Stmt := topS 20
abbrev s_InvalidText_init : Stmt := inClass (topS 20) 0
abbrev s_Summary : Stmt := topS 25
abbrev s_Summary_init : Stmt := inClass (topS 25) 0
abbrev s_Summary_many : Stmt := inClass (topS 25) 1
abbrev s_Summary_entries : Stmt := inClass (topS 25) 2
abbrev s_Summary_len : Stmt := inClass (topS 25) 3
abbrev s_Summary_eq : Stmt := inClass (topS 25) 4
abbrev s_tightened : Stmt := topS 26
abbrev s_check_summary : Stmt := topS 27
abbrev s_is_value : Stmt := topS 28
abbrev s_check_value : Stmt := topS 29
abbrev s_surely_tightened : Stmt := topS 30
abbrev s__check_entries : Stmt := topS 31
abbrev s__is_entry : Stmt := topS 32
abbrev s__least_ranks : Stmt := topS 33
abbrev s__greatest_ranks : Stmt := topS 34
abbrev s_values_at : Stmt := topS 36
abbrev s_below : Stmt := topS 37
abbrev s_up_to : Stmt := topS 38
abbrev s_answer : Stmt := topS 39
abbrev s_error_at : Stmt := topS 40
abbrev s_worst : Stmt := topS 41
abbrev s_check_rank : Stmt := topS 42
abbrev s_best_index : Stmt := topS 43
abbrev s__check_value : Stmt := topS 44
abbrev s__with_entries : Stmt := topS 45
abbrev s__many_below : Stmt := topS 46
abbrev s__errors : Stmt := topS 47
abbrev s__peaks : Stmt := topS 48
abbrev s_without : Stmt := topS 50
abbrev s_fewest : Stmt := topS 51
abbrev s_put_in : Stmt := topS 52
abbrev s_joined : Stmt := topS 53
abbrev s_entries_with : Stmt := topS 54
abbrev s__keeps : Stmt := topS 55
abbrev s__check_room : Stmt := topS 56
abbrev s__raised : Stmt := topS 57
abbrev s_Keeper : Stmt := topS 63
abbrev s_Keeper_init : Stmt := inClass (topS 63) 0
abbrev s_Keeper_many : Stmt := inClass (topS 63) 1
abbrev s_Keeper_entries : Stmt := inClass (topS 63) 2
abbrev s_Keeper_see : Stmt := inClass (topS 63) 3
abbrev s_Keeper_answer : Stmt := inClass (topS 63) 4
abbrev s_Keeper_undo : Stmt := inClass (topS 63) 5
abbrev s_Keeper_copy : Stmt := inClass (topS 63) 6
abbrev s_Keeper_len : Stmt := inClass (topS 63) 7
abbrev s__thinned : Stmt := topS 64
abbrev s__first_to_leave_out : Stmt := topS 65
abbrev s_leaves : Stmt := topS 68
abbrev s_row_for : Stmt := topS 69
abbrev s_kept_from : Stmt := topS 70
abbrev s_surely_short : Stmt := topS 71
abbrev s_check_short : Stmt := topS 72
abbrev s_filled : Stmt := topS 73
abbrev s__check_row : Stmt := topS 74
abbrev s__check_ranks : Stmt := topS 75
abbrev s__have_places : Stmt := topS 76
abbrev s_write_summary : Stmt := topS 79
abbrev s_read_summary : Stmt := topS 80
abbrev s__words : Stmt := topS 81
abbrev s__read_count : Stmt := topS 82
abbrev s__read_entry : Stmt := topS 83
abbrev s__number_at : Stmt := topS 84
abbrev s__check_end : Stmt := topS 85
abbrev s__number : Stmt := topS 86
abbrev s__law_mix : Stmt := topS 88
abbrev s__law_next : Stmt := topS 89
abbrev s__law_small : Stmt := topS 90
abbrev s__law_great : Stmt := topS 91
abbrev s__law_tight : Stmt := topS 92
abbrev s__law_answers : Stmt := topS 93
abbrev s_law : Stmt := topS 94
end SR

set_option Elab.async false
set_option linter.all false
set_option maxRecDepth 100000
set_option maxHeartbeats 4000000
/-! sorted(xs, key=lambda x: ..): the lambda's call at the machine's level, the rule over the layer. -/
namespace SR
open PySem PySem.W PySem.Calls PyProof.Rows
section
variable {prog : Program} {w : World} {A : Around} {s : Shared}
/-- a lambda of one parameter called: its body in a new frame -/
theorem lam_call1 {R : Result → Shared → Prop} {f c' : Addr} {qual x : Str} {params : Arguments} {scope : Scope} {body : Expr} {pm ctv v : Value} (ho : s.heap.get? f = some (kla_obj "<lambda>" qual params body scope [] pm c' ctv)) (hcd : s.heap.CodeRec (.ref c') qual)
    (hlim : s.heap.NoLimit) (hroom : A.depth < recursionLimit) (hbind : bindArgs (kla_fn "<lambda>" qual params body scope [] pm (.ref c') ctv) ⟨[v], []⟩ = pure [(x, v)]) (hloc : scope.names.lookup x = some .local)
    (hco : scope.isCoroutine = false) (hgen : scope.isGenerator = false) (hk : scope.kind = .function) (hcell : ∀ y ∈ scope.names, y.2 ≠ .cell)
    (h : ∀ L h₁, (∀ b o, s.heap.get? b = some o → h₁.get? b = some o) → h₁.Ns L (fun y => [(x, v)].reverse.lookup y) →
      wpAny (model prog w) (A.deeper (envX qual scope L f (.ref c') [])) (eval body (envX qual scope L f (.ref c') [])) (fun u s' => R (.ok (.ret u)) s') (fun _ _ => False) { s with heap := h₁, toks := s.toks + 1 }) :
    codeAny (model prog w) A (.call (.ref f) ⟨[v], []⟩) R s := by
  refine kla_callFunE hroom ho rfl hco hgen rfl hcd ?_
  rw [hbind]
  refine wpAny_pure (wpAny_newFunctionEnv hcell (fun y hy => by rw [List.mem_singleton.mp hy]; exact hloc) (fun h₁ hns hsb => ⟨hlim.fresh _ hsb, ?_⟩) hk)
  show codeAny _ _ (.expr body (envX qual scope s.heap.objs.size f (.ref c') [])) _ _
  have hk₁ : ∀ b o, s.heap.get? b = some o → h₁.get? b = some o := fun b o e => hsb.extBut b o (Nat.ne_of_lt (Heap.lt_size e)) (Heap.get?_push_of_some _ e)
  exact kla_codeExpr (wpAny_mono (h _ h₁ hk₁ hns) (fun v s' hl => hl) fun e s' hF => hF.elim)
end

/-- x[i], x the lambda's own name, a tuple -/
theorem body_ix {prog : Program} {w : World} {A : Around} {s : Shared} {E : Value → Shared → Prop} {Q : Value → Shared → Prop} {qual x : Str} {scope : Scope} {L f c' t : Addr} {items : Array Value} {i : Int} {j : Nat} {u : Value} {p1 p2 pos : Pos} {kk : Nat}
    (hk : scope.kind = .function) (hl : scope.names.lookup x = some .local) (hd : (x == ("__debug__" : Str)) = false) (hn : s.heap.Ns L (fun y => [(x, Value.ref t)].reverse.lookup y)) (ht : IsTup s.heap t items) (hlo : -(2 ^ 63) ≤ i) (hhi : i < 2 ^ 63)
    (hj : seqIndex? i items.size = some j) (hu : items[j]? = some u) (q : Q u { s with toks := s.toks + 1 }) :
    wpAny (model prog w) A (eval (.Subscript (.Name x p1) (.Constant (.int i) kk p2) pos) (envX qual scope L f (.ref c') [])) Q E s := by
  refine Subscript_ (wpAny_Name (wpAny_loadName_local (m := fun y => [(x, Value.ref t)].reverse.lookup y) (v := .ref t) hk hl hn ?_ (wpAny_Constant_int ?_)) hd)
  · show List.lookup x [(x, Value.ref t)] = some (.ref t)
    simp [List.lookup]
  · exact subscriptTail_builtinR (x := u) (s := { s with toks := s.toks + 1 }) ht.typeIs slot_tuple_getitem.lookup (getItem_tuple (j := j) (Q := fun r s' => r = u ∧ Q r s') ht hlo hhi hj hu ⟨rfl, q⟩) (by with_unfolding_all rfl)

end SR
namespace SR
open PySem PySem.Spec PyProof.Rows L2
/-- the items by their keys, stably -/
def sortedBy {β : Type} (le : β → β → Bool) (l : List (V × β)) : List V := (l.mergeSort fun a b => le a.2 b.2).map (·.1)
/-- what a lambda's body tells of an item: its key; it reads tuples alone -/
def KeyB {β : Type} (X : Cx) (x : Str) (scope : Scope) (body : Expr) (R : Hp → V → β → Prop) (kd : β → PyData) : Prop :=
  ∀ (A : Around) (qual : Str) (L f c' : Addr) (pins : List (Addr × Obj)) (σ : L2.St) (H : Hp) (s0 s : Shared) (y : V) (v : Value) (b : β), Inv X pins σ H s0 → (∀ c o, s0.heap.get? c = some o → s.heap.get? c = some o) → A.handled = none → Room 1 A →
    s.heap.Ns L (fun z => [(x, v)].reverse.lookup z) → RelV y v → R H y b →
    wpAny (model X.prog X.w) (A.deeper (PySem.W.envX qual scope L f (.ref c') [])) (eval body (PySem.W.envX qual scope L f (.ref c') [])) (PySem.W.KeyPure (kd b) s) (fun _ _ => False) s
/-- names of a lambda of one parameter that captures nothing -/
structure LamOne (scope : Scope) (x : Str) : Prop where
  kind : scope.kind = .function
  co : scope.isCoroutine = false
  gen : scope.isGenerator = false
  loc : scope.names.lookup x = some .local
  own : ∀ y ∈ scope.names, y.2 ≠ .cell ∧ y.2 ≠ .free
theorem cloNone : ∀ {names : List (Str × NameKind)} {cells acc : List (Str × Addr)}, (∀ y ∈ names, y.2 ≠ .free) → cloFrom cells names acc = acc
  | [], _, _, _ => rfl
  | (n, k) :: r, cells, acc, h => by
    have h1 := h (n, k) (List.mem_cons_self ..)
    have h2 := cloNone (names := r) (cells := cells) (acc := acc) fun y hy => h y (List.mem_cons_of_mem _ hy)
    cases k with
    | free => exact absurd rfl h1
    | _ => first | exact h2 | (unfold cloFrom; exact h2) | (simp [cloFrom]; exact h2)
end SR

set_option Elab.async false
set_option linter.all false
set_option maxRecDepth 100000
set_option maxHeartbeats 4000000
namespace SR
open PySem PySem.Spec PyProof.Rows L2
open LamX (Tabs ExtN TabB CodeO lam_make2)
def tSortLam {β : Type} (K : PySem.W.Frag) (T : List (Addr × Str)) (R : Hp → V → β → Prop) (le : β → β → Bool) (ta : TA) : TE := fun σ H Q => ta σ H fun ys H1 => ∃ (a : Addr) (l : List (V × β)), ys = [.ref a] ∧ SqL K H1 a (l.map (·.1)) ∧ Tabs T H1 ∧ (∀ p ∈ l, R H1 p.1 p.2) ∧
  ∀ H2 r, ExtN H1 H2 → Tabs T H2 → H2 r = none → Q (.ref r) (upd H2 r (.lst (sortedBy le l)))
theorem each_of {β : Type} {H : Hp} {R : Hp → V → β → Prop} : ∀ {l : List (V × β)} {vs : List Value}, Vals (l.map (·.1)) vs → (∀ p ∈ l, R H p.1 p.2) → PySem.W.EachIs (fun (v : Value) (p : V × β) => RelV p.1 v ∧ R H p.1 p.2) vs l
  | [], _, .nil, _ => .nil
  | p :: l, _, .cons r t, h => .cons ⟨r, h p (List.mem_cons_self ..)⟩ (each_of t fun q hq => h q (List.mem_cons_of_mem _ hq))
theorem vals_each {β : Type} {H : Hp} {R : Hp → V → β → Prop} : ∀ {l : List (V × β)} {vs : List Value}, PySem.W.EachIs (fun (v : Value) (p : V × β) => RelV p.1 v ∧ R H p.1 p.2) vs l → Vals (l.map (·.1)) vs
  | _, _, .nil => .nil
  | _, _, .cons h t => .cons h.1 (vals_each t)
theorem pe_sortLam {X : Cx} {β : Type} {T : List (Addr × Str)} {c P : Addr} {x : Str} {R : Hp → V → β → Prop} {kd : β → PyData} {le : β → β → Bool} {params : Arguments} {body : Expr} {scope : Scope} {lpos p kpos pos : Pos} {e : Expr} {ta : TA}
    (KB : KeyB X x scope body R kd) (hle : PySem.W.dataLe false kd = le) (hal : ∀ a b, PySem.W.alike (kd a) (kd b) = true) (hsk : (∀ b, ∃ d r, kd b = .tuple (d :: r)) ∨ ∀ b, kd b ≠ .none ∧ ∀ xs, kd b ≠ .tuple xs) (hdep : ∀ b, (kd b).depth ≤ 8)
    (hR : ∀ (H H' : Hp) (y : V) (b : β), ExtN H H' → R H y b → R H' y b)
    (hm : X.mg "sorted" = none) (TB : TabB X.base X.mg c P) (hcode : X.env.code = .ref c) (hmT : (P, X.env.qual ++ "<lambda>") ∈ T) (hu : ∀ p ∈ T, p.1 = P → p.2 = X.env.qual ++ "<lambda>") (LS : LamOne scope x) (hr : Room 4 X.A) (ha : PA X [e] ta)
    (hbind : ∀ (q : Str) (pm cv ctv v : Value), bindArgs (PySem.W.kla_fn "<lambda>" q params body scope [] pm cv ctv) ⟨[v], []⟩ = pure [(x, v)] := by intro _ _ _ _ _; rfl) (hdef : defaultsOf params X.env = ([], []) := by rfl) (hg : Gl X "sorted" := by rfl)
    (he : backTo pos (starEach [e] X.env) = (false, eval e X.env) :: backTo pos (starEach [] X.env) := by rfl) (hpl : (backTo pos (starEach [e] X.env)).any (·.1) = false := by rfl) :
    PE X (.Call (.Name "sorted" p) [e] [⟨some "key", .Lambda params body scope lpos, kpos⟩] pos) (tSortLam X.K T R le ta) := by
  refine ⟨fun pins s σ H Q I h => ?_⟩
  refine wpAny_Call_Name_kw (ld_blt I hg hm PyProof.Rows.boot_sorted ?_)
  refine PyProof.Rows.callWith_kw (thn (ha.run pos pins s σ H _ I h) fun us s1 ⟨vs, H1, I1, r1, q1⟩ => ?_) he hpl rfl rfl
  obtain ⟨a, l, rfl, hs, hT, hRl, q⟩ := q1
  obtain rfl := Vals.ref1 r1
  show wpAny _ _ (evalAll ((do let v ← eval (.Lambda params body scope lpos) X.env; standAt pos; pure v) :: (backToKw pos (keywordEach [] X.env)).map (·.2))) _ _ s1
  refine wpAny_evalAll_cons (wpAny_bind (lam_make2 I1 TB hcode hmT hu hT hdef (fun y hy e => absurd e (LS.own y hy).2) fun f c' pm' ctv H2 s2 I2 eN T2 hf hfn hfr hco => ?_))
  refine wpAny_bind (wpAny_standAt (wpAny_pure (wpAny_evalAll_nil ?_)))
  show wpAny _ _ (call (.builtin "sorted") [.ref a] [(Str.ofString "key", .ref f)]) _ _ s2
  rw [cloNone fun y hy => (LS.own y hy).2] at hf
  have hs2 : SqL X.K H2 a (l.map (·.1)) := by
    rcases hs with (h1 | ⟨o, h1⟩) | h1
    · exact .inl (.inl (eN _ _ h1 (fun _ z => nomatch z)))
    · exact .inl (.inr ⟨o, eN _ _ h1 (fun _ z => nomatch z)⟩)
    · exact .inr h1
  obtain ⟨its, rv, hl, hz⟩ := I2.list hs2
  have hR2 : ∀ p ∈ l, R H2 p.1 p.2 := fun p hp => hR _ _ _ _ eN (hRl p hp)
  obtain ⟨⟨oc, ovs, ot, hoc, hdc, hvc⟩, _, _⟩ := I2.hok c' _ hco
  rw [List.length_map] at hz
  refine PySem.W.sorted_key_data (b := false) (bs := l) (R := fun (v : Value) (p : V × β) => RelV p.1 v ∧ R H2 p.1 p.2) (fun p : V × β => kd p.2) hl.isList (each_of rv hR2) (PySem.W.AllAlike.of fun a b => hal a.2 b.2) ?_ hz (fun p _ => ?_) (PyProof.Rows.ksk_s1 _ _) (fun _ => PyProof.Rows.ksk_l1 _ _) (fun _ => PyProof.Rows.ksk_t1 _ _)
    (fun v p ⟨rp, hRp⟩ hp h' tk kp => ?_) fun out oc' h' tk kp fr hD hlen eo => ?_
  · rcases hsk with h1 | h1
    · refine .inl fun d hd => ?_
      obtain ⟨p, _, rfl⟩ := List.mem_map.mp hd
      exact h1 p.2
    · refine .inr fun d hd => ?_
      obtain ⟨p, _, rfl⟩ := List.mem_map.mp hd
      exact h1 p.2
  · have := hdep p.2
    have := hr.un
    show X.A.units + 2 + (kd p.2).depth < cLine
    omega
  · -- the key of an item
    have hr2 : Room 1 X.A.in1.in1 := (Room.in1 (Room.in1 (hr.mono (by decide : 3 ≤ 4))))
    refine wpAny_call (lam_call1 (v := v) (x := x) (kp _ _ hf) ⟨c', oc, ovs, ot, rfl, kp _ _ hoc, hdc, hvc⟩ (I2.nolimit.keeps kp) (by have := hr2.dp; omega) (hbind _ _ _ _ _) LS.loc LS.co LS.gen LS.kind (fun y hy => (LS.own y hy).1) fun L h₁ k1 hns => ?_)
    refine wpAny_mono (KB X.A.in1.in1 _ L f c' pins σ H2 s2 { s2 with heap := h₁, toks := tk + 1 } p.1 v p.2 I2 (fun c o e => k1 _ _ (kp _ _ e)) hr2.hd hr2 hns rp hRp) (fun u s' hk => ?_) fun _ _ hF => hF
    obtain ⟨h3, tk3, rfl, k3, rd⟩ := hk
    exact ⟨h3, tk3, rfl, fun b o e => k3 _ _ (k1 _ _ e), rd⟩
  · have ev : Vals (sortedBy le l) out := by
      unfold sortedBy
      rw [← hle]
      exact vals_each eo
    have hp : s2.heap.objs.size ≤ s2.heap.objs.size + 1 := Nat.le_succ _
    have hll : (sortedBy le l).length ≤ sizeLine := by
      unfold sortedBy
      rw [List.length_map, List.length_mergeSort]
      exact hz
    exact ⟨.ref _, upd H2 (s2.heap.objs.size + 1) (.lst (sortedBy le l)), I2.laid (t' := tk) kp hp ⟨hll, out, oc', ev, hD⟩, rfl, q H2 _ eN T2 (I2.hok.fresh hp)⟩
end SR

set_option Elab.async false
set_option linter.all false
set_option maxRecDepth 100000
set_option maxHeartbeats 4000000
namespace SR
open PySem PySem.Spec PyProof.Rows L2
open LamX (Tabs ExtN TabB CodeO)
/-- a tuple that begins with an int -/
def FirstI (H : Hp) (y : V) (i : Int) : Prop := ∃ t rest, y = .ref t ∧ H t = some (.tup (.int i :: rest))
theorem FirstI.ext {H H' : Hp} {y : V} {i : Int} (e : ExtN H H') (h : FirstI H y i) : FirstI H' y i := let ⟨t, r, a, b⟩ := h; ⟨t, r, a, e _ _ b (fun _ z => nomatch z)⟩
theorem keyIx0 {X : Cx} {x : Str} {scope : Scope} {p1 p2 pos : Pos} {kk : Nat} (LS : LamOne scope x) (hd : (x == ("__debug__" : Str)) = false) : KeyB X x scope (.Subscript (.Name x p1) (.Constant (.int 0) kk p2) pos) FirstI PyData.int := by
  intro A qual L f c' pins σ H s0 s y v b I kp hh hr hns rv hR
  obtain ⟨t, rest, rfl, ht⟩ := hR
  cases rv
  obtain ⟨its, r, pl, hz⟩ := I.tuple (SqT.of (K := X.K) ht)
  cases r with
  | cons r1 rr =>
    obtain ⟨tk, rfl⟩ := r1
    obtain ⟨ob, e, c⟩ := pl
    have pl2 : IsTup s.heap t ((Value.int b tk :: _).toArray) := ⟨ob, kp _ _ e, c⟩
    refine body_ix (j := 0) (u := .int b tk) LS.kind LS.loc hd hns pl2 (by decide) (by decide) (by simp [seqIndex?]) (by simp) ?_
    exact ⟨s.heap, s.toks + 1, rfl, fun _ _ e => e, .int b tk⟩
theorem le_int : PySem.W.dataLe false PyData.int = fun a b : Int => decide (a ≤ b) := by
  funext a b
  show (!PySem.W.dataLt (.int b) (.int a)) = _
  by_cases h : b < a
  · have : PySem.W.dataLt (.int b) (.int a) = true := by simp [PySem.W.dataLt, PySem.W.keyToks, PyProof.Rows.lexLt, itemLt, h]
    rw [this, decide_eq_false (by omega)]; rfl
  · have : PySem.W.dataLt (.int b) (.int a) = false := by simp [PySem.W.dataLt, PySem.W.keyToks, PyProof.Rows.lexLt, itemLt, h]
    rw [this, decide_eq_true (by omega)]; rfl
/-- sorted(xs, key=lambda x: x[0]) -/
theorem pe_sortIx0 {X : Cx} {T : List (Addr × Str)} {c P : Addr} {x : Str} {params : Arguments} {scope : Scope} {lpos p kpos pos p1 p2 pos2 : Pos} {kk : Nat} {e : Expr} {ta : TA}
    (hm : X.mg "sorted" = none) (TB : TabB X.base X.mg c P) (hcode : X.env.code = .ref c) (hmT : (P, X.env.qual ++ "<lambda>") ∈ T) (hu : ∀ p ∈ T, p.1 = P → p.2 = X.env.qual ++ "<lambda>") (hr : Room 4 X.A) (ha : PA X [e] ta)
    (LS : LamOne scope x) (hd : (x == ("__debug__" : Str)) = false := by decide)
    (hbind : ∀ (q : Str) (pm cv ctv v : Value), bindArgs (PySem.W.kla_fn "<lambda>" q params (.Subscript (.Name x p1) (.Constant (.int 0) kk p2) pos2) scope [] pm cv ctv) ⟨[v], []⟩ = pure [(x, v)] := by intro _ _ _ _ _; rfl) (hdef : defaultsOf params X.env = ([], []) := by rfl) (hg : Gl X "sorted" := by rfl)
    (he : backTo pos (starEach [e] X.env) = (false, eval e X.env) :: backTo pos (starEach [] X.env) := by rfl) (hpl : (backTo pos (starEach [e] X.env)).any (·.1) = false := by rfl) :
    PE X (.Call (.Name "sorted" p) [e] [⟨some "key", .Lambda params (.Subscript (.Name x p1) (.Constant (.int 0) kk p2) pos2) scope lpos, kpos⟩] pos) (tSortLam X.K T FirstI (fun a b : Int => decide (a ≤ b)) ta) :=
  pe_sortLam (keyIx0 LS hd) le_int (fun _ _ => rfl) (.inr fun b => ⟨(fun z => nomatch z), fun xs z => nomatch z⟩) (fun b => Nat.zero_le _) (fun _ _ _ _ e h => h.ext e) hm TB hcode hmT hu LS hr ha hbind hdef hg he hpl
end SR

set_option Elab.async false
set_option linter.all false
set_option maxRecDepth 100000
set_option maxHeartbeats 4000000
namespace SR
open PySem PySem.Spec PyProof.Rows L2
open LamX (Tabs ExtN TabB CodeO)
theorem WayV.ext {H H' : Hp} {y : V} {w : List Int} (e : ExtN H H') (h : WayV H y w) : WayV H' y w := let ⟨t, a, b⟩ := h; ⟨t, a, e _ _ b (fun _ z => nomatch z)⟩
def lenKey (w : List Int) : PyData := .tuple [.int w.length, .tuple (w.map PyData.int)]
theorem reads_ints {h : Heap} : ∀ {w : List Int} {its : List Value}, Vals (w.map V.int) its → ReadsAll h its (w.map PyData.int) []
  | [], _, .nil => .nil
  | i :: w, _, .cons r t => by
    obtain ⟨tk, rfl⟩ := r
    exact .cons (as := []) (bs := []) (.int i tk) (reads_ints t)
theorem keyLenX {X : Cx} {x : Str} {scope : Scope} {p1 p2 p3 p4 pos : Pos} {kk : Nat} (LS : LamOne scope x) (hd : (x == ("__debug__" : Str)) = false) (hg : scope.names.lookup ("len" : Str) = some .globalImplicit) (hm : X.mg "len" = none) :
    KeyB X x scope (.Tuple [.Call (.Name "len" p1) [.Name x p2] [] p3, .Name x p4] kk pos) WayV lenKey := by
  intro A qual L f c' pins σ H s0 s y v b I kp hh hr hns rv hR
  obtain ⟨t, rfl, ht⟩ := hR
  cases rv
  obtain ⟨its, r, pl, hz⟩ := I.tuple (SqT.of (K := X.K) ht)
  have hl := r.length
  rw [List.length_map] at hl hz
  obtain ⟨ob, e, c⟩ := id pl
  have pl2 : IsTup s.heap t its.toArray := ⟨ob, kp _ _ e, c⟩
  obtain ⟨mb, h1, h2⟩ := I.mod.blt
  have kb : ∀ b o, X.base.get? b = some o → s.heap.get? b = some o := fun b o e => kp _ _ (I.bk b o e)
  have nm : ∀ (s' : Shared) (Q : Value → Shared → Prop) (E : Value → Shared → Prop) (p : Pos), s'.heap = s.heap → Q (.ref t) s' → wpAny (model X.prog X.w) (A.deeper (PySem.W.envX qual scope L f (.ref c') [])) (eval (.Name x p) (PySem.W.envX qual scope L f (.ref c') [])) Q E s' := fun s' Q E p hs q =>
    wpAny_Name (wpAny_loadName_local (m := fun y => [(x, Value.ref t)].reverse.lookup y) (v := .ref t) LS.kind LS.loc (by rw [hs]; exact hns) (by show List.lookup x [(x, Value.ref t)] = some (.ref t); simp [List.lookup]) q) hd
  have hn := line63
  refine wpAny_Tuple_spliced ?_
  show wpAny _ _ (spliced ((false, eval (.Call (.Name "len" p1) [.Name x p2] [] p3) (PySem.W.envX qual scope L f (.ref c') [])) :: backTo pos (starEach [.Name x p4] (PySem.W.envX qual scope L f (.ref c') [])))) _ _ s
  refine Calls.spliced_cons ?_
  refine wpAny_Call_Name_kw (Calls.Name_function_global LS.kind hg (Calls.loadGlobal_builtin (mg := X.mg) (mb := mb) (I.mod.glob.keeps kb) hm (h1.keeps kb) ((h2 "len" (by decide)).trans PySem.boot_len) ?_) (by decide))
  refine PyProof.Rows.callWith_builtin1 ?_ rfl rfl
  show wpAny _ _ (spliced ((false, eval (.Name x p2) (PySem.W.envX qual scope L f (.ref c') [])) :: backTo p3 (starEach [] (PySem.W.envX qual scope L f (.ref c') [])))) _ _ s
  refine Calls.spliced_cons (nm s _ _ p2 rfl (Calls.spliced_nil ?_))
  refine len_tuple pl2 (by rw [List.size_toArray]; omega) ?_
  show wpAny _ _ (spliced ((false, eval (.Name x p4) (PySem.W.envX qual scope L f (.ref c') [])) :: backTo pos (starEach [] (PySem.W.envX qual scope L f (.ref c') [])))) _ _ _
  refine Calls.spliced_cons (nm _ _ _ p4 rfl (Calls.spliced_nil ⟨by show 2 ≤ sizeLine; decide, ?_⟩))
  refine ⟨_, _, rfl, fun b o e => Heap.get?_push_of_some _ e, ?_⟩
  obtain ⟨h3, n3, h4⟩ := c
  have el : ((its.toArray.size : Nat) : Int) = (b.length : Int) := by rw [List.size_toArray, hl]
  refine .tuple (as := []) (Heap.get?_push_size _ rfl) rfl rfl ?_
  refine .cons (as := []) (bs := []) ?_ (.cons (as := []) (bs := []) ?_ .nil)
  · rw [el]
    exact .int _ _
  · exact .tuple (as := []) (Heap.get?_push_of_some _ (kp _ _ e)) h3 h4 (reads_ints r)
end SR

set_option Elab.async false
set_option linter.all false
/-! Plain mathematics of combinations: the next one, all of them in their order. -/
namespace CB
def nextComb (n : Nat) (indices : List Nat) : Option (List Nat) :=
  let r := indices.length
  match (List.range r).reverse.find? fun i => indices.getD i 0 != i + n - r with
  | none => none
  | some i => some (indices.take i ++ (List.range (r - i)).map (indices.getD i 0 + 1 + ·))
/-- all rising lists of k numbers from lo to below n, in their order -/
def cmb (n : Nat) : Nat → Nat → Nat → List (List Nat)
  | 0, _, _ => [[]]
  | _ + 1, 0, _ => []
  | k + 1, f + 1, lo => if lo < n then ((cmb n k f (lo + 1)).map (lo :: ·)) ++ cmb n (k + 1) f (lo + 1) else []
theorem range_rev_succ (r : Nat) : (List.range (r + 1)).reverse = ((List.range r).reverse.map (· + 1)) ++ [0] := by
  rw [List.range_succ_eq_map, List.reverse_cons, List.map_reverse]
theorem next_cons (n a : Nat) (x : List Nat) : nextComb n (a :: x) = match nextComb n x with
    | some y => some (a :: y)
    | none => if a != n - (x.length + 1) then some ((List.range (x.length + 1)).map (a + 1 + ·)) else none := by
  unfold nextComb
  simp only [List.length_cons]
  rw [range_rev_succ, List.find?_append, List.find?_map]
  have e : ((fun i => (a :: x).getD i 0 != i + n - (x.length + 1)) ∘ fun i => i + 1) = fun i => x.getD i 0 != i + n - x.length := by
    funext i
    show ((a :: x).getD (i + 1) 0 != i + 1 + n - (x.length + 1)) = _
    rw [List.getD_cons_succ, show i + 1 + n - (x.length + 1) = i + n - x.length by omega]
  rw [e]
  cases h : (List.range x.length).reverse.find? fun i => x.getD i 0 != i + n - x.length with
  | some i =>
    have hi : i < x.length := by
      have := List.mem_of_find?_eq_some h
      simpa using this
    simp only [Option.map_some, Option.some_or]
    rw [List.take_succ_cons, List.getD_cons_succ, show x.length + 1 - (i + 1) = x.length - i by omega]
    rfl
  | none =>
    simp only [Option.map_none, Option.none_or, List.find?_cons, List.find?_nil, List.getD_cons_zero, Nat.zero_add]
    cases hc : (a != n - (x.length + 1)) with
    | true => simp [hc]
    | false => simp [hc]
theorem cmb_len {n : Nat} : ∀ {k f lo : Nat} {x : List Nat}, x ∈ cmb n k f lo → x.length = k
  | 0, f, lo, x, h => by
    have e : x = [] := by simpa [cmb] using h
    rw [e]; rfl
  | k + 1, 0, lo, x, h => by simp [cmb] at h
  | k + 1, f + 1, lo, x, h => by
    unfold cmb at h
    split at h
    · rcases List.mem_append.mp h with h | h
      · obtain ⟨y, hy, rfl⟩ := List.mem_map.mp h
        rw [List.length_cons, cmb_len hy]
      · exact cmb_len h
    · cases h
/-- which lists stand there -/
theorem mem_cmb {n : Nat} : ∀ {k f lo : Nat} {x : List Nat}, n ≤ lo + f → (x ∈ cmb n k f lo ↔ x.length = k ∧ x.Pairwise (· < ·) ∧ ∀ a ∈ x, lo ≤ a ∧ a < n)
  | 0, f, lo, x, _ => by
    constructor
    · intro h
      have e : x = [] := by simpa [cmb] using h
      subst e
      exact ⟨rfl, .nil, fun a ha => (nomatch ha)⟩
    · rintro ⟨h, _⟩
      have e : x = [] := List.length_eq_zero_iff.mp h
      subst e
      simp [cmb]
  | k + 1, 0, lo, x, hf => by
    constructor
    · intro h; simp [cmb] at h
    · rintro ⟨h1, _, h3⟩
      cases x with
      | nil => cases h1
      | cons a r => have := h3 a (List.mem_cons_self ..); omega
  | k + 1, f + 1, lo, x, hf => by
    unfold cmb
    split
    · rename_i hlt
      rw [List.mem_append, mem_cmb (k := k + 1) (by omega), List.mem_map]
      constructor
      · rintro (⟨y, hy, rfl⟩ | ⟨h1, h2, h3⟩)
        · obtain ⟨g1, g2, g3⟩ := (mem_cmb (by omega)).mp hy
          refine ⟨by rw [List.length_cons, g1], List.pairwise_cons.mpr ⟨fun b hb => by have := g3 b hb; omega, g2⟩, fun b hb => ?_⟩
          rcases List.mem_cons.mp hb with e | e
          · omega
          · have := g3 b e; omega
        · exact ⟨h1, h2, fun a ha => by have := h3 a ha; omega⟩
      · rintro ⟨h1, h2, h3⟩
        cases x with
        | nil => cases h1
        | cons a r =>
          rw [List.pairwise_cons] at h2
          have ha := h3 a (List.mem_cons_self ..)
          by_cases e : a = lo
          · left
            subst e
            refine ⟨r, (mem_cmb (by omega)).mpr ⟨by simpa using h1, h2.2, fun b hb => ?_⟩, rfl⟩
            have := h2.1 b hb
            have := h3 b (List.mem_cons_of_mem _ hb)
            omega
          · right
            refine ⟨h1, List.pairwise_cons.mpr h2, fun b hb => ?_⟩
            have hb' := h3 b hb
            rcases List.mem_cons.mp hb with e2 | e2
            · omega
            · have := h2.1 b e2; omega
    · rename_i hlt
      constructor
      · intro h; cases h
      · rintro ⟨h1, _, h3⟩
        cases x with
        | nil => cases h1
        | cons a r => have := h3 a (List.mem_cons_self ..); omega
theorem cmb_head {n : Nat} : ∀ {k f lo : Nat}, n ≤ lo + f → (cmb n k f lo).head? = if lo + k ≤ n ∨ k = 0 then some ((List.range k).map (lo + ·)) else none
  | 0, f, lo, _ => by simp [cmb]
  | k + 1, 0, lo, hf => by
    rw [if_neg (by omega)]
    simp [cmb]
  | k + 1, f + 1, lo, hf => by
    have h1 := cmb_head (n := n) (k := k) (f := f) (lo := lo + 1) (by omega)
    have h2 := cmb_head (n := n) (k := k + 1) (f := f) (lo := lo + 1) (by omega)
    unfold cmb
    split
    · rename_i hlt
      rw [List.head?_append, List.head?_map, h1]
      by_cases c : lo + 1 + k ≤ n ∨ k = 0
      · rw [if_pos c, if_pos (by omega)]
        simp only [Option.map_some, Option.some_or]
        congr 1
        rw [List.range_succ_eq_map, List.map_cons, List.map_map]
        congr 1
        refine List.map_congr_left fun x _ => ?_
        show lo + 1 + x = lo + (x + 1)
        omega
      · rw [if_neg c, if_neg (by omega)]
        simp only [Option.map_none, Option.none_or]
        rw [h2, if_neg (by omega)]
    · rename_i hlt
      rw [if_neg (by omega)]
      rfl
/-- each one's next one -/
theorem cmb_next {n : Nat} : ∀ {k f lo : Nat} {i : Nat} {x : List Nat}, n ≤ lo + f → (cmb n k f lo)[i]? = some x → nextComb n x = (cmb n k f lo)[i + 1]?
  | 0, f, lo, i, x, _, h => by
    have hi : i = 0 := by
      have := (List.getElem?_eq_some_iff.mp h).1
      simp [cmb] at this
      exact this
    subst hi
    have e : x = [] := by simpa [cmb] using h.symm
    subst e
    simp [cmb, nextComb]
  | k + 1, 0, lo, i, x, hf, h => by simp [cmb] at h
  | k + 1, f + 1, lo, i, x, hf, h => by
    unfold cmb at h ⊢
    split at h
    · rename_i hlt
      rw [if_pos hlt]
      by_cases c : i < (cmb n k f (lo + 1)).length
      · rw [List.getElem?_append_left (by rw [List.length_map]; exact c), List.getElem?_map] at h
        obtain ⟨y, hy, rfl⟩ : ∃ y, (cmb n k f (lo + 1))[i]? = some y ∧ lo :: y = x := by
          cases e : (cmb n k f (lo + 1))[i]? with
          | none => rw [e] at h; cases h
          | some y => rw [e] at h; exact ⟨y, rfl, Option.some.inj h⟩
        have ih := cmb_next (k := k) (f := f) (lo := lo + 1) (by omega) hy
        have hyl := cmb_len (List.mem_of_getElem? hy)
        have hym := (mem_cmb (n := n) (by omega)).mp (List.mem_of_getElem? hy)
        rw [next_cons, ih]
        by_cases c2 : i + 1 < (cmb n k f (lo + 1)).length
        · rw [List.getElem?_append_left (by rw [List.length_map]; exact c2), List.getElem?_map, List.getElem?_eq_getElem c2]
          rfl
        · have e1 : i + 1 = (cmb n k f (lo + 1)).length := by omega
          rw [List.getElem?_eq_none (by omega), List.getElem?_append_right (by rw [List.length_map]; omega), List.length_map, e1, Nat.sub_self]
          have hh := cmb_head (n := n) (k := k + 1) (f := f) (lo := lo + 1) (by omega)
          rw [List.head?_eq_getElem?] at hh
          rw [hh]
          show (if (lo != n - (y.length + 1)) = true then some ((List.range (y.length + 1)).map (lo + 1 + ·)) else none) = _
          rw [hyl]
          have hlo : lo + 1 + k ≤ n := by
            have hd := cmb_head (n := n) (k := k) (f := f) (lo := lo + 1) (by omega)
            by_cases q : lo + 1 + k ≤ n ∨ k = 0
            · omega
            · rw [if_neg q, List.head?_eq_none_iff] at hd
              rw [hd] at hy; simp at hy
          by_cases q : lo = n - (k + 1)
          · rw [if_neg (by simp [q]), if_neg (by omega)]
          · rw [if_pos (by simpa using q), if_pos (by omega)]
      · rw [List.getElem?_append_right (by rw [List.length_map]; omega), List.length_map] at h ⊢
        have ih := cmb_next (k := k + 1) (f := f) (lo := lo + 1) (by omega) h
        rw [ih]
        congr 1
        omega
    · simp at h
end CB

set_option Elab.async false
set_option linter.all false
set_option maxRecDepth 100000
set_option maxHeartbeats 4000000
/-! itertools.combinations(range(n), r), at the machine's level. -/
namespace CB
open PySem PySem.Spec
open Sem (wp)
theorem mro_cb : mroOf (.type "itertools.combinations") = pure [.type "itertools.combinations", .type "object"] := by rw [mroOf_type]; kernel_rfl
theorem lookup_cb_new : typeLookup (.type "itertools.combinations") "__new__" = pure (some (.builtin "itertools.combinations.__new__")) := by rw [typeLookup_type, builtinLookup_eq_fast]; kernel_rfl
theorem slot_cb_init : Slot "itertools.combinations" "__init__" "object.__init__" :=
  .of (owner := "object") (n := "__init__") (by rw [typeLookup_type, builtinLookup_eq_fast]; kernel_rfl) (by decide +kernel) (by decide +kernel) (by decide +kernel)
    (by first | exact .inl (by decide +kernel) | exact .inr (by decide +kernel)) (by rw [isSubtype_type]; kernel_rfl)
theorem sub_cb : isSubtype (.type "itertools.combinations") (.type "itertools.combinations") = pure true := by rw [isSubtype_type]; kernel_rfl
theorem called_cb : TypeCalled "itertools.combinations" "itertools.combinations.__new__" "object.__init__" :=
  ⟨by decide +kernel, by decide +kernel, ⟨_, _, mro_cb⟩, madeBy_type mro_cb lookup_cb_new (by decide +kernel), by decide +kernel, sub_cb, slot_cb_init⟩
theorem typeCall_cb_2 (a b : Value) : checkTypeCall "itertools.combinations" ⟨[a, b], []⟩ = pure () := by kernel_rfl
theorem newCall_cb_2 (a b : Value) : checkBuiltinCall "itertools.combinations.__new__" ⟨[.type "itertools.combinations", a, b], []⟩ = pure () := by kernel_rfl
theorem entry_cb_new : entryFor table "itertools.combinations.__new__" = some Builtin.«itertools.combinations.__new__» := entryFor_of_tree (by kernel_rfl)
theorem slot_cb_iter : Slot "itertools.combinations" "__iter__" "itertools.combinations.__iter__" :=
  .of (owner := "itertools.combinations") (n := "__iter__") (by rw [typeLookup_type, builtinLookup_eq_fast]; kernel_rfl) (by decide +kernel) (by decide +kernel) (by decide +kernel)
    (by first | exact .inl (by decide +kernel) | exact .inr (by decide +kernel)) sub_cb
theorem slot_cb_next : Slot "itertools.combinations" "__next__" "itertools.combinations.__next__" :=
  .of (owner := "itertools.combinations") (n := "__next__") (by rw [typeLookup_type, builtinLookup_eq_fast]; kernel_rfl) (by decide +kernel) (by decide +kernel) (by decide +kernel)
    (by first | exact .inl (by decide +kernel) | exact .inr (by decide +kernel)) sub_cb
theorem entry_cb_iter : entryFor table "itertools.combinations.__iter__" = some Builtin.«dict_keyiterator.__iter__» :=
  entryFor_alias (id' := "dict_keyiterator.__iter__") (by kernel_rfl) (by first | rfl | decide +kernel | (unfold String.splitOn; simp +decide [String.splitOnAux])) (by decide +kernel) (by kernel_rfl)
theorem entry_cb_next : entryFor table "itertools.combinations.__next__" = some Builtin.«itertools.combinations.__next__» := entryFor_of_tree (by kernel_rfl)
theorem owner_cb : Manifest.owners.lookup (String.ofList ['s', 'n', 'o', 'i', 't', 'a', 'n', 'i', 'b', 'm', 'o', 'c', '.', 's', 'l', 'o', 'o', 't', 'r', 'e', 't', 'i'].reverse) = some Manifest.sig_itertools_combinations := by kernel_rfl
theorem args_cb_iter (a : Value) : argsOk "itertools.combinations.__iter__" ⟨[a], []⟩ := by
  unfold argsOk; rw [signature?_of (id := "itertools.combinations.__iter__") (n := ['_', '_', 'r', 'e', 't', 'i', '_', '_']) (o := ['s', 'n', 'o', 'i', 't', 'a', 'n', 'i', 'b', 'm', 'o', 'c', '.', 's', 'l', 'o', 'o', 't', 'r', 'e', 't', 'i']) (by kernel_rfl) owner_cb]; kernel_rfl
theorem args_cb_next (a : Value) : argsOk "itertools.combinations.__next__" ⟨[a], []⟩ := by
  unfold argsOk; rw [signature?_of (id := "itertools.combinations.__next__") (n := ['_', '_', 't', 'x', 'e', 'n', '_', '_']) (o := ['s', 'n', 'o', 'i', 't', 'a', 'n', 'i', 'b', 'm', 'o', 'c', '.', 's', 'l', 'o', 'o', 't', 'r', 'e', 't', 'i']) (by kernel_rfl) owner_cb]; kernel_rfl
theorem noDict_cb : typeHasDict (.type "itertools.combinations") = false := by decide +kernel
end CB

set_option Elab.async false
set_option linter.all false
set_option maxRecDepth 100000
set_option maxHeartbeats 4000000
namespace CB
open PySem PySem.Spec PyProof.Rows L2
open Sem (wp)
def combFields (pool : Addr) (st : Int) (last : Value) (idx : List Nat) : Array Value := ([Value.ref pool, rawInt st, last] ++ idx.map fun (i : Nat) => rawInt i).toArray
/-- a combinations object: its pool, how far, what it gave last, the places -/
abbrev IsComb (h : Heap) (it pool : Addr) (st : Int) (last : Value) (idx : List Nat) : Prop := h.get? it = some { cls := .type "itertools.combinations", dict := none, data := .fields (combFields pool st last idx), slots := #[] }
theorem bindNamed2 (a b : Value) : Builtin.Itertools.itBindNamed "combinations" ["iterable", "r"] 2 2 [a, b] [] = pure [some a, some b] := by kernel_rfl
theorem ssize_nat {prog : Program} {w : World} {A : Around} {s : Shared} {k : Nat} {t : Tok} (hk : k < 2 ^ 62) : wpAny (model prog w) A (Builtin.Itertools.itSsizeArg (.int k t)) (fun i s' => i = (k : Int) ∧ s' = s) (fun _ _ => False) s := by
  have hnn : ¬ ((decide ((k : Int) < -(2 ^ 63 : Int)) || decide ((k : Int) ≥ 2 ^ 63)) = true) := by
    rw [decide_eq_false (by omega), decide_eq_false (by omega)]
    decide
  obtain ⟨hp, g, dd, tk, os⟩ := s
  repeat (first
      | wp_step
      | simp only [List.head?_cons, Option.some_or, List.getElem?_cons_succ, List.getElem?_cons_zero, List.length_cons, List.length_nil, List.forIn_nil]
      | (refine wpAny_ite_false (decide_eq_false hnn) ?_))
  all_goals first | exact ⟨rfl, rfl⟩ | exact ⟨trivial, trivial⟩
theorem rangeSize_nat0 (n : Nat) : Builtin.Range.rangeSize 0 n 1 = n := by
  have := rangeSize_nat 0 n
  simpa using this
theorem meets_cb_new (r : Addr) (n k : Nat) (tk0 : Tok) (t u v : Tok) (hk : k ≤ n) (hn : n ≤ 1000) :
    Meets (Builtin.«itertools.combinations.__new__» ⟨[.type "itertools.combinations", .ref r, .int k tk0], []⟩)
      (fun A R s => A.handled = none ∧ IsRange s.heap r 0 n 1 t u v ∧ ∀ (h₁ : Heap) (tk : Nat) (items : Array Value), (∀ b o, s.heap.get? b = some o → h₁.get? b = some o) → ItemsOf (fun i v => ∃ t, v = .int (i : Nat) t) items n →
        R (.ok (.ret (.ref (h₁.objs.size + 1)))) { s with heap := (h₁.push { cls := .type "tuple", data := .seq items.toList.toArray }).push { cls := .type "itertools.combinations", data := .fields (combFields h₁.objs.size 0 .none (List.range k)) }, toks := tk }) :=
  .of_wp fun prog w A R s h => by
    obtain ⟨hh, hr, h⟩ := h
    have hsub := sub_cb
    have hd := noDict_cb
    have hnn : ¬ ((decide ((k : Int) < -(2 ^ 63 : Int)) || decide ((k : Int) ≥ 2 ^ 63)) = true) := by
      rw [decide_eq_false (by omega), decide_eq_false (by omega)]
      decide
    repeat (first
      | wp_step
      | simp only [List.head?_cons, Option.some_or, List.getElem?_cons_succ, List.getElem?_cons_zero, List.length_cons, List.length_nil, List.forIn_nil]
      | (refine wpAny_ite_false (decide_eq_false hnn) ?_))
    rw [show ("itertools." ++ "combinations" : String) = "itertools.combinations" by decide +kernel, hsub]
    refine wpAny_pure ?_
    refine wpAny_ite_false (by decide) ?_
    refine wpAny_pure ?_
    refine wpAny_bind (wpAny_of_eq (bindNamed2 _ _) ?_)
    dsimp only
    refine wpAny_bind (wpAny_mono (ssize_nat (k := k) (t := tk0) (by omega)) (fun i s1 hi => ?_) fun _ _ hF => hF.elim)
    obtain ⟨rfl, rfl⟩ := hi
    refine wpAny_bind (collect_range hh hr (small_one (by omega) (by omega) (by omega) (by omega)) (n := n) (rangeSize_nat0 n) (by omega) fun h' tk acc keep hacc => ?_)
    rw [if_neg (show ¬ ((k : Int) < 0) by omega), if_neg (show ¬ (Builtin.Itertools.itTooMany (k : Int) = true) by unfold Builtin.Itertools.itTooMany; rw [decide_eq_true_eq]; omega)]
    have hsz : acc.size = n := hacc.1
    refine wpAny_bind (wpAny_newTuple ?_ (by rw [Array.length_toList, hsz, sizeLine_eq]; omega))
    refine wpAny_pure ?_
    dsimp only
    have e2 : (if (k : Int).toNat > acc.toList.length then (2 : Int) else 0) = 0 := if_neg (by rw [Array.length_toList, hsz]; omega)
    rw [e2]
    unfold Builtin.Itertools.itNewRecord
    rw [hd]
    refine wpAny_bind ?_
    rw [show (k : Int).toNat = k by omega]
    show wpAny _ _ (newObj (Value.type "itertools.combinations") (Data.fields (combFields h'.objs.size 0 .none (List.range k)))) _ _ _
    refine wpAny_newObj_type (wpAny_pure ⟨_, rfl, ?_⟩) ?_
    · have ss : (h'.push { cls := Value.type "tuple", data := Data.seq acc.toList.toArray }).objs.size = h'.objs.size + 1 := Heap.size_push ..
      have := h h' tk acc keep ⟨hsz, fun j v hj => by
        obtain ⟨t, ht⟩ := hacc.2 j v hj
        exact ⟨t, by rw [ht]; congr 1; omega⟩⟩
      rw [← ss] at this
      exact this
    · show (combFields h'.objs.size 0 Value.none (List.range k)).size ≤ _
      unfold combFields
      simp [sizeLine_eq]
      omega
end CB

set_option Elab.async false
set_option linter.all false
set_option maxRecDepth 100000
set_option maxHeartbeats 4000000
namespace CB
open PySem PySem.Spec PyProof.Rows L2
open Sem (wp)
section
variable {prog : Program} {w : World} {A : Around} {E : Value → Shared → Prop} {s : Shared}
theorem call_comb {r : Addr} {n k : Nat} {tk0 t u v : Tok} {Q : Value → Shared → Prop} (hh : A.handled = none) (hr : IsRange s.heap r 0 n 1 t u v) (hk : k ≤ n) (hn : n ≤ 1000)
    (h : ∀ (h₁ : Heap) (tk : Nat) (items : Array Value), (∀ b o, s.heap.get? b = some o → h₁.get? b = some o) → ItemsOf (fun i v => ∃ t, v = .int (i : Nat) t) items n →
        Q (.ref (h₁.objs.size + 1)) { s with heap := (h₁.push { cls := .type "tuple", data := .seq items.toList.toArray }).push { cls := .type "itertools.combinations", data := .fields (combFields h₁.objs.size 0 .none (List.range k)) }, toks := tk }) :
    wpAny (model prog w) A (call (.type "itertools.combinations") [.ref r, .int k tk0]) Q E s := by
  refine callType_new called_cb (by decide +kernel) (typeCall_cb_2 _ _) (newCall_cb_2 _ _) (fun obj => F.args_object_init_3 obj _ _) entry_cb_new (meets_cb_new r n k tk0 t u v hk hn) ⟨hh, hr, fun h₁ tk items keep hi => ?_⟩
  have ss : (h₁.push { cls := Value.type "tuple", data := Data.seq items.toList.toArray }).objs.size = h₁.objs.size + 1 := Heap.size_push ..
  have hg := Heap.get?_push_size (h₁.push { cls := Value.type "tuple", data := Data.seq items.toList.toArray }) (o := { cls := Value.type "itertools.combinations", data := Data.fields (combFields h₁.objs.size 0 .none (List.range k)) }) rfl
  rw [ss] at hg
  exact ⟨⟨_, hg, rfl⟩, h h₁ tk items keep hi⟩
theorem iter_comb {it pool : Addr} {st : Int} {last : Value} {idx : List Nat} {Q : Value → Shared → Prop} (hit : IsComb s.heap it pool st last idx) (h : Q (.ref it) s) : wpAny (model prog w) A (pyIter (.ref it)) Q E s := by
  have hT : s.TypeIs (.ref it) "itertools.combinations" := ⟨_, hit, rfl⟩
  refine wpAny_pyIter_slot hT slot_cb_iter (wpAny_call_entry slot_cb_iter hT entry_cb_iter ?_ (args_cb_iter _))
  show wpAny _ _ (ret (.ref it)) _ _ s
  exact wpAny_pure ⟨_, rfl, "itertools.combinations", _, hT, slot_cb_next.lookup, h⟩
theorem combIdx {F : Value → Nat} (hF : ∀ (n : Int) (t : Tok), F (.int n t) = n.toNat) (pool : Addr) (st : Int) (last : Value) (idx : List Nat) : List.map F (List.drop 3 (combFields pool st last idx).toList) = idx := by
  unfold combFields
  simp only [List.cons_append, List.nil_append, List.toList_toArray, List.drop_succ_cons, List.drop_zero, List.map_map]
  have e : (F ∘ fun (i : Nat) => rawInt i) = id := by
    funext i
    show F (.int (i : Int) 0) = i
    rw [hF]
    rfl
  rw [e, List.map_id]
theorem comb_first {it pool : Addr} {last : Value} {idx : List Nat} {items : Array Value} {Q : Option Value → Shared → Prop} (hit : IsComb s.heap it pool 0 last idx) (hp : IsTup s.heap pool items) (hne : it ≠ pool) (hl : idx.length ≤ 1000)
    (hQ : ∀ h', IsComb h' it pool 1 (.ref s.heap.objs.size) idx → h'.get? s.heap.objs.size = some { cls := .type "tuple", data := .seq (idx.map fun i => items.getD i .none).toArray } → (∀ b o, b ≠ it → s.heap.get? b = some o → h'.get? b = some o) → Q (some (.ref s.heap.objs.size)) { s with heap := h' }) :
    wpAny (model prog w) A (callSpecial? (.ref it) "__next__") Q E s := by
  have hT : s.TypeIs (.ref it) "itertools.combinations" := ⟨_, hit, rfl⟩
  refine wpAny_callSpecial?_slot (name := Str.ofString "__next__") hT slot_cb_next (wpAny_call_entry slot_cb_next hT entry_cb_next ?_ (args_cb_next _))
  iterate 4 wp_step
  refine wpAny_ite_false rfl ?_
  repeat wp_step
  obtain ⟨op, ep, cp, np, dp⟩ := hp
  obtain ⟨h1, e1⟩ : ∃ h1, h1 = s.heap.update it (Obj.mapFields fun x => x.setIfInBounds 1 (rawInt 1)) := ⟨_, rfl⟩
  have g1 : ∀ b o, b ≠ it → s.heap.get? b = some o → h1.get? b = some o := fun b o hb e => by rw [e1, Heap.get?_update_ne _ _ _ _ hb]; exact e
  have hit1 : IsComb h1 it pool 1 last idx := by rw [e1]; exact Heap.get?_update_self _ hit rfl
  rw [← e1]
  refine wpAny_load (g1 _ _ hne.symm ep) ?_
  rw [dp]
  refine wpAny_pure (wpAny_pure ?_)
  rw [combIdx (fun _ _ => rfl)]
  refine wpAny_newTuple ?_ (by rw [List.length_map, sizeLine_eq]; omega)
  have hsz : h1.objs.size = s.heap.objs.size := by rw [e1, Heap.size_update]
  have hit2 : IsComb (h1.push { cls := .type "tuple", data := .seq (idx.map fun i => items.getD i .none).toArray }) it pool 1 last idx := Heap.get?_push_of_some _ hit1
  refine wpAny_bind (wpAny_field hit2 rfl (x := last) rfl ?_)
  refine wpAny_bind (wpAny_setField hit2 rfl (by simp [combFields]) ?_)
  refine wpAny_bind (wpAny_letGo (wpAny_pure ⟨_, rfl, ?_⟩))
  rw [hsz]
  have hit3 : IsComb ((h1.push { cls := .type "tuple", data := .seq (idx.map fun i => items.getD i .none).toArray }).update it (Obj.mapFields fun x => x.setIfInBounds 2 (.ref s.heap.objs.size))) it pool 1 (.ref s.heap.objs.size) idx := Heap.get?_update_self _ hit2 rfl
  have hne2 : s.heap.objs.size ≠ it := Nat.ne_of_gt (Heap.lt_size hit)
  refine hQ _ hit3 ?_ fun b o hb e => ?_
  · rw [Heap.get?_update_ne _ _ _ _ hne2, ← hsz]
    exact Heap.get?_push_size _ rfl
  · rw [Heap.get?_update_ne _ _ _ _ hb]
    exact Heap.get?_push_of_some _ (g1 _ _ hb e)
theorem comb_more {it pool : Addr} {last : Value} {idx idx' : List Nat} {items : Array Value} {Q : Option Value → Shared → Prop} (hit : IsComb s.heap it pool 1 last idx) (hp : IsTup s.heap pool items) (hne : it ≠ pool) (hn : nextComb items.size idx = some idx') (hl : idx'.length ≤ 1000)
    (hQ : ∀ h', IsComb h' it pool 1 (.ref s.heap.objs.size) idx' → h'.get? s.heap.objs.size = some { cls := .type "tuple", data := .seq (idx'.map fun i => items.getD i .none).toArray } → (∀ b o, b ≠ it → s.heap.get? b = some o → h'.get? b = some o) → Q (some (.ref s.heap.objs.size)) { s with heap := h' }) :
    wpAny (model prog w) A (callSpecial? (.ref it) "__next__") Q E s := by
  have hT : s.TypeIs (.ref it) "itertools.combinations" := ⟨_, hit, rfl⟩
  refine wpAny_callSpecial?_slot (name := Str.ofString "__next__") hT slot_cb_next (wpAny_call_entry slot_cb_next hT entry_cb_next ?_ (args_cb_next _))
  iterate 4 wp_step
  refine wpAny_ite_false rfl ?_
  repeat wp_step
  obtain ⟨op, ep, cp, np, dp⟩ := hp
  refine wpAny_load ep ?_
  rw [dp]
  refine wpAny_pure (wpAny_pure ?_)
  rw [combIdx (fun _ _ => rfl)]
  split
  · rename_i next heq
    have en : next = idx' := Option.some.inj (heq.symm.trans hn)
    subst en
    repeat wp_step
    have ex : (combFields pool 1 last idx).extract 0 3 ++ (List.map (fun (n : Nat) => rawInt n) next).toArray = combFields pool 1 last next := by
      unfold combFields
      simp
    have el : (Obj.mapFields (fun fs => fs.extract 0 3 ++ (List.map (fun (n : Nat) => rawInt n) next).toArray) ({ cls := Value.type "itertools.combinations", data := Data.fields (combFields pool 1 last idx) } : Obj)).data.pastItsLine = none := by
      show (Data.fields ((combFields pool 1 last idx).extract 0 3 ++ (List.map (fun (n : Nat) => rawInt n) next).toArray)).pastItsLine = none
      rw [ex]
      refine pastItsLine_fields ?_
      unfold combFields
      simp [sizeLine_eq]
      omega
    rw [el]
    refine wpAny_pure ?_
    obtain ⟨h1, e1⟩ : ∃ h1, h1 = s.heap.update it (Obj.mapFields fun fs => fs.extract 0 3 ++ (List.map (fun (n : Nat) => rawInt n) next).toArray) := ⟨_, rfl⟩
    have g1 : ∀ b o, b ≠ it → s.heap.get? b = some o → h1.get? b = some o := fun b o hb e => by rw [e1, Heap.get?_update_ne _ _ _ _ hb]; exact e
    have hit1 : IsComb h1 it pool 1 last next := by
      rw [e1]
      have := Heap.get?_update_self (Obj.mapFields fun fs => fs.extract 0 3 ++ (List.map (fun (n : Nat) => rawInt n) next).toArray) hit rfl
      refine this.trans ?_
      show some ({ cls := Value.type "itertools.combinations", dict := none, data := Data.fields ((combFields pool 1 last idx).extract 0 3 ++ (List.map (fun (n : Nat) => rawInt n) next).toArray), slots := #[] } : Obj) = _
      rw [ex]
    rw [← e1]
    dsimp only
    repeat wp_step
    refine wpAny_load (g1 _ _ hne.symm ep) ?_
    rw [dp]
    refine wpAny_pure (wpAny_pure ?_)
    refine wpAny_newTuple ?_ (by rw [List.length_map, sizeLine_eq]; omega)
    have hsz : h1.objs.size = s.heap.objs.size := by rw [e1, Heap.size_update]
    have hit2 : IsComb (h1.push { cls := .type "tuple", data := .seq (next.map fun i => items.getD i .none).toArray }) it pool 1 last next := Heap.get?_push_of_some _ hit1
    refine wpAny_bind (wpAny_field hit2 rfl (x := last) rfl ?_)
    refine wpAny_bind (wpAny_setField hit2 rfl (by simp [combFields]) ?_)
    refine wpAny_bind (wpAny_letGo (wpAny_pure ⟨_, rfl, ?_⟩))
    rw [hsz]
    have hit3 : IsComb ((h1.push { cls := .type "tuple", data := .seq (next.map fun i => items.getD i .none).toArray }).update it (Obj.mapFields fun x => x.setIfInBounds 2 (.ref s.heap.objs.size))) it pool 1 (.ref s.heap.objs.size) next := Heap.get?_update_self _ hit2 rfl
    have hne2 : s.heap.objs.size ≠ it := Nat.ne_of_gt (Heap.lt_size hit)
    refine hQ _ hit3 ?_ fun b o hb e => ?_
    · rw [Heap.get?_update_ne _ _ _ _ hne2, ← hsz]
      exact Heap.get?_push_size _ rfl
    · rw [Heap.get?_update_ne _ _ _ _ hb]
      exact Heap.get?_push_of_some _ (g1 _ _ hb e)
  · rename_i heq
    exact absurd (heq.symm.trans hn) (fun z => nomatch z)
theorem comb_end {it pool : Addr} {last : Value} {idx : List Nat} {items : Array Value} {Q : Option Value → Shared → Prop} (hh : A.handled = none) (hit : IsComb s.heap it pool 1 last idx) (hp : IsTup s.heap pool items) (hne : it ≠ pool) (hn : nextComb items.size idx = none)
    (hQ : ∀ e h', CpRep.StopE e h' → (∀ b o, b ≠ it → s.heap.get? b = some o → h'.get? b = some o) → (∃ o, h'.get? it = some o) → E e { s with heap := h' }) : wpAny (model prog w) A (callSpecial? (.ref it) "__next__") Q E s := by
  have hT : s.TypeIs (.ref it) "itertools.combinations" := ⟨_, hit, rfl⟩
  refine wpAny_callSpecial?_slot (name := Str.ofString "__next__") hT slot_cb_next (wpAny_call_entry slot_cb_next hT entry_cb_next ?_ (args_cb_next _))
  iterate 4 wp_step
  refine wpAny_ite_false rfl ?_
  repeat wp_step
  obtain ⟨op, ep, cp, np, dp⟩ := hp
  refine wpAny_load ep ?_
  rw [dp]
  refine wpAny_pure (wpAny_pure ?_)
  rw [combIdx (fun _ _ => rfl)]
  split
  · rename_i next heq
    exact absurd (heq.symm.trans hn) (fun z => nomatch z)
  · refine wpAny_bind (wpAny_setField hit rfl (by simp [combFields]) ?_)
    unfold Builtin.Itertools.itStop
    refine wpAny_bind ?_
    simp only [newExc, newTuple]
    refine wpAny_bind (wpAny_newObj_type ?_ (by size_fits))
    refine wpAny_bind (m := firstArgMember _ _) (wpAny_of_eq (a := Value.none) (by first | rfl | (simp only [firstArgMember]; rfl)) ?_)
    refine wpAny_newObj_type ?_ (by size_fits)
    simp only [raiseNew]
    refine wpAny_bind (wpAny_handled ?_)
    first | rw [show A.in1.handled = none from hh] | rw [hh]
    refine wpAny_bind (wpAny_pure (wpAny_throw ?_))
    refine hQ _ _ ⟨_, _, _, rfl, Heap.get?_push_size _ rfl, rfl, rfl, rfl⟩ (fun b o hb e => ?_) ⟨_, Heap.get?_push_of_some _ (Heap.get?_push_of_some _ (Heap.get?_update_self _ hit rfl))⟩
    refine Heap.get?_push_of_some _ (Heap.get?_push_of_some _ ?_)
    rw [Heap.get?_update_ne _ _ _ _ hb]
    exact e
end
end CB

set_option Elab.async false
set_option linter.all false
set_option maxRecDepth 100000
set_option maxHeartbeats 4000000
/-! for indexes in combinations(range(n), k). -/
namespace CB
open PySem PySem.Spec PyProof.Rows L2
def nats (l : List Nat) : List V := l.map fun (j : Nat) => V.int j
def ItC (n k : Nat) : It :=
  ⟨fun i _ => i < (cmb n k n 0).length, fun i H v H' => ∃ r idx, v = .ref r ∧ H r = none ∧ (cmb n k n 0)[i]? = some idx ∧ H' = upd H r (.tup (nats idx)), fun i _ => i = (cmb n k n 0).length⟩
/-- where the walk stands -/
def combTn (n k : Nat) (it pool : Addr) (i : Nat) (h : Heap) : Prop := it ≠ pool ∧ (∃ items : Array Value, IsTup h pool items ∧ ItemsOf (fun i v => ∃ t, v = .int (i : Nat) t) items n) ∧
  ((i = 0 ∧ IsComb h it pool 0 .none (List.range k)) ∨ ∃ last idx, 0 < i ∧ (cmb n k n 0)[i - 1]? = some idx ∧ IsComb h it pool 1 last idx)
theorem vals_picked {items : Array Value} {n : Nat} (hi : ItemsOf (fun i v => ∃ t, v = .int (i : Nat) t) items n) : ∀ {idx : List Nat}, (∀ a ∈ idx, a < n) → Vals (nats idx) (idx.map fun i => items.getD i .none)
  | [], _ => .nil
  | a :: idx, h => by
    have ha := h a (List.mem_cons_self ..)
    refine .cons ?_ (vals_picked hi fun b hb => h b (List.mem_cons_of_mem _ hb))
    have hlt : a < items.size := by rw [hi.1]; exact ha
    have e : items[a]? = some items[a] := Array.getElem?_eq_getElem hlt
    obtain ⟨t, ht⟩ := hi.2 a _ e
    refine ⟨t, ?_⟩
    show items.getD a Value.none = _
    rw [Array.getD_eq_getD_getElem?, e]
    exact ht
theorem turn_comb {P : Program} {w : World} {K : PySem.W.Frag} {tg : Expr} {n k : Nat} {it pool : Addr} (hk : k ≤ n) (hn : n ≤ 1000) : Turn P w K tg (ItC n k) [it, pool] it (combTn n k it pool) where
  mem := List.mem_cons_self ..
  obj := fun i h st b hb => by
    obtain ⟨_, ⟨items, ⟨op, ep, cp, np, dp⟩, _⟩, hc⟩ := st
    rcases List.mem_cons.mp hb with e | hb
    · subst e
      rcases hc with ⟨_, hc⟩ | ⟨last, idx, _, _, hc⟩
      · exact ⟨_, hc, fun v z => nomatch z⟩
      · exact ⟨_, hc, fun v z => nomatch z⟩
    · rw [List.mem_singleton.mp hb]
      exact ⟨op, ep, fun v z => by rw [dp] at z; cases z⟩
  keep := fun i h h' st kp => by
    obtain ⟨hne, ⟨items, ⟨op, ep, cp, np, dp⟩, hi⟩, hc⟩ := st
    refine ⟨hne, ⟨items, ⟨op, kp pool (by simp) _ ep, cp, np, dp⟩, hi⟩, ?_⟩
    rcases hc with ⟨e, hc⟩ | ⟨last, idx, h1, h2, hc⟩
    · exact .inl ⟨e, kp it (by simp) _ hc⟩
    · exact .inr ⟨last, idx, h1, h2, kp it (by simp) _ hc⟩
  item := by
    intro X hP hw hK hc i pins s σ H E I hf st hg
    subst hP hw hK
    obtain ⟨hne, ⟨items, hp, hi⟩, hcs⟩ := st
    have hh := I.ok.hd hc
    have hg : i < (cmb n k n 0).length := hg
    obtain ⟨idx, hidx⟩ : ∃ idx, (cmb n k n 0)[i]? = some idx := ⟨_, List.getElem?_eq_getElem hg⟩
    have hmem := (mem_cmb (n := n) (k := k) (f := n) (lo := 0) (by omega)).mp (List.mem_of_getElem? hidx)
    -- the tuple that is handed out, the object behind
    have fin : ∀ h', IsComb h' it pool 1 (.ref s.heap.objs.size) idx → h'.get? s.heap.objs.size = some { cls := .type "tuple", data := .seq (idx.map fun i => items.getD i .none).toArray } → (∀ b o, b ≠ it → s.heap.get? b = some o → h'.get? b = some o) →
        ∃ u, some (Value.ref s.heap.objs.size) = some u ∧ wpAny (model X.prog X.w) X.A (letOwnedTupleGo tg (.ref it) u) (fun _ s2 => ∃ x H', Inv X pins σ H' s2 ∧ RelV x u ∧ (ItC n k).yld i H x H' ∧ combTn n k it pool (i + 1) s2.heap ∧ ∀ b ∈ [it, pool], H' b = none) E { s with heap := h' } := fun h' h1 h2 h3 => by
      refine ⟨_, rfl, go_of (s := { s with heap := h' }) h1 rfl rfl (by decide) ?_⟩
      have hfr : H s.heap.objs.size = none := I.hok.fresh (Nat.le_refl _)
      have hlen : (nats idx).length ≤ sizeLine := by
        unfold nats
        rw [List.length_map, hmem.1, sizeLine_eq]
        omega
      have I1 : Inv X pins σ (upd H s.heap.objs.size (.tup (nats idx))) { s with heap := h' } := I.turnedNew (t' := s.toks) (ch := [it]) (fun b o hb e => h3 b o (fun z => hb (by rw [z]; exact List.mem_singleton.mpr rfl)) e) (fun b hb => by rw [List.mem_singleton.mp hb]; exact hf it (by simp)) (Nat.le_refl _)
        (show ObjOk X.prog X.w _ _ _ (.tup (nats idx)) from ⟨hlen, _, vals_picked hi (fun a ha => (hmem.2.2 a ha).2), ⟨_, h2, rfl, _, rfl⟩⟩)
      obtain ⟨op, ep, cp, np, dp⟩ := hp
      refine ⟨.ref s.heap.objs.size, _, I1, rfl, ⟨_, idx, rfl, hfr, hidx, rfl⟩, ⟨hne, ⟨items, ⟨op, h3 _ _ hne.symm ep, cp, np, dp⟩, hi⟩, .inr ⟨_, idx, Nat.succ_pos _, hidx, h1⟩⟩, fun b hb => ?_⟩
      have hb0 : H b = none := (hf b hb).1
      have hbo : ∃ o, s.heap.get? b = some o := by
        rcases List.mem_cons.mp hb with e | e
        · rcases hcs with ⟨_, q⟩ | ⟨_, _, _, _, q⟩
          · exact ⟨_, by rw [e]; exact q⟩
          · exact ⟨_, by rw [e]; exact q⟩
        · exact ⟨op, by rw [List.mem_singleton.mp e]; exact ep⟩
      obtain ⟨o, ho⟩ := hbo
      rw [upd_ne (Nat.ne_of_lt (Heap.lt_size ho))]
      exact hb0
    unfold pyNext
    rcases hcs with ⟨rfl, hcm⟩ | ⟨last, idx0, hi0, hidx0, hcm⟩
    · have e0 : idx = List.range k := by
        have := cmb_head (n := n) (k := k) (f := n) (lo := 0) (by omega)
        rw [List.head?_eq_getElem?, hidx, if_pos (by omega)] at this
        have := Option.some.inj this
        rw [this]
        simp
      subst e0
      exact wpAny_bind (wpAny_attempt (comb_first hcm hp hne (by rw [List.length_range]; omega) fun h' h1 h2 h3 => wpAny_pure (fin h' h1 h2 h3)))
    · have hnx := cmb_next (n := n) (k := k) (f := n) (lo := 0) (by omega) hidx0
      rw [show i - 1 + 1 = i by omega, hidx] at hnx
      exact wpAny_bind (wpAny_attempt (comb_more hcm hp hne (by rw [hi.1]; exact hnx) (by rw [hmem.1]; omega) fun h' h1 h2 h3 => wpAny_pure (fin h' h1 h2 h3)))
  done := by
    intro X hP hw hK hc i pins s σ H E I hf st hg
    subst hP hw hK
    obtain ⟨hne, ⟨items, hp, hi⟩, hcs⟩ := st
    have hh := I.ok.hd hc
    have hg : i = (cmb n k n 0).length := hg
    rcases hcs with ⟨rfl, hcm⟩ | ⟨last, idx0, hi0, hidx0, hcm⟩
    · exfalso
      have := cmb_head (n := n) (k := k) (f := n) (lo := 0) (by omega)
      rw [List.head?_eq_getElem?, if_pos (by omega), List.getElem?_eq_none (by omega)] at this
      cases this
    · have hnx := cmb_next (n := n) (k := k) (f := n) (lo := 0) (by omega) hidx0
      rw [show i - 1 + 1 = i by omega, List.getElem?_eq_none (by omega)] at hnx
      unfold pyNext
      refine wpAny_bind (wpAny_attempt (comb_end hh hcm hp hne (by rw [hi.1]; exact hnx) fun e h' hs h1 h2 => ?_))
      obtain ⟨a, o, vs, rfl, ho, hcl, _, _⟩ := hs
      refine wpAny_bind (wpAny_isInstance (T := "StopIteration") (b := true) ⟨_, ho, hcl⟩ isSubtype_stop ?_)
      exact wpAny_pure ⟨rfl, I.turned (t' := s.toks) (it := it) (fun b o hb e => h1 b o hb e) (hf it (by simp)).1 (hf it (by simp)).2.1 (hf it (by simp)).2.2.2.1 (hf it (by simp)).2.2.2.2.1 (hf it (by simp)).2.2.2.2.2⟩
  self := fun A i s Q E st h => by
    obtain ⟨_, _, hcs⟩ := st
    rcases hcs with ⟨_, hcm⟩ | ⟨_, _, _, _, hcm⟩
    · exact iter_comb hcm h
    · exact iter_comb hcm h
/-- combinations(range(..), k), the name a global -/
def iComb (te tk : TE) : TI := fun σ H R => te σ H fun x H1 => ∃ n : Nat, x = .int n ∧ tk σ H1 fun y H2 => ∃ k : Nat, y = .int k ∧ k ≤ n ∧ n ≤ 1000 ∧ R (ItC n k) H2
theorem pi_comb {X : Cx} {tg e ek : Expr} {te tk : TE} {p rp rpos pos : Pos} (hm : X.mg "combinations" = some (.type "itertools.combinations")) (hmr : X.mg "range" = none) (hc : X.calm = true) (he : PE X e te) (hk : PE X ek tk) (hg : Gl X "combinations" := by rfl) (hgr : Gl X "range" := by rfl)
    (hs : starEach [(.Call (.Name "range" rp) [e] [] rpos), ek] X.env = (false, eval (.Call (.Name "range" rp) [e] [] rpos) X.env) :: starEach [ek] X.env := by rfl) (hs2 : starEach [ek] X.env = (false, eval ek X.env) :: starEach [] X.env := by rfl) (hpl : (backTo pos (starEach [ek] X.env)).any (·.1) = false := by rfl)
    (hse : starEach [e] X.env = (false, eval e X.env) :: starEach [] X.env := by rfl) :
    PI X tg (.Call (.Name "combinations" p) [.Call (.Name "range" rp) [e] [] rpos, ek] [] pos) (iComb te tk) := by
  refine ⟨fun pins s σ H R I h => ?_⟩
  refine wpAny_Call_Name_kw (ld_glob I hg hm ?_ (by decide))
  refine PyProof.Rows.callWith_type1 ?_ hs hpl
  rw [hs]
  show wpAny _ _ (spliced ((false, eval (.Call (.Name "range" rp) [e] [] rpos) X.env) :: backTo pos (starEach [ek] X.env))) _ _ s
  refine Calls.spliced_cons (Call_ (ld_blt I hgr hmr PyProof.Rows.boot_range (PyProof.Rows.callWith_type1 (one_arg he I h (fun v s2 x H2 I2 r q => ?_) hse) hse)))
  obtain ⟨n, rfl, q⟩ := q
  obtain ⟨t, rfl⟩ := r
  refine call_range_1 ?_
  have fr : H2 s2.heap.objs.size = none := I2.hok.fresh (Nat.le_refl _)
  have fo : FpOk X pins H2 s2.heap.objs.size := I2.fpOk (Nat.le_refl _) fr
  obtain ⟨og, eog⟩ : ∃ og : Obj, og = { cls := .type "range", data := .fields #[.int 0 s2.toks, .int n t, .int 1 (s2.toks + 1)] } := ⟨_, rfl⟩
  rw [← eog]
  have I3 : Inv X pins σ H2 { s2 with heap := s2.heap.push og, toks := s2.toks + 1 + 1 } := I2.kept (t' := s2.toks + 1 + 1) fun b u e => Heap.get?_push_of_some _ e
  have hog : (s2.heap.push og).get? s2.heap.objs.size = some og := Heap.get?_push_size _ (by rw [eog]; rfl)
  have I3p := I3.pinned (fp := [s2.heap.objs.size]) (fun b hb => by rw [List.mem_singleton.mp hb]; exact fo) (fun b hb => by rw [List.mem_singleton.mp hb]; exact ⟨og, hog, fun v z => by rw [eog] at z; cases z⟩)
  rw [hs2]
  show wpAny _ _ (spliced ((false, eval ek X.env) :: backTo pos (starEach [] X.env))) _ _ _
  refine Calls.spliced_cons (thn (hk.run _ _ σ H2 _ I3p q) fun kv s4 ⟨y, H4, I4, r4, q4⟩ => Calls.spliced_nil ?_)
  obtain ⟨k, rfl, hkn, hn, q5⟩ := q4
  obtain ⟨t4, rfl⟩ := r4
  have hpin : s4.heap.get? s2.heap.objs.size = some og := (I4.pin (s2.heap.objs.size, og) (List.mem_append_right _ (List.mem_append_right _ (mem_pinsAt (List.mem_singleton.mpr rfl) hog)))).1
  have I4u := I4.unpinned
  refine call_comb (I4u.ok.hd hc) (by rw [eog] at hpin; exact hpin) hkn hn fun h₁ tk items keep hi => ?_
  have I5 : Inv X pins σ H4 { s4 with heap := h₁, toks := tk } := I4u.kept (t' := tk) keep
  have ss : (h₁.push { cls := .type "tuple", data := .seq items.toList.toArray }).objs.size = h₁.objs.size + 1 := Heap.size_push ..
  have k6 : ∀ b u, h₁.get? b = some u → ((h₁.push { cls := .type "tuple", data := .seq items.toList.toArray }).push { cls := .type "itertools.combinations", data := .fields (combFields h₁.objs.size 0 .none (List.range k)) }).get? b = some u := fun b u e => Heap.get?_push_of_some _ (Heap.get?_push_of_some _ e)
  have I6 : Inv X pins σ H4 { s4 with heap := (h₁.push { cls := .type "tuple", data := .seq items.toList.toArray }).push { cls := .type "itertools.combinations", data := .fields (combFields h₁.objs.size 0 .none (List.range k)) }, toks := tk } := I5.kept (t' := tk) k6
  have hit : IsComb ((h₁.push { cls := .type "tuple", data := .seq items.toList.toArray }).push { cls := .type "itertools.combinations", data := .fields (combFields h₁.objs.size 0 .none (List.range k)) }) (h₁.objs.size + 1) h₁.objs.size 0 .none (List.range k) := by
    rw [← ss]
    exact Heap.get?_push_size _ rfl
  refine iter_comb hit ?_
  have f1 : H4 h₁.objs.size = none := I5.hok.fresh (Nat.le_refl _)
  have f2 : H4 (h₁.objs.size + 1) = none := I5.hok.fresh (Nat.le_succ _)
  refine ⟨h₁.objs.size + 1, [h₁.objs.size + 1, h₁.objs.size], combTn n k (h₁.objs.size + 1) h₁.objs.size, ItC n k, H4, rfl, I6, turn_comb hkn hn, ⟨Nat.succ_ne_self _, ⟨items, ⟨_, Heap.get?_push_of_some _ (Heap.get?_push_size _ rfl), rfl, 0, by rw [Array.toArray_toList]⟩, hi⟩, .inl ⟨rfl, hit⟩⟩, fun b hb => ?_, q5⟩
  rcases List.mem_cons.mp hb with e | e
  · rw [e]; exact I5.fpOk (Nat.le_succ _) f2
  · rw [List.mem_singleton.mp e]; exact I5.fpOk (Nat.le_refl _) f1
/-- the loop's bookkeeping -/
theorem for_comb {n k : Nat} {g : TG} {tb : TS} {D : Ends} {σ : L2.St} {H : Hp} (Pv : Nat → L2.St → Hp → Prop) (h0 : Pv 0 σ H)
    (hs : ∀ (i : Nat) (idx : List Nat) (r : Addr) (σ : L2.St) (H : Hp), (cmb n k n 0)[i]? = some idx → Pv i σ H → H r = none → g (.ref r) σ (upd H r (.tup (nats idx))) fun σ2 H2 => tb { D with nx := Pv (i + 1), ct := Pv (i + 1), bk := D.nx } σ2 H2) (hd : ∀ σ H, Pv (cmb n k n 0).length σ H → D.nx σ H) :
    ∃ W : Nat → Nat → L2.St → Hp → Prop, (∃ m, W 0 m σ H) ∧ ∀ i m σ H, W i m σ H →
      ((ItC n k).stop i H ∧ D.nx σ H) ∨ ((ItC n k).go i H ∧ ∃ N : L2.St → Hp → Prop, (∀ σ' H', N σ' H' → ∃ m', m' < m ∧ W (i + 1) m' σ' H') ∧ ∀ v H', (ItC n k).yld i H v H' → g v σ H' fun σ2 H2 => tb { D with nx := N, ct := N, bk := D.nx } σ2 H2) := by
  refine ⟨fun i m σ H => m = (cmb n k n 0).length - i ∧ i ≤ (cmb n k n 0).length ∧ Pv i σ H, ⟨_, rfl, Nat.zero_le _, h0⟩, ?_⟩
  rintro i m σ H ⟨rfl, hi, p⟩
  by_cases hlt : i < (cmb n k n 0).length
  · refine .inr ⟨hlt, Pv (i + 1), fun σ' H' p' => ⟨(cmb n k n 0).length - (i + 1), by omega, rfl, hlt, p'⟩, fun v H' y => ?_⟩
    obtain ⟨r, idx, rfl, hr, hx, rfl⟩ := y
    exact hs i idx r σ H hx p hr
  · have e : i = (cmb n k n 0).length := by omega
    subst e
    exact .inl ⟨rfl, hd σ H p⟩
end CB

set_option Elab.async false
set_option linter.all false
set_option maxRecDepth 100000
set_option maxHeartbeats 4000000
/-! for i, x in enumerate(xs, start=k) over a list. -/
namespace SR
open PySem PySem.Spec PyProof.Rows L2
section
variable {M : Model} {A : Around} {E : Value → Shared → Prop} {s : Shared} {env : Env}
theorem callWith_type_kwB {pos : Pos} {T : String} {first : List Value} {args : List (Bool × Sem Value)} {keywords : List (Option Str × Sem Value)} {Q : Value → Shared → Prop}
    (hplain : args.any (·.1) = false) (hkw : keywords.any (·.1.isNone) = false)
    (h : wpAny M A (evalArgs (.type T) true args keywords) (fun a s₁ => wpAny M A (call (.type T) (first ++ a.pos) a.kw) Q E s₁) E s) :
    wpAny M A (callWith pos (.type T) first args keywords) Q E s := by
  unfold callWith
  refine wpAny_bind (wpAny_holding (wpAny_mono h (fun a s₁ h₁ => wpAny_bind (wpAny_standAt ?_)) fun _ _ x => x))
  simp only [hplain, hkw, Bool.or_false]
  refine wpAny_bind (wpAny_pure ?_)
  exact wpAny_bind (wpAny_mono h₁ (fun r s₂ hr => wpAny_bind (wpAny_holding (wpAny_point (wpAny_pure hr)))) fun _ _ x => x)
theorem callWith_type_kw {pos : Pos} {T : String} {e : Expr} {rest : List Expr} {kws : List Keyword} {Q : Value → Shared → Prop}
    (h : wpAny M A (spliced (backTo pos (starEach (e :: rest) env))) (fun vs s₁ => wpAny M A (evalAll ((backToKw pos (keywordEach kws env)).map (·.2)))
      (fun kvs s₂ => wpAny M A (call (.type T) vs (((backToKw pos (keywordEach kws env)).filterMap (·.1)).zip kvs)) Q E s₂) E s₁) E s)
    (he : backTo pos (starEach (e :: rest) env) = (false, eval e env) :: backTo pos (starEach rest env) := by rfl)
    (hplain : (backTo pos (starEach (e :: rest) env)).any (·.1) = false := by rfl)
    (hall : (backToKw pos (keywordEach kws env)).all (·.1.isSome) = true := by rfl)
    (hkw : (backToKw pos (keywordEach kws env)).any (·.1.isNone) = false := by rfl) :
    wpAny M A (callWith pos (.type T) [] (backTo pos (starEach (e :: rest) env)) (backToKw pos (keywordEach kws env))) Q E s := by
  refine callWith_type_kwB hplain hkw ?_
  rw [he] at h ⊢
  exact evalArgs_kwB hall h
end
/-- a test by truth -/
def tTru (K : PySem.W.Frag) (t : TE) : L2.St → Hp → (Bool → Hp → Prop) → Prop := fun σ H Q => t σ H fun x H' => ∃ k, TruV K x H' k ∧ Q k H'
/-- sep.join(a list of texts) -/
def rJn (K : PySem.W.Frag) : V → List V → Hp → VK → Prop := fun x xs H Q => ∃ a p, ∃ ys : List Str, x = .str a ∧ xs = [.ref p] ∧ (SqL K H p (ys.map V.str) ∨ SqT K H p (ys.map V.str)) ∧ (ys.map (·.length)).sum + ys.length * a.length ≤ 16777216 ∧ Q (.str (Txt.join a ys)) H
theorem pe_jn {X : Cx} {o e : Expr} {to te : TE} {apos pos : Pos} (ho : PE X o to) (he : PE X e te) (hs : starEach [e] X.env = [(false, eval e X.env)] := by rfl) (hb : attributeBase o "join" X.env (eval o X.env) = eval o X.env := by rfl) (hl : (apos.endLine == pos.line) = true := by rfl) :
    PE X (.Call (.Attribute o "join" apos) [e] [] pos) (tM1 (rJn X.K) to te) := pe_join ho he hs hb hl
/-- a text of parts -/
def tFs (ts : List TE) : TE := fun σ H Q => tJs ts Str.empty σ H fun out H1 => Q (.str out) H1
theorem pe_fstr {X : Cx} {v1 v2 : Expr} {rest : List Expr} {ts : List TE} {pos : Pos} (h : PJ X (v1 :: v2 :: rest) ts) : PE X (.JoinedStr (v1 :: v2 :: rest) pos) (tFs ts) := pe_joined h
/-- the list at a, each item in a new pair with its place from k0 on -/
def Ites (K : PySem.W.Frag) (a : Addr) (k0 : Int) : It :=
  ⟨fun i H => ∃ (xs : List V) (x : V), SqL K H a xs ∧ xs[i]? = some x, fun i H v H' => ∃ T x, v = .ref T ∧ H T = none ∧ H' = upd H T (.tup [.int (k0 + (i : Int)), x]) ∧ ∀ xs, SqL K H a xs → xs[i]? = some x, fun i H => ∃ xs : List V, SqL K H a xs ∧ xs.length = i⟩
theorem turn_enumS {P : Program} {w : World} {K : PySem.W.Frag} {elts : List Expr} {kk : Nat} {tpos : Pos} (a e it : Addr) (k0 : Int) :
    Turn P w K (.Tuple elts kk tpos) (Ites K a k0) [e, it] e (fun i h => (∃ old, IsEnum h e it (k0 + (i : Int)) old) ∧ h.IsListIter it a i ∧ e ≠ it) where
  mem := by simp
  obj := fun i h st b hb => by
    obtain ⟨⟨old, he⟩, ⟨o, ho, hc, hd⟩, _⟩ := st
    have e' : b = e ∨ b = it := by simpa using hb
    rcases e' with z | z
    · rw [z]; exact ⟨_, he, fun v q => nomatch q⟩
    · rw [z]; exact ⟨o, ho, fun v q => by rw [hd] at q; cases q⟩
  keep := fun i h h' st k => let ⟨⟨old, he⟩, hi, hne⟩ := st; ⟨⟨old, k e (by simp) _ he⟩, hi.at fun o q => k it (by simp) o q, hne⟩
  item := by
    intro X hP hw hK hc i pins s σ H E I hf st hg
    subst hP hw hK
    obtain ⟨⟨old, he⟩, hit, hne⟩ := st
    obtain ⟨xs, x, hq, hx⟩ := hg
    obtain ⟨its, rv, p, hz⟩ := I.list hq
    obtain ⟨u, hu, ru⟩ := rv.get hx
    have hel : e < s.heap.objs.size := Heap.lt_size he
    have hil : it < s.heap.objs.size := by obtain ⟨_, q, _⟩ := hit; exact Heap.lt_size q
    have hT : s.heap.IsList a its.toArray := p.isList
    obtain ⟨o1, ho1, hc1, _⟩ := id hT
    obtain ⟨o2, ho2, hc2, _⟩ := id hit
    have hea : e ≠ a := fun z => by subst z; rw [he] at ho1; cases ho1; exact absurd hc1 (by simp)
    have hai : a ≠ it := fun z => by subst z; rw [ho1] at ho2; cases ho2; rw [hc1] at hc2; exact absurd hc2 (by simp)
    have hlt : i < its.toArray.size := by
      rw [List.size_toArray]
      exact (List.getElem?_eq_some_iff.mp hu).1
    refine wpAny_pyNext_enum_itemC (Draws.list (A := X.A.in1) (I.ok.hd hc) it a hai its.toArray) he ⟨hit, hT⟩ hlt hne (by simp [hne, hea]) fun y h' tk hP ho hs' hT2 hsz hk => ?_
    have ey : y = u := by
      have q : its.toArray[i]? = some y := hP
      rw [List.getElem?_toArray, hu] at q
      exact (Option.some.inj q).symm
    subst ey
    refine ⟨_, rfl, wpAny_letOwnedTupleGo_enum (s := { s with heap := h', toks := tk + 1 }) ho fun h'' he' sb => ?_⟩
    have hT3 : h''.get? s.heap.objs.size = some { cls := .type "tuple", data := .seq #[.int (k0 + (i : Int)) tk, y] } := (sb.2 _ (Nat.ne_of_gt hel)).trans hT2
    have new : ObjOk X.prog X.w (upd H s.heap.objs.size (.tup [.int (k0 + (i : Int)), x])) h'' s.heap.objs.size (.tup [.int (k0 + (i : Int)), x]) :=
      ⟨by show 2 ≤ sizeLine; decide, [.int (k0 + (i : Int)) tk, y], .cons ⟨_, rfl⟩ (.cons ru .nil), ⟨_, hT3, rfl, _, rfl⟩⟩
    have I1 : Inv X pins σ (upd H s.heap.objs.size (.tup [.int (k0 + (i : Int)), x])) { s with heap := h'', toks := tk + 1 } :=
      I.turnedNew (ch := [e, it]) (fun b ob hb q => (sb.2 b (fun z => hb (by simp [z]))).trans (hk b ob (fun z => hb (by simp [z])) (fun z => hb (by simp [z])) q)) hf (Nat.le_refl _) new
    refine ⟨.ref s.heap.objs.size, _, I1, rfl, ⟨_, x, rfl, I.hok.fresh (Nat.le_refl _), rfl, fun ys hy => by rw [I.list_inj hy hq]; exact hx⟩, ⟨⟨y, ?_⟩, hs'.1.at fun o q => (sb.2 it (Ne.symm hne)).trans q, hne⟩, fun b hb => ?_⟩
    · have e1 : k0 + ((i + 1 : Nat) : Int) = k0 + (i : Int) + 1 := by omega
      rw [e1]; exact he'
    · have hb' : b < s.heap.objs.size := by
        have e' : b = e ∨ b = it := by simpa using hb
        rcases e' with z | z
        · rw [z]; exact hel
        · rw [z]; exact hil
      rw [upd_ne (Nat.ne_of_lt hb')]
      exact (hf b hb).1
  done := by
    intro X hP hw hK hc i pins s σ H E I hf st hg
    subst hP hw hK
    obtain ⟨⟨old, he⟩, hit, hne⟩ := st
    obtain ⟨xs, hq, hx⟩ := hg
    obtain ⟨its, rv, p, hz⟩ := I.list hq
    have hT : s.heap.IsList a its.toArray := p.isList
    obtain ⟨o1, ho1, hc1, _⟩ := id hT
    obtain ⟨o2, ho2, hc2, _⟩ := id hit
    have hai : a ≠ it := fun z => by subst z; rw [ho1] at ho2; cases ho2; rw [hc1] at hc2; exact absurd hc2 (by simp)
    obtain ⟨f0, f1, f2, f3, f4, f5⟩ := hf it (by simp)
    have hl : its.toArray.size = i := by rw [List.size_toArray, ← rv.length]; exact hx
    exact wpAny_pyNext_enum_endD (Draws.list (A := X.A.in1) (I.ok.hd hc) it a hai its.toArray) he (by rw [hl]; exact ⟨hit, hT⟩) fun h' eb => ⟨rfl, I.turned (t' := s.toks) (fun b o hb q => eb b o hb q) f0 f1 f3 f4 f5⟩
  self := fun A i s Q E st h => let ⟨⟨_, he⟩, _⟩ := st; wpAny_pyIter_enum he h
def iEnumS (K : PySem.W.Frag) (ta tk : TA) : TI := fun σ H R => ta σ H fun vs H1 => tk σ H1 fun zs H2 => ∃ a xs k0, vs = [.ref a] ∧ zs = [.int k0] ∧ -(2 ^ 63) ≤ k0 ∧ k0 < 2 ^ 63 ∧ SqL K H2 a xs ∧ R (Ites K a k0) H2
theorem pi_enumS {X : Cx} {e : Expr} {ta tk : TA} {p pos tpos : Pos} {elts : List Expr} {kk : Nat} {kws : List Keyword} (hg : Gl X "enumerate") (hm : X.mg "enumerate" = none) (ha : PA X [e] ta) (hk : PK X kws tk)
    (he : backTo pos (starEach [e] X.env) = (false, eval e X.env) :: backTo pos (starEach [] X.env) := by rfl) (hpl : (backTo pos (starEach [e] X.env)).any (·.1) = false := by rfl)
    (hall : (backToKw pos (keywordEach kws X.env)).all (·.1.isSome) = true := by rfl) (hnone : (backToKw pos (keywordEach kws X.env)).any (·.1.isNone) = false := by rfl) (hks : (backToKw pos (keywordEach kws X.env)).filterMap (·.1) = [Str.ofString "start"] := by rfl) :
    PI X (.Tuple elts kk tpos) (.Call (.Name "enumerate" p) [e] kws pos) (iEnumS X.K ta tk) := by
  refine ⟨fun pins s σ H R I h => ?_⟩
  refine wpAny_Call_Name_kw (ld_blt I hg hm boot_enumerate ?_ (by decide) (by decide))
  refine callWith_type_kw (thn (ha.run pos pins s σ H _ I h) fun us s1 ⟨vs, H1, I1, r1, q1⟩ => thn (hk.run pos pins s1 σ H1 _ I1 q1) fun ws s2 ⟨zs, H2, I2, r2, q2⟩ => ?_) he hpl hall hnone
  rw [hks]
  obtain ⟨a, xs, k0, e1, e2, k1, k2, hq, q⟩ := q2
  subst e1 e2
  cases r1 with
  | cons r rr =>
    cases rr
    cases r
    cases r2 with
    | cons r' rr' =>
      cases rr'
      obtain ⟨tk', rfl⟩ := r'
      obtain ⟨its, rv, p', hz⟩ := I2.list hq
      have hT : s2.heap.IsList a its.toArray := p'.isList
      refine enum_begins_start (begins_list a its.toArray) hT k1 k2 fun h' he ho hsz hk => wpAny_pyIter_enum he ?_
      have hit : h'.IsListIter s2.heap.objs.size a 0 := ⟨_, ho, rfl, rfl⟩
      have I3 : Inv X pins σ H2 { s2 with heap := h' } := I2.kept (t' := s2.toks) hk
      refine ⟨s2.heap.objs.size + 1, [s2.heap.objs.size + 1, s2.heap.objs.size], _, _, H2, rfl, I3, turn_enumS a (s2.heap.objs.size + 1) s2.heap.objs.size k0, ⟨⟨.none, by rw [show k0 + ((0 : Nat) : Int) = k0 by omega]; exact he⟩, hit, Nat.succ_ne_self _⟩, fun b hb => ?_, q⟩
      have e' : b = s2.heap.objs.size + 1 ∨ b = s2.heap.objs.size := by simpa using hb
      have hle : s2.heap.objs.size ≤ b := by
        rcases e' with z | z
        · rw [z]; exact Nat.le_add_right _ _
        · rw [z]; exact Nat.le_refl _
      exact I2.fpOk hle (I2.hok.fresh hle)
theorem for_enumS {K : PySem.W.Frag} {a : Addr} {k0 : Int} {xs : List V} {g : TG} {tb : TS} {D : Ends} {σ : L2.St} {H : Hp} (Pv : Nat → L2.St → Hp → Prop) (h0 : Pv 0 σ H) (hq : ∀ i σ H, Pv i σ H → SqL K H a xs)
    (hs : ∀ (i : Nat) (x : V) (T : Addr) (σ : L2.St) (H : Hp), xs[i]? = some x → Pv i σ H → H T = none → g (.ref T) σ (upd H T (.tup [.int (k0 + (i : Int)), x])) fun σ2 H2 => tb { D with nx := Pv (i + 1), ct := Pv (i + 1), bk := D.nx } σ2 H2) (hd : ∀ σ H, Pv xs.length σ H → D.nx σ H) :
    ∃ W : Nat → Nat → L2.St → Hp → Prop, (∃ m, W 0 m σ H) ∧ ∀ i m σ H, W i m σ H →
      ((Ites K a k0).stop i H ∧ D.nx σ H) ∨ ((Ites K a k0).go i H ∧ ∃ N : L2.St → Hp → Prop, (∀ σ' H', N σ' H' → ∃ m', m' < m ∧ W (i + 1) m' σ' H') ∧ ∀ v H', (Ites K a k0).yld i H v H' → g v σ H' fun σ2 H2 => tb { D with nx := N, ct := N, bk := D.nx } σ2 H2) := by
  refine ⟨fun i m σ H => m = xs.length - i ∧ i ≤ xs.length ∧ Pv i σ H, ⟨xs.length, rfl, Nat.zero_le _, h0⟩, ?_⟩
  rintro i m σ H ⟨rfl, hi, p⟩
  have qx := hq i σ H p
  by_cases hlt : i < xs.length
  · have hx : xs[i]? = some xs[i] := List.getElem?_eq_getElem hlt
    refine .inr ⟨⟨xs, _, qx, hx⟩, Pv (i + 1), fun σ' H' p' => ⟨xs.length - (i + 1), by omega, rfl, hlt, p'⟩, fun v H' y => ?_⟩
    obtain ⟨T, x', rfl, hT, rfl, f1⟩ := y
    exact hs i x' T σ H (f1 xs qx) p hT
  · have e : i = xs.length := by omega
    subst e
    exact .inl ⟨⟨xs, qx, rfl⟩, hd σ H p⟩
end SR

set_option Elab.async false
set_option linter.all false
set_option maxRecDepth 100000
set_option maxHeartbeats 4000000
/-! Own error classes with one or two fields, stored by their __init__. -/
namespace SR
open PySem PySem.Spec PyProof.Rows L2
def spI1 (C : Addr) (f1 : Str) : Sp := fun vs H Q _ => ∃ (a : Addr) (x : V), vs = [.ref a, x] ∧ H a = some (exo a C none) ∧
  ∀ dx, H dx = none → dx ≠ a → Q .non (upd (upd H dx (exd dx [(f1, x)])) a (exo a C (some dx)))
def spI2 (C : Addr) (f1 f2 : Str) : Sp := fun vs H Q _ => ∃ (a : Addr) (x y : V), vs = [.ref a, x, y] ∧ H a = some (exo a C none) ∧
  ∀ dx, H dx = none → dx ≠ a → Q .non (upd (upd (upd H dx (exd dx [(f1, x)])) a (exo a C (some dx))) dx (exd dx [(f2, y), (f1, x)]))
/-- such a class x, at C -/
structure FxT (P : Program) (w : World) (K : PySem.W.Frag) (mg : Str → Option Value) (base : Heap) (x : Str) (C : Addr) (ps : List Str) (sp : Sp) : Prop where
  T : OexC K C
  X : XfC K C
  gC : mg x = some (.ref C)
  mkI : ∃ fI fd, PySem.W.findIn K (.ref C) "__init__" = some (some (.ref fI)) ∧ PySem.W.typeIn K (.ref fI) = some (.type "function") ∧ FnOk P w K mg base CX0 1 fI fd ps sp ∧ Binds K fd ps []
section
variable {X : Cx} {x : Str} {C : Addr} {ps : List Str} {sp : Sp} {e : Expr} {es : List Expr} {ta : TA} {p pos : Pos}
theorem pmk_fx (D : FxT X.prog X.w X.K X.mg X.base x C ps sp) (hr : Room 2 X.A) (ha : PA X (e :: es) ta) (hg : Gl X x)
    (hdb : (x == ("__debug__" : Str)) = false := by decide) (he : starEach (e :: es) X.env = (false, eval e X.env) :: starEach es X.env := by rfl) (hpl : (backTo pos (starEach es X.env)).any (·.1) = false := by rfl) :
    PMk X (.Call (.Name x p) (e :: es) [] pos) (tMkO C sp [] ta) := by
  obtain ⟨fI, fd, iC, tI, F, hb⟩ := D.mkI
  exact pmk_oex D.T iC tI F hr hb .nil pass0 hg D.gC ha hdb he hpl
end
section
variable {C : Addr}
def XQ (C a : Addr) (H1 : Hp) (Q : XK) : VK := fun v H2 => v = .non ∧ ∃ (d : Addr) (fs : List (Str × V)), H2 a = some (exo a C (some d)) ∧ H2 d = some (exd d fs) ∧ H1 d = none ∧ Q (.ref C) (some d) (upd (del H2 a) d (.xd fs))
theorem made1 {f1 : Str} {H1 : Hp} {Q : XK} {x : V} (k : ∀ d H', Same H1 H' → H1 d = none → H' d = some (.xd [(f1, x)]) → Q (.ref C) (some d) H') :
    ([x] : List V).length ≤ 1000 ∧ ∀ a, H1 a = none → spI1 C f1 (.ref a :: ([x] ++ [])) (upd H1 a (exo a C none)) (XQ C a H1 Q) (fun _ _ _ => False) := by
  refine ⟨by show 1 ≤ 1000; decide, fun a na => ⟨a, x, rfl, upd_same, fun dx nd ne => ⟨rfl, dx, [(f1, x)], upd_same, ?_, ?_, ?_⟩⟩⟩
  · rw [upd_ne ne, upd_same]
  · rw [upd_ne ne] at nd; exact nd
  · rw [upd_ne ne] at nd
    refine k dx _ (fun b o hb => ?_) nd upd_same
    have hbd : b ≠ dx := ne_of_none hb nd
    have hba : b ≠ a := ne_of_none hb na
    rw [upd_ne hbd, del_ne hba, upd_ne hba, upd_ne hbd, upd_ne hba]
    exact hb
theorem made2 {f1 f2 : Str} {H1 : Hp} {Q : XK} {x y : V} (k : ∀ d H', Same H1 H' → H1 d = none → H' d = some (.xd [(f2, y), (f1, x)]) → Q (.ref C) (some d) H') :
    ([x, y] : List V).length ≤ 1000 ∧ ∀ a, H1 a = none → spI2 C f1 f2 (.ref a :: ([x, y] ++ [])) (upd H1 a (exo a C none)) (XQ C a H1 Q) (fun _ _ _ => False) := by
  refine ⟨by show 2 ≤ 1000; decide, fun a na => ⟨a, x, y, rfl, upd_same, fun dx nd ne => ⟨rfl, dx, [(f2, y), (f1, x)], ?_, upd_same, ?_, ?_⟩⟩⟩
  · rw [upd_ne (Ne.symm ne), upd_same]
  · rw [upd_ne ne] at nd; exact nd
  · rw [upd_ne ne] at nd
    refine k dx _ (fun b o hb => ?_) nd upd_same
    have hbd : b ≠ dx := ne_of_none hb nd
    have hba : b ≠ a := ne_of_none hb na
    rw [upd_ne hbd, del_ne hba, upd_ne hbd, upd_ne hba, upd_ne hbd, upd_ne hba]
    exact hb
end
end SR

set_option Elab.async false
set_option linter.all false
set_option maxRecDepth 100000
set_option maxHeartbeats 4000000
/-! isinstance of a caught error, with or without fields. -/
namespace SR
open PySem PySem.Spec PyProof.Rows L2
/-- isinstance(e, c), e the error at a that the suite holds -/
def rIsX (K : PySem.W.Frag) (a : Addr) (cls : Value) (d : Option Addr) : List V → Hp → VK → Prop := fun xs H Q => ∃ (D : Addr) (c : V) (cv : Value) (b : Bool), cls = .ref D ∧ ExcC K D ∧ xs = [.ref a, c] ∧ (∀ u, RelV c u → u = cv) ∧
  PySem.W.kitOne K (.ref D) cv = some b ∧ (∀ dd, d = some dd → ∃ fs, H dd = some (.xd fs)) ∧ Q (.bl b) H
theorem isX_inst {X : Cx} {a D : Addr} {oe : Obj} {d : Option Addr} {pn pins : List (Addr × Obj)} {σ : L2.St} {H : Hp} {s : Shared} (I : Inv (X.suite a ((a, oe) :: pn)) pins σ H s) (hz : Zc (.ref D) d oe) (hf : ∃ vs, oe.data = .fields vs) (hd : ∀ dd, d = some dd → ∃ fs, H dd = some (.xd fs)) :
    ∃ od, PySem.W.InstAt s.heap a oe D od := by
  obtain ⟨ha, _⟩ := I.pin (a, oe) (List.mem_append_left _ List.mem_cons_self)
  obtain ⟨vs, hv⟩ := hf
  have hno : PySem.W.notCls oe = true := by unfold PySem.W.notCls; rw [hv] <;> rfl
  cases d with
  | none =>
    refine ⟨none, ha, hz.1, hno, ?_⟩
    have := hz.2
    rw [this]
    trivial
  | some dd =>
    obtain ⟨fs, hxd⟩ := hd dd rfl
    have ho : ObjOk X.prog X.w H s.heap dd (.xd fs) := I.hok dd _ hxd
    obtain ⟨mA, hns, _⟩ := ho
    obtain ⟨od, h1, _⟩ := lookIn_ns hns
    exact ⟨some od, ha, hz.1, hno, by rw [hz.2]; exact h1⟩
theorem call_isX {X : Cx} {a : Addr} {oe : Obj} {cls : Value} {d : Option Addr} {pn : List (Addr × Obj)} (hz : Zc cls d oe) (hf : ∃ vs, oe.data = .fields vs) : CallR (X.suite a ((a, oe) :: pn)) (.builtin "isinstance") (rIsX X.K a cls d) := by
  intro pins s σ H xs us Q I r h
  obtain ⟨D, c, cv, b, rfl, C, rfl, hcv, e, hd, q⟩ := h
  cases r with
  | cons rx rr =>
    cases rr with
    | cons rt rr =>
      cases rr
      cases rx
      have ec := hcv _ rt
      subst ec
      obtain ⟨od, J⟩ := isX_inst I hz hf hd
      obtain ⟨cdD, hcD, _⟩ := PySem.W.any_some C.hd
      exact PySem.W.kia_one (PySem.W.kitx_exc (od := od) (by rw [hcD]; rfl) C.hg C.hk C.hs C.ha C.hn C.ht C.hm) I.kIn J e (fun z => nomatch z) fun tk => ⟨.bl b, H, I.kept (t' := tk) fun _ _ z => z, rfl, q⟩
theorem ref_is {C : Addr} : ∀ u, RelV (.ref C) u → u = .ref C := fun u h => h
/-- own classes asked for -/
theorem kit_own {K : PySem.W.Frag} {A S : Addr} {b : Bool} (h1 : PySem.W.isClsIn K S = true) (h2 : PySem.W.typeIn K (.ref S) = some (.type "type")) (h3 : PySem.W.subIn K (.ref A) (.ref S) = some b) (h4 : PySem.W.subIn K (.ref A) (.ref A) = some true) : PySem.W.kitOne K (.ref A) (.ref S) = some b := by
  by_cases e : A = S
  · subst e
    rw [h3] at h4
    rw [h4]
    exact if_pos (beq_self_eq_true _)
  · have h1' : (PySem.W.clsIn K S).isSome = true := h1
    have e1 : ((PySem.W.clsIn K S).isSome && PySem.W.typeIn K (.ref S) == some (.type "type")) = true := by rw [h1', h2] <;> rfl
    have e2 : (Value.ref A == Value.ref S) = false := beq_eq_false_iff_ne.mpr fun z => e (by injection z)
    have : PySem.W.kitOne K (.ref A) (.ref S) = if (Value.ref A == Value.ref S) = true then some true else (if ((PySem.W.clsIn K S).isSome && PySem.W.typeIn K (.ref S) == some (.type "type")) = true then PySem.W.subIn K (.ref A) (.ref S) else none) := rfl
    rw [this, e2, if_neg Bool.false_ne_true, if_pos e1]
    exact h3
end SR

set_option Elab.async false
set_option linter.all false
set_option maxRecDepth 100000
set_option maxHeartbeats 4000000
/-! Texts: numbers as texts, texts cut at one sign, words between spaces. -/
namespace SR
open PySem PySem.NumText
abbrev L (s : Str) : List Nat := s.cps.toList
theorem str_ext {a b : Str} (h : L a = L b) : a = b := PyProof.Rows.ext_toList h
theorem L_app (a b : Str) : L (a ++ b) = L a ++ L b := PySem.W.KT.app_list a b
theorem L_len (a : Str) : (L a).length = a.length := Array.length_toList
def mkS (l : List Nat) : Str := ⟨l.toArray⟩
theorem L_mk (l : List Nat) : L (mkS l) = l := by simp [L, mkS]
theorem mk_L (s : Str) : mkS (L s) = s := str_ext (L_mk _)
/-- a number's text -/
abbrev Tx (i : Int) : Str := Str.ofString (toString i)
def dg (m : Nat) : List Nat := (Nat.toDigits 10 m).map Char.toNat
theorem dg_all (m : Nat) : AllDigits (dg m) := by
  intro c hc
  obtain ⟨ch, hch, e⟩ := List.mem_map.mp hc
  have r := PyProof.Rows.digit_range (Nat.isDigit_of_mem_toDigits (by decide) (by decide) hch)
  rw [← e]
  exact r
theorem dg_ne (m : Nat) : dg m ≠ [] := by
  intro e
  have h : 0 < (Nat.toDigits 10 m).length := Nat.length_toDigits_pos
  rw [List.map_eq_nil_iff.mp e] at h
  exact absurd h (by decide)
theorem dg_val (m : Nat) : digitsVal (dg m) = m := PySem.W.KIN.val_back m
theorem dg_len {m k : Nat} (h0 : 0 < k) (h : m < 10 ^ k) : (dg m).length ≤ k := by
  unfold dg
  rw [List.length_map]
  exact (Nat.length_toDigits_le_iff (by decide) h0).mpr h
theorem Tx_nat (m : Nat) : L (Tx (m : Int)) = dg m := PySem.W.KIN.signs_num m
theorem Tx_neg (m : Nat) : L (Tx (Int.negSucc m)) = 45 :: dg (m + 1) := by
  show (Str.ofString (toString (Int.negSucc m))).cps.toList = _
  rw [PyProof.Rows.signs_ofString]
  show ("-" ++ Nat.repr (m + 1) : String).toList.map Char.toNat = _
  rw [String.toList_append, List.map_append, Nat.toList_repr]
  rfl
theorem Tx_cases (n : Int) : (∃ m : Nat, n = m ∧ L (Tx n) = dg m) ∨ ∃ m : Nat, n = -((m + 1 : Nat) : Int) ∧ L (Tx n) = 45 :: dg (m + 1) := by
  cases n with
  | ofNat m => exact .inl ⟨m, rfl, Tx_nat m⟩
  | negSucc m => exact .inr ⟨m, rfl, Tx_neg m⟩
theorem Tx_signs (n : Int) : ∀ c ∈ L (Tx n), c = 45 ∨ (48 ≤ c ∧ c ≤ 57) := by
  intro c hc
  rcases Tx_cases n with ⟨m, rfl, e⟩ | ⟨m, rfl, e⟩
  · rw [e] at hc; exact .inr (dg_all m c hc)
  · rw [e] at hc
    rcases List.mem_cons.mp hc with h | h
    · exact .inl h
    · exact .inr (dg_all _ c h)
theorem Tx_ne (n : Int) : L (Tx n) ≠ [] := by
  rcases Tx_cases n with ⟨m, rfl, e⟩ | ⟨m, rfl, e⟩
  · rw [e]; exact dg_ne m
  · rw [e]; simp
theorem Tx_len {n : Int} (h : n.natAbs < 10 ^ 31) : (L (Tx n)).length ≤ 32 := by
  rcases Tx_cases n with ⟨m, rfl, e⟩ | ⟨m, rfl, e⟩
  · rw [e]; have := dg_len (m := m) (k := 31) (by decide) (by omega); omega
  · rw [e, List.length_cons]; have := dg_len (m := m + 1) (k := 31) (by decide) (by omega); omega
theorem Tx_reads {n : Int} (h : (L (Tx n)).length ≤ 4300) : intText? (Tx n) = some n := by
  have hl := L_len (Tx n)
  rcases Tx_cases n with ⟨m, rfl, e⟩ | ⟨m, rfl, e⟩
  · have q := intText_digits (x := Tx (m : Int)) (by rw [show (Tx (m : Int)).cps.toList = dg m from e]; exact dg_all m) (by rw [show (Tx (m : Int)).cps.toList = dg m from e]; exact dg_ne m) (by omega)
    rw [show (Tx (m : Int)).cps.toList = dg m from e, dg_val] at q
    exact q
  · have q := intText_neg (x := Tx (-((m + 1 : Nat) : Int))) e (dg_all _) (dg_ne _) (by omega)
    rw [dg_val] at q
    exact q
theorem Tx_inj {n k : Int} (h : Tx n = Tx k) (hn : n.natAbs < 10 ^ 31) : n = k := by
  have a := Tx_reads (n := n) (by have := Tx_len hn; omega)
  have b := Tx_reads (n := k) (by rw [← h]; have := Tx_len hn; omega)
  rw [h, b] at a
  exact (Option.some.inj a).symm
/-- a word that can be a number -/
def minus : Str := Str.ofString "-"
def okNum (w : Str) : Bool := !(decide (31 < (Txt.removeprefix w minus).length) || !Txt.isascii (Txt.removeprefix w minus) || !Txt.isdigit (Txt.removeprefix w minus))
def bare (l : List Nat) : List Nat := match l with
  | 45 :: r => r
  | l => l
theorem bare_is (w : Str) : L (Txt.removeprefix w minus) = bare (L w) := by
  rw [StrLaws.removeprefix_eq]
  have e1 : minus.length = 1 := by decide +kernel
  have e2 : minus.cps.toList = [45] := by decide +kernel
  have hl := L_len w
  have hd : Builtin.Str.subAt w minus 0 = (((L w).drop 0).take 1 == [45]) := by rw [StrLaws.subAt_eq, e1, e2]
  rw [hd, e1]
  generalize hw : L w = l at hl
  rw [show w.cps.toList = l from hw]
  unfold bare
  cases l with
  | nil =>
    rw [List.length_nil] at hl
    rw [if_neg (by rw [decide_eq_false (by omega)]; simp)]
    exact hw
  | cons c r =>
    rw [List.length_cons] at hl
    by_cases hc : c = 45
    · subst hc
      rw [if_pos (by rw [decide_eq_true (by omega)]; rfl)]
      show ((List.drop 1 (45 :: r)).take (w.length - 1)).toArray.toList = r
      rw [List.drop_one, List.tail_cons, List.take_of_length_le (by omega)]
    · rw [if_neg (by simp [hc])]
      rw [hw]
      split
      · rename_i heq
        exact absurd (List.cons.inj heq).1 hc
      · rfl
theorem digit_low : ∀ c, c < 128 → Unicode.isDigit c = (decide (48 ≤ c) && decide (c ≤ 57)) := by decide +kernel
theorem okNum_iff (w : Str) : okNum w = true ↔ (bare (L w)).length ≤ 31 ∧ bare (L w) ≠ [] ∧ AllDigits (bare (L w)) := by
  unfold okNum
  have hl := L_len (Txt.removeprefix w minus)
  have e := bare_is w
  generalize Txt.removeprefix w minus = d at hl e
  rw [e] at hl
  have ea : Txt.isascii d = (bare (L w)).all (· < 128) := by
    unfold Txt.isascii
    rw [← Array.all_toList]
    show (L d).all _ = _
    rw [e]
  have ed : Txt.isdigit d = (decide (d.length > 0) && (bare (L w)).all Unicode.isDigit) := by
    unfold Txt.isdigit
    rw [← Array.all_toList]
    show (_ && (L d).all _) = _
    rw [e]
  rw [ea, ed, ← hl]
  generalize bare (L w) = l
  simp only [Bool.not_eq_true', Bool.or_eq_false_iff, Bool.not_eq_false', decide_eq_false_iff_not, Bool.and_eq_true, decide_eq_true_eq, List.all_eq_true]
  constructor
  · rintro ⟨⟨h1, h2⟩, h3, h4⟩
    refine ⟨by omega, fun z => by rw [z] at h3; simp at h3, fun c hc => ?_⟩
    have a := digit_low c (h2 c hc)
    rw [h4 c hc] at a
    have a := a.symm
    simp only [Bool.and_eq_true, decide_eq_true_eq] at a
    exact a
  · rintro ⟨h1, h2, h3⟩
    refine ⟨⟨by omega, fun c hc => by have := h3 c hc; omega⟩, ?_, fun c hc => ?_⟩
    · have := List.length_pos_iff.mpr h2; omega
    · have := h3 c hc
      rw [digit_low c (by omega)]
      simp only [Bool.and_eq_true, decide_eq_true_eq]
      exact this
theorem bare_digits {l : List Nat} (h : AllDigits l) : bare l = l := by
  unfold bare
  split
  · have := h 45 (List.mem_cons_self ..)
    omega
  · rfl
theorem okNum_Tx {n : Int} (h : n.natAbs < 10 ^ 31) : okNum (Tx n) = true := by
  rw [okNum_iff]
  rcases Tx_cases n with ⟨m, rfl, e⟩ | ⟨m, rfl, e⟩
  · rw [e, bare_digits (dg_all m)]
    exact ⟨dg_len (by decide) (by omega), dg_ne m, dg_all m⟩
  · rw [e]
    exact ⟨dg_len (m := m + 1) (by decide) (by omega), dg_ne _, dg_all _⟩
/-- such a word is read -/
theorem okNum_reads {w : Str} (h : okNum w = true) : w.length ≤ 32 ∧ ∃ n, intText? w = some n := by
  obtain ⟨h1, h2, h3⟩ := (okNum_iff w).mp h
  have hl := L_len w
  generalize hw : L w = l at h1 h2 h3 hl
  cases l with
  | nil => exact absurd rfl h2
  | cons c r =>
    by_cases hc : c = 45
    · subst hc
      have h1' : r.length ≤ 31 := h1
      rw [List.length_cons] at hl
      exact ⟨by omega, _, intText_neg (x := w) hw h3 h2 (by omega)⟩
    · have eb : bare (c :: r) = c :: r := by
        unfold bare
        split
        · rename_i heq
          exact absurd (List.cons.inj heq).1 hc
        · rfl
      rw [eb] at h1 h2 h3
      exact ⟨by omega, _, intText_digits (x := w) (by rw [show w.cps.toList = c :: r from hw]; exact h3) (by rw [show w.cps.toList = c :: r from hw]; exact h2) (by omega)⟩
/-- the number that a word is -/
def numS (w : Str) : Option Int := if okNum w = true then (match intText? w with
  | some n => if Tx n = w then some n else none
  | none => none) else none
theorem numS_Tx {n : Int} (h : n.natAbs < 10 ^ 31) : numS (Tx n) = some n := by
  unfold numS
  rw [if_pos (okNum_Tx h), Tx_reads (by have := Tx_len h; omega)]
  exact if_pos rfl
theorem numS_some {w : Str} {n : Int} (h : numS w = some n) : Tx n = w := by
  unfold numS at h
  split at h
  · split at h
    · split at h
      · rename_i e
        cases h
        exact e
      · cases h
    · cases h
  · cases h
theorem numS_none {w : Str} (h : ∀ n, Tx n ≠ w) : numS w = none := by
  cases e : numS w with
  | none => rfl
  | some n => exact absurd (numS_some e) (h n)
/-! texts cut at one sign -/
def cutL (c : Nat) : List Nat → List (List Nat)
  | [] => [[]]
  | x :: r => if x = c then [] :: cutL c r else match cutL c r with
    | p :: q => (x :: p) :: q
    | [] => [[x]]
theorem cutL_ne (c : Nat) : ∀ l, ∃ p q, cutL c l = p :: q
  | [] => ⟨[], [], rfl⟩
  | x :: r => by
    unfold cutL
    by_cases h : x = c
    · rw [if_pos h]; exact ⟨_, _, rfl⟩
    · rw [if_neg h]
      obtain ⟨p, q, e⟩ := cutL_ne c r
      rw [e]
      exact ⟨_, _, rfl⟩
theorem cutL_free {c : Nat} {p : List Nat} (h : c ∉ p) : cutL c p = [p] := by
  induction p with
  | nil => rfl
  | cons x r ih =>
    unfold cutL
    rw [if_neg (fun z => h (by rw [z]; exact List.mem_cons_self ..)), ih fun z => h (List.mem_cons_of_mem _ z)]
theorem cutL_app (c : Nat) : ∀ a b, cutL c (a ++ c :: b) = cutL c a ++ cutL c b
  | [], b => by show cutL c (c :: b) = [] :: cutL c b; rw [cutL, if_pos rfl]
  | x :: r, b => by
    rw [List.cons_append, cutL, cutL, cutL_app c r b]
    obtain ⟨p, q, e⟩ := cutL_ne c r
    by_cases h : x = c
    · rw [if_pos h, if_pos h]; rfl
    · rw [if_neg h, if_neg h, e]; rfl
def glueL (c : Nat) : List (List Nat) → List Nat
  | [] => []
  | [x] => x
  | x :: r => x ++ c :: glueL c r
theorem cut_glue {c : Nat} : ∀ {ps : List (List Nat)}, ps ≠ [] → (∀ p ∈ ps, c ∉ p) → cutL c (glueL c ps) = ps
  | [], h, _ => absurd rfl h
  | [x], _, h => cutL_free (h x (List.mem_singleton.mpr rfl))
  | x :: y :: r, _, h => by
    rw [glueL, cutL_app, cut_glue (by simp) fun p hp => h p (List.mem_cons_of_mem _ hp), cutL_free (h x (List.mem_cons_self ..))]
    · rfl
    · intro z; cases z
theorem L_join (c : Nat) : ∀ ys : List Str, L (Str.join ⟨#[c]⟩ ys) = glueL c (ys.map L)
  | [] => rfl
  | [x] => rfl
  | x :: y :: r => by
    show L (x ++ ⟨#[c]⟩ ++ Str.join ⟨#[c]⟩ (y :: r)) = _
    rw [L_app, L_app, L_join c (y :: r)]
    show (L x ++ [c]) ++ glueL c (L y :: r.map L) = L x ++ c :: glueL c (L y :: r.map L)
    rw [List.append_assoc]
    rfl
theorem txt_join (c : Nat) (ys : List Str) : Txt.join ⟨#[c]⟩ ys = Str.join ⟨#[c]⟩ ys := StrLaws.glued_eq_join _ _
theorem split_ne (x y : Str) : Txt.split x y ≠ [] := by
  intro z
  have := PyProof.Rows.split_pos x y
  rw [z] at this
  exact absurd this (by decide)
theorem split_is (x : Str) (c : Nat) : (Txt.split x ⟨#[c]⟩).map L = cutL c (L x) := by
  have h := StrLaws.join_split x ⟨#[c]⟩
  have e : L x = glueL c ((Txt.split x ⟨#[c]⟩).map L) := by rw [← L_join, h]
  rw [e, cut_glue]
  · exact fun z => split_ne x _ (List.map_eq_nil_iff.mp z)
  · intro p hp
    obtain ⟨q, hq, rfl⟩ := List.mem_map.mp hp
    exact StrLaws.split_free x c q hq
theorem map_L_inj : ∀ {a b : List Str}, a.map L = b.map L → a = b
  | [], [], _ => rfl
  | [], _ :: _, h => nomatch h
  | _ :: _, [], h => nomatch h
  | x :: a, y :: b, h => by
    rw [List.map_cons, List.map_cons] at h
    injection h with h1 h2
    rw [str_ext h1, map_L_inj h2]
theorem split_join {c : Nat} {ys : List Str} (hne : ys ≠ []) (h : ∀ y ∈ ys, c ∉ L y) : Txt.split (Txt.join ⟨#[c]⟩ ys) ⟨#[c]⟩ = ys := by
  apply map_L_inj
  rw [split_is, txt_join, L_join, cut_glue (fun z => hne (List.map_eq_nil_iff.mp z))]
  intro p hp
  obtain ⟨q, hq, rfl⟩ := List.mem_map.mp hp
  exact h q hq
/-! words -/
def wordsL (l : List Nat) : List (List Nat) := (cutL 32 l).filter fun w => decide (w ≠ [])
theorem wordsL_app (a b : List Nat) : wordsL (a ++ 32 :: b) = wordsL a ++ wordsL b := by
  unfold wordsL
  rw [cutL_app, List.filter_append]
theorem wordsL_nil : wordsL [] = [] := rfl
theorem wordsL_word {w : List Nat} (h : 32 ∉ w) (hne : w ≠ []) : wordsL w = [w] := by
  unfold wordsL
  rw [cutL_free h]
  exact List.filter_cons_of_pos (by simpa using hne)
theorem wordsL_sp (l : List Nat) : ∀ k, wordsL (List.replicate k 32 ++ l) = wordsL l
  | 0 => rfl
  | k + 1 => by
    rw [List.replicate_succ, List.cons_append]
    exact (wordsL_app [] _).trans (wordsL_sp l k)
theorem wordsL_end (l : List Nat) : ∀ k, wordsL (l ++ List.replicate k 32) = wordsL l
  | 0 => by rw [List.replicate_zero, List.append_nil]
  | k + 1 => by
    rw [List.replicate_succ, wordsL_app]
    have := wordsL_sp [] k
    rw [List.append_nil] at this
    rw [this, wordsL_nil, List.append_nil]
theorem wordsL_mid (a b : List Nat) (k : Nat) : wordsL (a ++ (List.replicate (k + 1) 32 ++ b)) = wordsL a ++ wordsL b := by
  rw [List.replicate_succ, List.cons_append, wordsL_app, wordsL_sp]
theorem wordsL_glue : ∀ {ws : List (List Nat)}, (∀ w ∈ ws, 32 ∉ w ∧ w ≠ []) → wordsL (glueL 32 ws) = ws
  | [], _ => rfl
  | [w], h => wordsL_word (h w (List.mem_singleton.mpr rfl)).1 (h w (List.mem_singleton.mpr rfl)).2
  | w :: x :: r, h => by
    rw [glueL, wordsL_app, wordsL_glue fun p hp => h p (List.mem_cons_of_mem _ hp), wordsL_word (h w (List.mem_cons_self ..)).1 (h w (List.mem_cons_self ..)).2]
    · rfl
    · intro z; cases z
def sp32 : Str := ⟨#[32]⟩
def wordsS (x : Str) : List Str := (Txt.split x sp32).filter fun w => !(w.length == 0)
theorem wordsS_is (x : Str) : (wordsS x).map L = wordsL (L x) := by
  unfold wordsS wordsL
  rw [← split_is, List.filter_map]
  congr 1
  apply List.filter_congr
  intro w _
  have h := L_len w
  show (!(w.length == 0)) = decide (L w ≠ [])
  cases e : L w with
  | nil => rw [e] at h; rw [← h]; rfl
  | cons c r => rw [e] at h; rw [← h]; simp
/-- trailing spaces taken off -/
theorem rstrip_is (x : Str) : ∃ t, L x = L (Txt.rstrip x) ++ t ∧ ∀ c ∈ t, Unicode.isSpace c = true := by
  have hl := L_len x
  obtain ⟨t, ht⟩ : ∃ t, t = (L x).reverse.takeWhile Unicode.isSpace := ⟨_, rfl⟩
  have hpre : t <+: (L x).reverse := by rw [ht]; exact List.takeWhile_prefix _
  obtain ⟨u, hu⟩ := hpre
  have ex : L x = u.reverse ++ t.reverse := by rw [← List.reverse_append, hu, List.reverse_reverse]
  have hlen : (L x).length = u.length + t.length := by rw [ex]; simp
  have er : L (stripped Unicode.isSpace false true x) = u.reverse := by
    unfold stripped stripLo stripHi
    rw [if_neg Bool.false_ne_true, if_pos rfl, List.drop_zero, ← ht]
    show (Builtin.Str.strSub x 0 (x.length - t.length)).cps.toList = _
    rw [StrLaws.strSub_toList, List.drop_zero]
    show (L x).take _ = _
    rw [ex, List.take_append_of_le_length (by rw [List.length_reverse]; omega)]
    exact List.take_of_length_le (by rw [List.length_reverse]; omega)
  have ec : L (Txt.rstrip x) = u.reverse := by
    unfold Txt.rstrip Txt.stripBy
    by_cases hs : stripSame Unicode.isSpace false true x = true
    · rw [if_pos hs]
      unfold stripSame stripLo stripHi at hs
      rw [if_neg Bool.false_ne_true, if_pos rfl, List.drop_zero, ← ht] at hs
      simp only [Bool.and_eq_true, beq_iff_eq] at hs
      have t0 : t = [] := by
        cases t with
        | nil => rfl
        | cons c r => rw [List.length_cons] at hs hlen; omega
      rw [ex, t0]
      simp
    · rw [if_neg hs]; exact er
  refine ⟨t.reverse, by rw [ec]; exact ex, fun c hc => ?_⟩
  have hc' := List.mem_reverse.mp hc
  rw [ht] at hc'
  have := List.all_takeWhile (l := (L x).reverse) (p := Unicode.isSpace)
  exact List.all_eq_true.mp this c hc'
theorem all_rep : ∀ {t : List Nat}, (∀ c ∈ t, c = 32) → t = List.replicate t.length 32
  | [], _ => rfl
  | c :: r, h => by rw [List.length_cons, List.replicate_succ, ← all_rep fun d hd => h d (List.mem_cons_of_mem _ hd), h c (List.mem_cons_self ..)]
theorem rstrip_words {x : Str} (h : ∀ c ∈ L x, Unicode.isSpace c = true → c = 32) : wordsL (L (Txt.rstrip x)) = wordsL (L x) := by
  obtain ⟨t, e, ht⟩ := rstrip_is x
  have et : t = List.replicate t.length 32 := all_rep fun c hc => h c (by rw [e]; exact List.mem_append_right _ hc) (ht c hc)
  rw [e, et, wordsL_end]
end SR

set_option Elab.async false
set_option linter.all false
set_option maxRecDepth 100000
set_option maxHeartbeats 4000000
/-! A summary's text, and what is read from a text. -/
namespace SR
open PySem PySem.NumText
def nl10 : Str := ⟨#[10]⟩
def countW : Str := Str.ofString "count"
def headS (n : Int) : Str := Str.ofString "count " ++ Tx n
def lineS (e : Ent) : Str := Tx e.1 ++ sp32 ++ Tx e.2.1 ++ sp32 ++ Tx e.2.2
def rowsS (n : Int) (es : List Ent) : List Str := headS n :: es.map lineS
def textS (n : Int) (es : List Ent) : Str := Txt.join nl10 (rowsS n es)
/-- where a text is refused -/
abbrev Rf := Int × Int
def numAt (line : Int) (ws : List Str) (k : Nat) (a b : Int) : Except Rf Int := match (ws[k - 1]?).bind numS with
  | some n => if a ≤ n ∧ n ≤ b then .ok n else .error (line, (k : Int))
  | none => .error (line, (k : Int))
def endAt (line : Int) (ws : List Str) (k : Nat) : Except Rf Unit := if k < ws.length then .error (line, (k : Int) + 1) else .ok ()
def readCount (ws : List Str) : Except Rf Int := if ws.take 1 = [countW] then
    match numAt 1 ws 2 1 (10 ^ 30) with
    | .ok n => match endAt 1 ws 2 with
      | .ok _ => .ok n
      | .error r => .error r
    | .error r => .error r
  else .error (1, 1)
def readEntry (line : Int) (ws : List Str) (least many : Int) : Except Rf Ent := match numAt line ws 1 least (10 ^ 30) with
  | .error r => .error r
  | .ok v => match numAt line ws 2 1 many with
    | .error r => .error r
    | .ok a => match numAt line ws 3 a many with
      | .error r => .error r
      | .ok b => match endAt line ws 3 with
        | .error r => .error r
        | .ok _ => .ok (v, a, b)
def leastOf (es : List Ent) : Int := match es.getLast? with
  | some e => e.1
  | none => -10 ^ 30
def readRest (many : Int) : List Str → Int → List Ent → Except Rf (List Ent)
  | [], _, es => .ok es
  | s :: r, line, es => if es.length = 12 then .error (line, 1) else match readEntry line (wordsS s) (leastOf es) many with
    | .error z => .error z
    | .ok e => readRest many r (line + 1) (es ++ [e])
def readS (t : Str) : Except Rf (Int × List Ent) := match Txt.split t nl10 with
  | [] => .error (1, 1)
  | s :: r => match readCount (wordsS s) with
    | .error z => .error z
    | .ok n => match readRest n r 2 [] with
      | .error z => .error z
      | .ok es => .ok (n, es)
theorem small31 {v : Int} (h1 : -10 ^ 30 ≤ v) (h2 : v ≤ 10 ^ 30) : v.natAbs < 10 ^ 31 := by
  have a : ((v.natAbs : Nat) : Int) ≤ 10 ^ 30 := by omega
  have b : (10 : Int) ^ 30 < ((10 ^ 31 : Nat) : Int) := by decide
  omega
theorem numAt_ok {line : Int} {ws : List Str} {k : Nat} {a b n : Int} (h : ws[k - 1]? = some (Tx n)) (hn : n.natAbs < 10 ^ 31) (h1 : a ≤ n) (h2 : n ≤ b) : numAt line ws k a b = .ok n := by
  unfold numAt
  rw [h, Option.bind_some, numS_Tx hn]
  exact if_pos ⟨h1, h2⟩
theorem readCount_ok {n : Int} (h1 : 1 ≤ n) (h2 : n ≤ 10 ^ 30) : readCount [countW, Tx n] = .ok n := by
  unfold readCount
  rw [if_pos (show List.take 1 [countW, Tx n] = [countW] from rfl), numAt_ok (n := n) rfl (small31 (by omega) h2) h1 h2]
  rfl
theorem readEntry_ok {line least many : Int} {e : Ent} (hm : many ≤ 10 ^ 30) (h0 : -10 ^ 30 ≤ least) (h1 : least ≤ e.1) (h2 : e.1 ≤ 10 ^ 30) (h3 : 1 ≤ e.2.1) (h4 : e.2.1 ≤ e.2.2) (h5 : e.2.2 ≤ many) :
    readEntry line [Tx e.1, Tx e.2.1, Tx e.2.2] least many = .ok e := by
  unfold readEntry
  rw [numAt_ok (n := e.1) rfl (small31 (by omega) h2) h1 h2]
  show (match numAt line _ 2 1 many with | .error r => _ | .ok a => _) = _
  rw [numAt_ok (n := e.2.1) rfl (small31 (by omega) (by omega)) h3 (by omega)]
  show (match numAt line _ 3 e.2.1 many with | .error r => _ | .ok a => _) = _
  rw [numAt_ok (n := e.2.2) rfl (small31 (by omega) (by omega)) h4 h5]
  rfl
/-- the words of the lines of a summary's text -/
structure RowW (s : Str) (e : Ent) : Prop where
  ws : wordsS s = [Tx e.1, Tx e.2.1, Tx e.2.2]
theorem leastOf_lt {es : List Ent} {k : Nat} (hk : k < es.length) (h : 0 < k) : leastOf (es.take k) = vl es (k - 1) := by
  unfold leastOf
  have e : (es.take k).getLast? = es[k - 1]? := by
    rw [List.getLast?_eq_getElem?, List.length_take, List.getElem?_take, show min k es.length - 1 = k - 1 by omega, if_pos (by omega)]
  rw [e]
  have e2 : es[k - 1]? = some (es[k - 1]'(by omega)) := List.getElem?_eq_getElem (by omega)
  rw [e2, vl_of e2]
theorem readRest_ok {many : Int} {es : List Ent} (hv : Valid many es) : ∀ (ss : List Str) (k : Nat), k + ss.length = es.length → (∀ i, (h : i < ss.length) → ∃ e, es[k + i]? = some e ∧ wordsS ss[i] = [Tx e.1, Tx e.2.1, Tx e.2.2]) → ∀ line, readRest many ss line (es.take k) = .ok es
  | [], k, hk, _, line => by
    rw [List.length_nil] at hk
    unfold readRest
    rw [List.take_of_length_le (by omega)]
  | s :: r, k, hk, hw, line => by
    rw [List.length_cons] at hk
    have hl := hv.len
    obtain ⟨e, he, ew⟩ := hw 0 (by simp)
    rw [Nat.add_zero] at he
    rw [List.getElem_cons_zero] at ew
    have hkl : k < es.length := by omega
    have hent := hv.ent k hkl
    rw [vl_of he, lo_of he, hi_of he] at hent
    obtain ⟨h1, h2, h3, h4, h5⟩ := hent
    have hle : -10 ^ 30 ≤ leastOf (es.take k) ∧ leastOf (es.take k) ≤ e.1 := by
      by_cases k0 : 0 < k
      · rw [leastOf_lt hkl k0]
        have a := hv.asc (k - 1) (by omega)
        rw [show k - 1 + 1 = k by omega, vl_of he] at a
        exact ⟨(hv.ent (k - 1) (by omega)).1, a⟩
      · have : k = 0 := by omega
        subst this
        exact ⟨Int.le_refl _, h1⟩
    unfold readRest
    rw [if_neg (by rw [List.length_take]; omega), ew, readEntry_ok hv.n2 hle.1 hle.2 h2 h3 h4 h5]
    show readRest many r (line + 1) (es.take k ++ [e]) = _
    have et : es.take k ++ [e] = es.take (k + 1) := by rw [List.take_add_one, he]; rfl
    rw [et]
    refine readRest_ok hv r (k + 1) (by omega) (fun i hi => ?_) (line + 1)
    obtain ⟨e', h', w'⟩ := hw (i + 1) (by simp; omega)
    exact ⟨e', by rw [← h']; congr 1; omega, by rw [← w']; rfl⟩
/-- a text whose lines have the words of the summary's text is read as the summary -/
theorem readS_ok {n : Int} {es : List Ent} {t s : Str} {r : List Str} (hv : Valid n es) (ht : Txt.split t nl10 = s :: r) (h0 : wordsS s = [countW, Tx n]) (hl : r.length = es.length)
    (hw : ∀ i, (h : i < r.length) → ∃ e, es[i]? = some e ∧ wordsS r[i] = [Tx e.1, Tx e.2.1, Tx e.2.2]) : readS t = .ok (n, es) := by
  unfold readS
  rw [ht]
  show (match readCount (wordsS s) with | .error z => _ | .ok n => _) = _
  rw [h0, readCount_ok hv.n1 hv.n2]
  show (match readRest n r 2 [] with | .error z => _ | .ok es => _) = _
  have := readRest_ok hv r 0 (by omega) (fun i hi => by rw [Nat.zero_add]; exact hw i hi) 2
  rw [List.take_zero] at this
  rw [this]
/-! the words of the rows -/
theorem L_sp : L sp32 = [32] := rfl
theorem L_count : L (Str.ofString "count ") = [99, 111, 117, 110, 116, 32] := by decide +kernel
theorem L_countW : L countW = [99, 111, 117, 110, 116] := by decide +kernel
theorem Tx_no {n : Int} {c : Nat} (h : c < 45) : c ∉ L (Tx n) := fun hc => by have := Tx_signs n c hc; omega
theorem L_head (n : Int) : L (headS n) = [99, 111, 117, 110, 116] ++ 32 :: L (Tx n) := by
  unfold headS
  rw [L_app, L_count]
  rfl
theorem L_line (e : Ent) : L (lineS e) = L (Tx e.1) ++ 32 :: (L (Tx e.2.1) ++ 32 :: L (Tx e.2.2)) := by
  unfold lineS
  rw [L_app, L_app, L_app, L_app, L_sp]
  simp
theorem words_head {s : Str} {n : Int} (h : wordsL (L s) = [L countW, L (Tx n)]) : wordsS s = [countW, Tx n] := map_L_inj (by rw [wordsS_is, h]; rfl)
theorem words_line {s : Str} {e : Ent} (h : wordsL (L s) = [L (Tx e.1), L (Tx e.2.1), L (Tx e.2.2)]) : wordsS s = [Tx e.1, Tx e.2.1, Tx e.2.2] := map_L_inj (by rw [wordsS_is, h]; rfl)
theorem wordsL_Tx (n : Int) : wordsL (L (Tx n)) = [L (Tx n)] := wordsL_word (Tx_no (by decide)) (Tx_ne n)
theorem wordsL_count : wordsL (L countW) = [L countW] := wordsL_word (by rw [L_countW]; decide) (by rw [L_countW]; decide)
theorem head_words (n : Int) : wordsS (headS n) = [countW, Tx n] := words_head (by rw [L_head, wordsL_app, wordsL_Tx, ← L_countW, wordsL_count]; rfl)
theorem line_words (e : Ent) : wordsS (lineS e) = [Tx e.1, Tx e.2.1, Tx e.2.2] := words_line (by rw [L_line, wordsL_app, wordsL_app, wordsL_Tx, wordsL_Tx, wordsL_Tx]; rfl)
theorem head_no (n : Int) : 10 ∉ L (headS n) := by
  rw [L_head]
  intro h
  rcases List.mem_append.mp h with h | h
  · revert h; decide
  · rcases List.mem_cons.mp h with h | h
    · exact absurd h (by decide)
    · exact Tx_no (by decide) h
theorem line_no (e : Ent) : 10 ∉ L (lineS e) := by
  rw [L_line]
  intro h
  rcases List.mem_append.mp h with h | h
  · exact Tx_no (by decide) h
  rcases List.mem_cons.mp h with h | h
  · exact absurd h (by decide)
  rcases List.mem_append.mp h with h | h
  · exact Tx_no (by decide) h
  rcases List.mem_cons.mp h with h | h
  · exact absurd h (by decide)
  · exact Tx_no (by decide) h
theorem rows_split (n : Int) (es : List Ent) : Txt.split (textS n es) nl10 = rowsS n es := by
  refine split_join (by unfold rowsS; simp) fun y hy => ?_
  rcases List.mem_cons.mp hy with rfl | hy
  · exact head_no n
  · obtain ⟨e, _, rfl⟩ := List.mem_map.mp hy
    exact line_no e
theorem textS_reads {n : Int} {es : List Ent} (hv : Valid n es) : readS (textS n es) = .ok (n, es) := by
  refine readS_ok hv (rows_split n es) (head_words n) (List.length_map ..) fun i hi => ?_
  rw [List.length_map] at hi
  refine ⟨es[i], List.getElem?_eq_getElem hi, ?_⟩
  rw [List.getElem_map]
  exact line_words _
end SR

set_option Elab.async false
set_option linter.all false
set_option maxRecDepth 100000
set_option maxHeartbeats 4000000
/-! What is read is a summary; numbers read are small; rows are short. -/
namespace SR
open PySem PySem.NumText
theorem digitsVal_lt : ∀ (k : Nat) (cs : List Nat), cs.length = k → AllDigits cs → digitsVal cs < 10 ^ k
  | 0, cs, hl, _ => by
    rw [List.length_eq_zero_iff.mp hl]
    decide
  | k + 1, cs, hl, h => by
    have hne : cs ≠ [] := by intro e; rw [e] at hl; simp at hl
    have e := List.dropLast_concat_getLast hne
    generalize cs.dropLast = ini at e
    generalize cs.getLast hne = c at e
    subst e
    have hc : 48 ≤ c ∧ c ≤ 57 := h c (List.mem_append_right _ (List.mem_singleton.mpr rfl))
    have ih := digitsVal_lt k ini (by rw [List.length_append, List.length_singleton] at hl; omega) fun d hd => h d (List.mem_append_left _ hd)
    rw [digitsVal_snoc, Nat.pow_succ]
    omega
theorem okNum_num {w : Str} (h : okNum w = true) : w.length ≤ 32 ∧ ∃ n, intText? w = some n ∧ n.natAbs < 10 ^ 31 := by
  obtain ⟨h1, h2, h3⟩ := (okNum_iff w).mp h
  have hl := L_len w
  have le31 : ∀ cs : List Nat, cs.length ≤ 31 → AllDigits cs → digitsVal cs < 10 ^ 31 := fun cs a b =>
    Nat.lt_of_lt_of_le (digitsVal_lt cs.length cs rfl b) (Nat.pow_le_pow_right (by decide) a)
  generalize hw : L w = l at h1 h2 h3 hl
  cases l with
  | nil => exact absurd rfl h2
  | cons c r =>
    by_cases hc : c = 45
    · subst hc
      have h1' : r.length ≤ 31 := h1
      rw [List.length_cons] at hl
      refine ⟨by omega, _, intText_neg (x := w) hw h3 h2 (by omega), ?_⟩
      have := le31 r h1' h3
      rw [Int.natAbs_neg]
      exact this
    · have eb : bare (c :: r) = c :: r := by
        unfold bare
        split
        · rename_i heq
          exact absurd (List.cons.inj heq).1 hc
        · rfl
      rw [eb] at h1 h2 h3
      refine ⟨by omega, _, intText_digits (x := w) (by rw [show w.cps.toList = c :: r from hw]; exact h3) (by rw [show w.cps.toList = c :: r from hw]; exact h2) (by omega), ?_⟩
      rw [show w.cps.toList = c :: r from hw]
      exact le31 _ h1 h3
theorem log31 {n : Nat} (h : n < 10 ^ 31) : n.log2 < 1920 := by
  by_cases h0 : n = 0
  · rw [h0]; decide
  · exact (Nat.log2_lt h0).mpr (Nat.lt_of_lt_of_le h (Nat.le_trans (show 10 ^ 31 ≤ 2 ^ 128 by decide) (Nat.pow_le_pow_right (by decide) (by decide))))
theorem numAt_bd {line : Int} {ws : List Str} {k : Nat} {a b n : Int} (h : numAt line ws k a b = .ok n) : a ≤ n ∧ n ≤ b := by
  unfold numAt at h
  split at h
  · split at h
    · rename_i c
      cases h
      exact c
    · cases h
  · cases h
theorem readCount_bd {ws : List Str} {n : Int} (h : readCount ws = .ok n) : 1 ≤ n ∧ n ≤ 10 ^ 30 := by
  unfold readCount at h
  split at h
  · split at h
    · rename_i m e
      split at h
      · cases h
        exact numAt_bd e
      · cases h
    · cases h
  · cases h
theorem readEntry_bd {line least many : Int} {ws : List Str} {e : Ent} (h : readEntry line ws least many = .ok e) : least ≤ e.1 ∧ e.1 ≤ 10 ^ 30 ∧ 1 ≤ e.2.1 ∧ e.2.1 ≤ e.2.2 ∧ e.2.2 ≤ many := by
  unfold readEntry at h
  split at h
  · cases h
  · rename_i v ev
    split at h
    · cases h
    · rename_i a ea
      split at h
      · cases h
      · rename_i b eb
        split at h
        · cases h
        · cases h
          have h1 := numAt_bd ev
          have h2 := numAt_bd ea
          have h3 := numAt_bd eb
          exact ⟨h1.1, h1.2, h2.1, h3.1, h3.2⟩
theorem vl_snoc {es : List Ent} {e : Ent} {j : Nat} (h : j < es.length) : (es ++ [e])[j]? = es[j]? := List.getElem?_append_left h
theorem Valid.snoc {n : Int} {es : List Ent} (v : Valid n es) {e : Ent} (h12 : es.length < 12) (h0 : leastOf es ≤ e.1) (h1 : e.1 ≤ 10 ^ 30) (h2 : 1 ≤ e.2.1) (h3 : e.2.1 ≤ e.2.2) (h4 : e.2.2 ≤ n) : Valid n (es ++ [e]) := by
  have le : ∀ j, j + 1 = es.length → leastOf es = vl es j := fun j hj => by
    have := leastOf_lt (es := es) (k := es.length - 1 + 1)
    unfold leastOf
    rw [List.getLast?_eq_getElem?, show es.length - 1 = j by omega]
    have e2 : es[j]? = some (es[j]'(by omega)) := List.getElem?_eq_getElem (by omega)
    rw [e2, vl_of e2]
  have last : (es ++ [e])[es.length]? = some e := by rw [List.getElem?_append_right (Nat.le_refl _), Nat.sub_self]; rfl
  have low : -10 ^ 30 ≤ e.1 := by
    by_cases hz : es.length = 0
    · have : es = [] := List.length_eq_zero_iff.mp hz
      subst this
      exact h0
    · have a := le (es.length - 1) (by omega)
      have b := v.ent (es.length - 1) (by omega)
      rw [a] at h0
      exact Int.le_trans b.1 h0
  refine ⟨v.n1, v.n2, by rw [List.length_append]; exact h12, fun j hj => ?_, fun j hj => ?_⟩
  · rw [List.length_append, List.length_singleton] at hj
    by_cases c : j < es.length
    · have a := v.ent j c
      have e2 : es[j]? = some (es[j]'c) := List.getElem?_eq_getElem c
      have e3 := vl_snoc (e := e) c
      rw [e2] at e3
      rw [vl_of e3, lo_of e3, hi_of e3]
      rw [vl_of e2, lo_of e2, hi_of e2] at a
      exact a
    · have : j = es.length := by omega
      subst this
      rw [vl_of last, lo_of last, hi_of last]
      exact ⟨low, h1, h2, h3, h4⟩
  · rw [List.length_append, List.length_singleton] at hj
    have c : j < es.length := by omega
    have e2 : es[j]? = some (es[j]'c) := List.getElem?_eq_getElem c
    have e3 := vl_snoc (e := e) c
    rw [e2] at e3
    by_cases c2 : j + 1 < es.length
    · have f2 : es[j + 1]? = some (es[j + 1]'c2) := List.getElem?_eq_getElem c2
      have f3 := vl_snoc (e := e) c2
      rw [f2] at f3
      have a := v.asc j c2
      rw [vl_of e3, vl_of f3]
      rw [vl_of e2, vl_of f2] at a
      exact a
    · have q : j + 1 = es.length := by omega
      rw [vl_of e3, q, vl_of last, ← vl_of e2, ← le j q]
      exact h0
theorem valid_nil {n : Int} (h1 : 1 ≤ n) (h2 : n ≤ 10 ^ 30) : Valid n [] := ⟨h1, h2, by decide, fun j hj => absurd hj (by simp), fun j hj => absurd hj (by simp)⟩
/-! lengths -/
theorem Tx_small {v : Int} (h1 : -10 ^ 30 ≤ v) (h2 : v ≤ 10 ^ 30) : (Tx v).length ≤ 32 := by
  rw [← L_len]
  exact Tx_len (small31 h1 h2)
theorem head_len {n : Int} (h1 : 1 ≤ n) (h2 : n ≤ 10 ^ 30) : (headS n).length ≤ 100 := by
  have := Tx_small (v := n) (by omega) h2
  unfold headS
  rw [Str.length_append, show (Str.ofString "count ").length = 6 by decide +kernel]
  omega
theorem line_len {n : Int} {es : List Ent} (hv : Valid n es) {j : Nat} {e : Ent} (h : es[j]? = some e) : (lineS e).length ≤ 100 ∧ (Tx e.1).length ≤ 32 ∧ (Tx e.2.1).length ≤ 32 ∧ (Tx e.2.2).length ≤ 32 := by
  have hj : j < es.length := (List.getElem?_eq_some_iff.mp h).1
  have a := hv.ent j hj
  rw [vl_of h, lo_of h, hi_of h] at a
  obtain ⟨a1, a2, a3, a4, a5⟩ := a
  have n2 := hv.n2
  have b1 := Tx_small a1 a2
  have b2 := Tx_small (v := e.2.1) (by omega) (by omega)
  have b3 := Tx_small (v := e.2.2) (by omega) (by omega)
  unfold lineS
  rw [Str.length_append, Str.length_append, Str.length_append, Str.length_append, show sp32.length = 1 by decide +kernel]
  omega
theorem rows_len {n : Int} {es : List Ent} (hv : Valid n es) : ∀ y ∈ rowsS n es, y.length ≤ 100 := fun y hy => by
  rcases List.mem_cons.mp hy with rfl | hy
  · exact head_len hv.n1 hv.n2
  · obtain ⟨e, he, rfl⟩ := List.mem_map.mp hy
    obtain ⟨j, hj⟩ := List.getElem?_of_mem he
    exact (line_len hv hj).1
theorem rows_sum {n : Int} {es : List Ent} (hv : Valid n es) : ((rowsS n es).map (·.length)).sum ≤ 1300 ∧ (rowsS n es).length ≤ 13 := by
  have a := StrLaws.sumLen_le (rowsS n es) (rows_len hv)
  have b : (rowsS n es).length ≤ 13 := by
    unfold rowsS
    rw [List.length_cons, List.length_map]
    have := hv.len
    omega
  have : (rowsS n es).length * 100 ≤ 13 * 100 := Nat.mul_le_mul_right _ b
  exact ⟨by omega, b⟩
theorem text_len {n : Int} {es : List Ent} (hv : Valid n es) : (textS n es).length ≤ 1400 := by
  obtain ⟨a, b⟩ := rows_sum hv
  unfold textS
  rw [show Txt.join nl10 (rowsS n es) = Str.join nl10 (rowsS n es) from txt_join 10 _]
  have := StrLaws.join_length_le nl10 (rowsS n es)
  rw [show nl10.length = 1 by decide +kernel] at this
  exact Nat.le_trans this (by omega)
theorem size1000 {n : Nat} (h : n ≤ 100000) : n ≤ sizeLine := by rw [sizeLine_eq]; omega
theorem log_w : True := trivial
theorem nlS : Str.ofString "\n" = nl10 := by decide +kernel
theorem spS : Str.ofString " " = sp32 := by decide +kernel

/-! lists of texts as data -/
open L2 in
theorem strs_dp {K : PySem.W.Frag} {H : Hp} : ∀ ws : List Str, DpAll K H (ws.map V.str) (ws.map PyData.str)
  | [] => .nil
  | w :: r => .cons (.str w) (strs_dp r)
theorem strs_lay : ∀ {ds : List PyData}, (∀ d ∈ ds, d.canLay0 = true ∧ d.depth ≤ 0) → (PyData.list ds).canLay0 = true ∧ (PyData.list ds).depth ≤ 1
  | [], _ => ⟨rfl, by show 0 + 1 ≤ 0 + 1; omega⟩
  | d :: ds, h => by
    have h1 := h d (List.mem_cons_self ..)
    have h2 := strs_lay (ds := ds) fun x hx => h x (List.mem_cons_of_mem _ hx)
    have a : PyData.canLayAll0 (d :: ds) = true := by
      show (d.canLay0 && PyData.canLayAll0 ds) = true
      rw [h1.1]
      exact h2.1
    refine ⟨a, ?_⟩
    show PyData.depthAll (d :: ds) + 1 ≤ 1
    have b : PyData.depthAll ds + 1 ≤ 1 := h2.2
    show max d.depth (PyData.depthAll ds) + 1 ≤ 1
    have := h1.2
    omega
theorem shaped_strs (ws : List Str) (h : ∀ w ∈ ws, PyData.strOk w = true) : SeqAt.shaped (.list (ws.map PyData.str)) = true := by
  refine shaped_of ?_
  have := strs_lay (ds := ws.map PyData.str) fun d hd => by
    obtain ⟨w, hw, rfl⟩ := List.mem_map.mp hd
    exact ⟨h w hw, Nat.le_refl _⟩
  exact ⟨this.1, Nat.le_trans this.2 (by decide)⟩
theorem eqv_str (a b : Str) : PyData.eqv (.str a) (.str b) = decide (a = b) := by
  show (a == b) = decide (a = b)
  by_cases h : a = b
  · subst h; simp
  · rw [decide_eq_false h]; exact beq_eq_false_iff_ne.mpr h
theorem eqv_strs : ∀ a b : List Str, PyData.eqv (.list (a.map PyData.str)) (.list (b.map PyData.str)) = decide (a = b)
  | [], [] => rfl
  | [], _ :: _ => rfl
  | _ :: _, [] => rfl
  | x :: a, y :: b => by
    have ih : PyData.eqvAll (a.map PyData.str) (b.map PyData.str) = decide (a = b) := eqv_strs a b
    show (PyData.eqv (.str x) (.str y) && PyData.eqvAll (a.map PyData.str) (b.map PyData.str)) = _
    rw [ih, eqv_str, ← Bool.decide_and]
    exact decide_eq_decide.mpr ⟨fun ⟨h1, h2⟩ => by rw [h1, h2], fun h => by injection h with h1 h2; exact ⟨h1, h2⟩⟩

theorem strOk_of {w : Str} : PyData.strOk w = true ↔ ∀ c ∈ L w, c < 0x110000 := by
  unfold PyData.strOk
  rw [← Array.all_toList, List.all_eq_true]
  exact ⟨fun h c hc => of_decide_eq_true (h c hc), fun h c hc => decide_eq_true (h c hc)⟩
theorem cutL_sub (c : Nat) : ∀ (l p : List Nat), p ∈ cutL c l → ∀ x ∈ p, x ∈ l
  | [], p, hp, x, hx => by
    rw [show cutL c [] = [[]] from rfl, List.mem_singleton] at hp
    rw [hp] at hx
    cases hx
  | y :: r, p, hp, x, hx => by
    unfold cutL at hp
    split at hp
    · rcases List.mem_cons.mp hp with e | hp
      · rw [e] at hx; cases hx
      · exact List.mem_cons_of_mem _ (cutL_sub c r p hp x hx)
    · obtain ⟨q, s, e⟩ := cutL_ne c r
      rw [e] at hp
      rcases List.mem_cons.mp hp with e2 | hp
      · rw [e2] at hx
        rcases List.mem_cons.mp hx with rfl | hx
        · exact List.mem_cons_self ..
        · exact List.mem_cons_of_mem _ (cutL_sub c r q (by rw [e]; exact List.mem_cons_self ..) x hx)
      · exact List.mem_cons_of_mem _ (cutL_sub c r p (by rw [e]; exact List.mem_cons_of_mem _ hp) x hx)
theorem split_ok {t : Str} {c : Nat} (h : PyData.strOk t = true) : ∀ w ∈ Txt.split t ⟨#[c]⟩, PyData.strOk w = true := fun w hw => strOk_of.mpr fun x hx =>
  strOk_of.mp h x (cutL_sub c (L t) (L w) (by rw [← split_is]; exact List.mem_map.mpr ⟨w, hw, rfl⟩) x hx)
theorem words_ok {t : Str} (h : PyData.strOk t = true) : ∀ w ∈ wordsS t, PyData.strOk w = true := fun w hw => split_ok h w (List.mem_filter.mp hw).1
theorem words_short {t : Str} : ∀ w ∈ wordsS t, w.length ≤ t.length := fun w hw => PyProof.Rows.part_short (x := t) (y := sp32) (a := w) (List.mem_filter.mp hw).1

section
variable {ws : List Str} {n : Int} {u : Unit} {r : Rf}
theorem readCount_1 (c : ws.take 1 = [countW]) (hn : numAt 1 ws 2 1 (10 ^ 30) = .ok n) (hu : endAt 1 ws 2 = .ok u) : readCount ws = .ok n := by
  unfold readCount; rw [if_pos c, hn]; dsimp only; rw [hu]
theorem readCount_2 (c : ws.take 1 = [countW]) (hn : numAt 1 ws 2 1 (10 ^ 30) = .ok n) (hu : endAt 1 ws 2 = .error r) : readCount ws = .error r := by
  unfold readCount; rw [if_pos c, hn]; dsimp only; rw [hu]
theorem readCount_3 (c : ws.take 1 = [countW]) (hn : numAt 1 ws 2 1 (10 ^ 30) = .error r) : readCount ws = .error r := by
  unfold readCount; rw [if_pos c, hn]
theorem readS_1 {t s : Str} {q : List Str} {es : List Ent} (h : Txt.split t nl10 = s :: q) (hn : readCount (wordsS s) = .ok n) (he : readRest n q 2 [] = .ok es) : readS t = .ok (n, es) := by
  unfold readS; rw [h]; dsimp only; rw [hn]; dsimp only; rw [he]
theorem readS_2 {t s : Str} {q : List Str} (h : Txt.split t nl10 = s :: q) (hn : readCount (wordsS s) = .ok n) (he : readRest n q 2 [] = .error r) : readS t = .error r := by
  unfold readS; rw [h]; dsimp only; rw [hn]; dsimp only; rw [he]
theorem readS_3 {t s : Str} {q : List Str} (h : Txt.split t nl10 = s :: q) (hn : readCount (wordsS s) = .error r) : readS t = .error r := by
  unfold readS; rw [h]; dsimp only; rw [hn]
theorem readRest_1 {s : Str} {q : List Str} {l : Int} {es : List Ent} (h : es.length = 12) : readRest n (s :: q) l es = .error (l, 1) := by
  unfold readRest; rw [if_pos h]
theorem readRest_2 {s : Str} {q : List Str} {l : Int} {es : List Ent} (h : es.length ≠ 12) (he : readEntry l (wordsS s) (leastOf es) n = .error r) : readRest n (s :: q) l es = .error r := by
  unfold readRest; rw [if_neg h, he]
theorem readRest_3 {s : Str} {q : List Str} {l : Int} {es : List Ent} {e : Ent} (h : es.length ≠ 12) (he : readEntry l (wordsS s) (leastOf es) n = .ok e) : readRest n (s :: q) l es = readRest n q (l + 1) (es ++ [e]) := by
  rw [readRest, if_neg h, he]
theorem leastOf_snoc {es : List Ent} {e : Ent} : leastOf (es ++ [e]) = e.1 := by
  unfold leastOf
  rw [List.getLast?_append]
  rfl
end
end SR

set_option Elab.async false
set_option linter.all false
set_option maxRecDepth 100000
set_option maxHeartbeats 4000000
/-! Rows written with further spaces. -/
namespace SR
open PySem PySem.NumText
/-- signs as they stand in rows: no line end, no other blank than the space -/
def PlainL (l : List Nat) : Prop := ∀ c ∈ l, c < 128 ∧ c ≠ 10 ∧ (Unicode.isSpace c = true → c = 32)
theorem space_low : ∀ c, c < 128 → (c = 32 ∨ c = 45 ∨ (48 ≤ c ∧ c ≤ 57) ∨ (97 ≤ c ∧ c ≤ 122)) → (Unicode.isSpace c = true → c = 32) := by decide +kernel
theorem plain_of {l : List Nat} (h : ∀ c ∈ l, c = 32 ∨ c = 45 ∨ (48 ≤ c ∧ c ≤ 57) ∨ (97 ≤ c ∧ c ≤ 122)) : PlainL l := fun c hc => by
  have := h c hc
  exact ⟨by omega, by omega, space_low c (by omega) this⟩
theorem plain_app {a b : List Nat} (ha : PlainL a) (hb : PlainL b) : PlainL (a ++ b) := fun c hc => (List.mem_append.mp hc).elim (ha c) (hb c)
theorem plain_rep (k : Nat) : PlainL (List.replicate k 32) := plain_of fun c hc => .inl (List.eq_of_mem_replicate hc)
theorem plain_Tx (n : Int) : PlainL (L (Tx n)) := plain_of fun c hc => (Tx_signs n c hc).elim (fun h => .inr (.inl h)) fun h => .inr (.inr (.inl h))
theorem plain_count : PlainL (L countW) := plain_of (by rw [L_countW]; decide)
theorem plain_sp : PlainL [32] := plain_rep 1
/-- a row: its words parted by one space each -/
structure RowS (row : Str) (ws : List Str) : Prop where
  sp : Txt.split row sp32 = ws
  wd : ∀ w ∈ ws, wordsL (L w) = [L w] ∧ PlainL (L w) ∧ w.length ≤ 32
  l3 : ws.length ≤ 3
theorem row_of {row : Str} {ws : List Str} (e : L row = glueL 32 (ws.map L)) (hne : ws ≠ []) (h : ∀ w ∈ ws, 32 ∉ L w ∧ L w ≠ [] ∧ PlainL (L w) ∧ w.length ≤ 32) (h3 : ws.length ≤ 3) : RowS row ws where
  sp := map_L_inj (by
    rw [show sp32 = ⟨#[32]⟩ from rfl, split_is, e, cut_glue (fun z => hne (List.map_eq_nil_iff.mp z))]
    intro p hp
    obtain ⟨q, hq, rfl⟩ := List.mem_map.mp hp
    exact (h q hq).1)
  wd := fun w hw => ⟨wordsL_word (h w hw).1 (h w hw).2.1, (h w hw).2.2⟩
  l3 := h3
theorem tx_word {n : Int} (h1 : -10 ^ 30 ≤ n) (h2 : n ≤ 10 ^ 30) : 32 ∉ L (Tx n) ∧ L (Tx n) ≠ [] ∧ PlainL (L (Tx n)) ∧ (Tx n).length ≤ 32 := ⟨Tx_no (by decide), Tx_ne n, plain_Tx n, Tx_small h1 h2⟩
theorem row_head {n : Int} (h1 : 1 ≤ n) (h2 : n ≤ 10 ^ 30) : RowS (headS n) [countW, Tx n] := by
  refine row_of (by rw [L_head, ← L_countW]; rfl) (by simp) (fun w hw => ?_) (by simp)
  rcases List.mem_cons.mp hw with rfl | hw
  · exact ⟨by rw [L_countW]; decide, by rw [L_countW]; decide, plain_count, by decide +kernel⟩
  · rw [List.mem_singleton.mp hw]; exact tx_word (by omega) h2
theorem row_line {n : Int} {e : Ent} (hn : n ≤ 10 ^ 30) (h1 : -10 ^ 30 ≤ e.1) (h2 : e.1 ≤ 10 ^ 30) (h3 : 1 ≤ e.2.1) (h4 : e.2.1 ≤ e.2.2) (h5 : e.2.2 ≤ n) : RowS (lineS e) [Tx e.1, Tx e.2.1, Tx e.2.2] := by
  refine row_of (by rw [L_line]; rfl) (by simp) (fun w hw => ?_) (by simp)
  rcases List.mem_cons.mp hw with rfl | hw
  · exact tx_word h1 h2
  rcases List.mem_cons.mp hw with rfl | hw
  · exact tx_word (by omega) (by omega)
  · rw [List.mem_singleton.mp hw]; exact tx_word (by omega) (by omega)
/-- what can be written behind A begins with a new word -/
def OpenL (A : List Nat) (ws : List (List Nat)) : Prop := ∀ x, wordsL (A ++ x) = ws ++ wordsL x
theorem open_sp (k : Nat) : OpenL (List.replicate k 32) [] := fun x => wordsL_sp x k
theorem OpenL.more {A : List Nat} {ws : List (List Nat)} (h : OpenL A ws) {w : List Nat} (hw : wordsL w = [w]) (k : Nat) : OpenL (A ++ w ++ List.replicate (k + 1) 32) (ws ++ [w]) := fun x => by
  rw [List.append_assoc, List.append_assoc, h, wordsL_mid, hw, List.append_assoc]
theorem OpenL.end_ {A : List Nat} {ws : List (List Nat)} (h : OpenL A ws) : wordsL A = ws := by
  have := h []
  rw [List.append_nil, wordsL_nil, List.append_nil] at this
  exact this
/-- the row as far as it is written: i words -/
structure LooseI (ws : List Str) (i : Nat) (y : Str) : Prop where
  op : OpenL (L y) ((ws.take i).map L)
  pl : PlainL (L y)
  ln : y.length ≤ 3 + i * 36
theorem LooseI.zero {ws : List Str} {y : Str} {k : Nat} (e : L y = List.replicate k 32) (hk : k ≤ 3) : LooseI ws 0 y where
  op := by rw [e]; exact open_sp k
  pl := by rw [e]; exact plain_rep k
  ln := by rw [← L_len, e, List.length_replicate]; omega
theorem LooseI.succ {ws : List Str} {i : Nat} {y w z : Str} {k : Nat} (h : LooseI ws i y) (hw : ws[i]? = some w) (o : wordsL (L w) = [L w] ∧ PlainL (L w) ∧ w.length ≤ 32) (e : L z = List.replicate (k + 1) 32) (hk : k ≤ 3) : LooseI ws (i + 1) (y ++ w ++ z) where
  op := by
    rw [L_app, L_app, e, List.take_add_one, hw, List.map_append]
    exact h.op.more o.1 k
  pl := by rw [L_app, L_app, e]; exact plain_app (plain_app h.pl o.2.1) (plain_rep _)
  ln := by
    have := h.ln
    have lz : z.length = k + 1 := by rw [← L_len, e, List.length_replicate]
    rw [Str.length_append, Str.length_append, lz]
    omega
/-- a row with the same words -/
structure LooseR (ws : List Str) (y : Str) : Prop where
  wd : wordsL (L y) = ws.map L
  pl : PlainL (L y)
  ln : y.length ≤ 200
theorem LooseI.full {ws : List Str} {y : Str} (h : LooseI ws ws.length y) (h3 : ws.length ≤ 3) : LooseR ws y where
  wd := by have := h.op.end_; rw [List.take_length] at this; exact this
  pl := h.pl
  ln := by have := h.ln; omega
theorem LooseR.strip {ws : List Str} {y : Str} (h : LooseR ws y) : LooseR ws (Txt.rstrip y) := by
  obtain ⟨t, e, ht⟩ := rstrip_is y
  refine ⟨by rw [rstrip_words fun c hc => (h.pl c hc).2.2]; exact h.wd, fun c hc => h.pl c (by rw [e]; exact List.mem_append_left _ hc), ?_⟩
  have a := congrArg List.length e
  rw [List.length_append] at a
  have b := L_len y
  have c := L_len (Txt.rstrip y)
  have d := h.ln
  omega
theorem LooseR.head {n : Int} {y : Str} (h : LooseR [countW, Tx n] y) : wordsS y = [countW, Tx n] := words_head h.wd
theorem LooseR.line {e : Ent} {y : Str} (h : LooseR [Tx e.1, Tx e.2.1, Tx e.2.2] y) : wordsS y = [Tx e.1, Tx e.2.1, Tx e.2.2] := words_line h.wd
theorem LooseR.no {ws : List Str} {y : Str} (h : LooseR ws y) : 10 ∉ L y := fun hc => (h.pl 10 hc).2.1 rfl
theorem LooseR.ok {ws : List Str} {y : Str} (h : LooseR ws y) : PyData.strOk y = true := strOk_of.mpr fun c hc => by have := (h.pl c hc).1; omega
/-- the words of the rows of a summary -/
def rowWs (n : Int) (es : List Ent) : List (List Str) := [countW, Tx n] :: es.map fun e => [Tx e.1, Tx e.2.1, Tx e.2.2]
theorem rows_row {n : Int} {es : List Ent} (hv : Valid n es) {i : Nat} {y : Str} (h : (rowsS n es)[i]? = some y) : ∃ ws, (rowWs n es)[i]? = some ws ∧ RowS y ws := by
  cases i with
  | zero =>
    cases h
    exact ⟨_, rfl, row_head hv.n1 hv.n2⟩
  | succ j =>
    have h' : (es.map lineS)[j]? = some y := h
    rw [List.getElem?_map] at h'
    cases e : es[j]? with
    | none => rw [e] at h'; cases h'
    | some x =>
      rw [e] at h'
      cases h'
      have hj : j < es.length := (List.getElem?_eq_some_iff.mp e).1
      have a := hv.ent j hj
      rw [vl_of e, lo_of e, hi_of e] at a
      exact ⟨_, by show (es.map _)[j]? = _; rw [List.getElem?_map, e]; rfl, row_line hv.n2 a.1 a.2.1 a.2.2.1 a.2.2.2.1 a.2.2.2.2⟩
/-- rows with the same words are read as the summary -/
theorem loose_reads {n : Int} {es : List Ent} (hv : Valid n es) {ys : List Str} (hl : ys.length = es.length + 1) (h : ∀ (i : Nat) (y : Str), ys[i]? = some y → ∃ ws, (rowWs n es)[i]? = some ws ∧ LooseR ws y) : readS (Txt.join nl10 ys) = .ok (n, es) := by
  cases ys with
  | nil => simp at hl
  | cons s r =>
    rw [List.length_cons] at hl
    have hno : ∀ y ∈ s :: r, 10 ∉ L y := fun y hy => by
      obtain ⟨i, hi⟩ := List.getElem?_of_mem hy
      obtain ⟨ws, _, lw⟩ := h i y hi
      exact lw.no
    refine readS_ok hv (s := s) (r := r) (split_join (by simp) hno) ?_ (by omega) fun i hi => ?_
    · obtain ⟨ws, e, lw⟩ := h 0 s rfl
      cases e
      exact lw.head
    · obtain ⟨ws, e, lw⟩ := h (i + 1) r[i] (by rw [List.getElem?_cons_succ, List.getElem?_eq_getElem hi])
      have e' : (es.map fun e => [Tx e.1, Tx e.2.1, Tx e.2.2])[i]? = some ws := e
      rw [List.getElem?_map, List.getElem?_eq_getElem (show i < es.length by omega)] at e'
      cases e'
      exact ⟨_, List.getElem?_eq_getElem (by omega), lw.line⟩
theorem joined_ok {ys : List Str} (h : ∀ y ∈ ys, PyData.strOk y = true) : PyData.strOk (Txt.join nl10 ys) = true := strOk_of.mpr fun c hc => by
  rw [show Txt.join nl10 ys = Str.join nl10 ys from txt_join 10 _, show nl10 = ⟨#[10]⟩ from rfl, L_join] at hc
  have key : ∀ ps : List (List Nat), (∀ p ∈ ps, ∀ x ∈ p, x < 0x110000) → ∀ x ∈ glueL 10 ps, x < 0x110000 := by
    intro ps
    induction ps with
    | nil => intro _ x hx; cases hx
    | cons p r ih =>
      intro hp x hx
      cases r with
      | nil => exact hp p (List.mem_cons_self ..) x hx
      | cons q s =>
        rw [glueL] at hx
        · rcases List.mem_append.mp hx with hx | hx
          · exact hp p (List.mem_cons_self ..) x hx
          rcases List.mem_cons.mp hx with rfl | hx
          · decide
          · exact ih (fun p' hp' => hp p' (List.mem_cons_of_mem _ hp')) x hx
        · intro z; cases z
  refine key _ (fun p hp => ?_) c hc
  obtain ⟨y, hy, rfl⟩ := List.mem_map.mp hp
  exact strOk_of.mp (h y hy)
open L2 in
theorem at_vs {xs : List L2.V} {r : Int} (h0 : 0 ≤ r) (h1 : r < xs.length) : ∃ v, atI xs r = some v ∧ v ∈ xs := by
  have hl : r.toNat < xs.length := by omega
  exact ⟨xs[r.toNat], at_of (j := r.toNat) (by omega) (List.getElem?_eq_getElem hl), List.getElem_mem hl⟩
end SR

set_option Elab.async false
set_option linter.all false
set_option maxRecDepth 100000
set_option maxHeartbeats 4000000
/-! Texts with a fault: where they are refused. -/
namespace SR
open PySem PySem.NumText
/-- the words of a line that is written with one space between them -/
theorem words_of {s : Str} {ls : List (List Nat)} (e : L s = glueL 32 ls) (h : ∀ w ∈ ls, 32 ∉ w ∧ w ≠ []) : wordsS s = ls.map mkS := map_L_inj (by
  rw [wordsS_is, e, wordsL_glue h, List.map_map]
  exact (List.map_id ls).symm.trans (List.map_congr_left fun w _ => (L_mk w).symm))
theorem numAt_none {line : Int} {ws : List Str} {k : Nat} {a b : Int} (h : ws[k - 1]? = none) : numAt line ws k a b = .error (line, (k : Int)) := by
  unfold numAt; rw [h]; rfl
theorem numAt_bad {line : Int} {ws : List Str} {k : Nat} {a b : Int} {w : Str} (h : ws[k - 1]? = some w) (hn : numS w = none) : numAt line ws k a b = .error (line, (k : Int)) := by
  unfold numAt; rw [h, Option.bind_some, hn]
theorem numAt_out {line : Int} {ws : List Str} {k : Nat} {a b n : Int} (h : ws[k - 1]? = some (Tx n)) (hn : n.natAbs < 10 ^ 31) (o : ¬ (a ≤ n ∧ n ≤ b)) : numAt line ws k a b = .error (line, (k : Int)) := by
  unfold numAt; rw [h, Option.bind_some, numS_Tx hn]; exact if_neg o
/-- a number with a nought before it is none -/
theorem num_zero {n : Int} (h : 0 ≤ n) (hs : n.natAbs < 10 ^ 30) : numS (mkS (48 :: L (Tx n))) = none := by
  refine numS_none fun k e => ?_
  obtain ⟨m, rfl⟩ := Int.eq_ofNat_of_zero_le h
  have eL := congrArg L e
  rw [L_mk, Tx_nat] at eL
  have hm : m < 10 ^ 30 := by simpa using hs
  have l1 := dg_len (m := m) (k := 30) (by decide) hm
  have hlen : (L (Tx k)).length ≤ 4300 := by rw [eL, List.length_cons]; omega
  have a := Tx_reads hlen
  have hd : AllDigits (48 :: dg m) := fun c hc => (List.mem_cons.mp hc).elim (fun z => by omega) (dg_all m c)
  have b := intText_digits (x := Tx k) (by rw [show (Tx k).cps.toList = 48 :: dg m from eL]; exact hd) (by rw [show (Tx k).cps.toList = 48 :: dg m from eL]; simp) (by rw [← L_len]; exact hlen)
  rw [show (Tx k).cps.toList = 48 :: dg m from eL] at b
  have e3 : digitsVal (48 :: dg m) = m := by rw [digitsVal_zero, dg_val]
  rw [e3, a] at b
  have : k = (m : Int) := Option.some.inj b
  subst this
  rw [Tx_nat] at eL
  have := congrArg List.length eL
  rw [List.length_cons] at this
  omega
section
variable {line least many : Int} {ws : List Str}
theorem entry_1 (h : numAt line ws 1 least (10 ^ 30) = .error (line, 1)) : readEntry line ws least many = .error (line, 1) := by
  unfold readEntry; rw [h]
theorem entry_2 {v : Int} (h1 : numAt line ws 1 least (10 ^ 30) = .ok v) (h : numAt line ws 2 1 many = .error (line, 2)) : readEntry line ws least many = .error (line, 2) := by
  unfold readEntry; rw [h1]; dsimp only; rw [h]
theorem entry_3 {v a : Int} (h1 : numAt line ws 1 least (10 ^ 30) = .ok v) (h2 : numAt line ws 2 1 many = .ok a) (h : numAt line ws 3 a many = .error (line, 3)) : readEntry line ws least many = .error (line, 3) := by
  unfold readEntry; rw [h1]; dsimp only; rw [h2]; dsimp only; rw [h]
theorem entry_4 {v a b : Int} (h1 : numAt line ws 1 least (10 ^ 30) = .ok v) (h2 : numAt line ws 2 1 many = .ok a) (h3 : numAt line ws 3 a many = .ok b) (h : 3 < ws.length) : readEntry line ws least many = .error (line, 4) := by
  unfold readEntry; rw [h1]; dsimp only; rw [h2]; dsimp only; rw [h3]; dsimp only
  unfold endAt
  rw [if_pos h]
  rfl
end
/-- rows as they stand ahead of a fault -/
theorem readRest_pre {many : Int} {es : List Ent} (hv : Valid many es) (r : List Str) : ∀ (ss : List Str) (k : Nat), k + ss.length ≤ es.length → (∀ i, (h : i < ss.length) → ∃ e, es[k + i]? = some e ∧ wordsS ss[i] = [Tx e.1, Tx e.2.1, Tx e.2.2]) → ∀ line : Int,
    readRest many (ss ++ r) line (es.take k) = readRest many r (line + (ss.length : Int)) (es.take (k + ss.length))
  | [], k, hk, _, line => by simp
  | s :: q, k, hk, hw, line => by
    rw [List.length_cons] at hk
    have hl := hv.len
    obtain ⟨e, he, ew⟩ := hw 0 (by simp)
    rw [Nat.add_zero] at he
    rw [List.getElem_cons_zero] at ew
    have hkl : k < es.length := by omega
    have hent := hv.ent k hkl
    rw [vl_of he, lo_of he, hi_of he] at hent
    obtain ⟨h1, h2, h3, h4, h5⟩ := hent
    have hle : -10 ^ 30 ≤ leastOf (es.take k) ∧ leastOf (es.take k) ≤ e.1 := by
      by_cases k0 : 0 < k
      · rw [leastOf_lt hkl k0]
        have a := hv.asc (k - 1) (by omega)
        rw [show k - 1 + 1 = k by omega, vl_of he] at a
        exact ⟨(hv.ent (k - 1) (by omega)).1, a⟩
      · have : k = 0 := by omega
        subst this
        exact ⟨Int.le_refl _, h1⟩
    rw [List.cons_append, readRest_3 (e := e) (by rw [List.length_take]; omega) (by rw [ew]; exact readEntry_ok hv.n2 hle.1 hle.2 h2 h3 h4 h5)]
    have et : es.take k ++ [e] = es.take (k + 1) := by rw [List.take_add_one, he]; rfl
    rw [et, readRest_pre hv r q (k + 1) (by omega) (fun i hi => ?_) (line + 1)]
    · rw [List.length_cons]
      congr 1
      · push_cast; omega
      · congr 1; omega
    · obtain ⟨e', h', w'⟩ := hw (i + 1) (by simp; omega)
      exact ⟨e', by rw [← h']; congr 1; omega, by rw [← w']; rfl⟩
/-- a text as rows, the head good -/
theorem readS_rows {n : Int} {es : List Ent} (hv : Valid n es) {r : List Str} (hr : ∀ y ∈ r, 10 ∉ L y) {f : Rf} (h : readRest n r 2 [] = .error f) : readS (Txt.join nl10 (headS n :: r)) = .error f := by
  refine readS_2 (s := headS n) (q := r) (split_join (by simp) fun y hy => ?_) (by rw [head_words]; exact readCount_ok hv.n1 hv.n2) h
  rcases List.mem_cons.mp hy with rfl | hy
  · exact head_no n
  · exact hr y hy
/-- a faulty head -/
theorem readS_head {s : Str} {r : List Str} (h0 : 10 ∉ L s) (hr : ∀ y ∈ r, 10 ∉ L y) {f : Rf} (h : readCount (wordsS s) = .error f) : readS (Txt.join nl10 (s :: r)) = .error f := by
  refine readS_3 (s := s) (q := r) (split_join (by simp) fun y hy => ?_) h
  rcases List.mem_cons.mp hy with rfl | hy
  · exact h0
  · exact hr y hy
theorem lines_pre {n : Int} {es : List Ent} {k : Nat} (hk : k ≤ es.length) : ∀ i, (h : i < ((es.map lineS).take k).length) → ∃ e, es[0 + i]? = some e ∧ wordsS ((es.map lineS).take k)[i] = [Tx e.1, Tx e.2.1, Tx e.2.2] := fun i hi => by
  rw [List.length_take, List.length_map] at hi
  refine ⟨es[i], by rw [Nat.zero_add]; exact List.getElem?_eq_getElem (by omega), ?_⟩
  rw [List.getElem_take, List.getElem_map]
  exact line_words _
/-- k good entries, then the rest -/
theorem rest_at {n : Int} {es : List Ent} (hv : Valid n es) {k : Nat} (hk : k ≤ es.length) (r : List Str) : readRest n ((es.map lineS).take k ++ r) 2 [] = readRest n r (2 + (k : Int)) (es.take k) := by
  have h := readRest_pre hv r ((es.map lineS).take k) 0 (by rw [List.length_take, List.length_map]; omega) (lines_pre (n := n) hk) 2
  rw [List.take_zero, List.length_take, List.length_map, Nat.min_eq_left hk, Nat.zero_add] at h
  exact h
theorem lines_no (es : List Ent) : ∀ y ∈ es.map lineS, 10 ∉ L y := fun y hy => by
  obtain ⟨e, _, rfl⟩ := List.mem_map.mp hy
  exact line_no e
/-- signs of a row that is short, and has no line end -/
structure FineS (s : Str) : Prop where
  pl : ∀ c ∈ L s, c < 128 ∧ c ≠ 10
  ln : s.length ≤ 200
theorem FineS.no {s : Str} (h : FineS s) : 10 ∉ L s := fun hc => (h.pl 10 hc).2 rfl
theorem FineS.ok {s : Str} (h : FineS s) : PyData.strOk s = true := strOk_of.mpr fun c hc => by have := (h.pl c hc).1; omega
/-- the row in the place of entry k is refused at a word -/
structure Flt (n : Int) (es : List Ent) (k : Nat) (s : Str) (w : Int) : Prop where
  fine : FineS s
  bad : ∀ line : Int, readEntry line (wordsS s) (leastOf (es.take k)) n = .error (line, w)
/-- the row in the place of the head is refused at a word -/
structure FltH (s : Str) (w : Int) : Prop where
  fine : FineS s
  bad : readCount (wordsS s) = .error (1, w)
theorem fine_line {n : Int} {es : List Ent} (hv : Valid n es) : ∀ y ∈ es.map lineS, FineS y := fun y hy => by
  obtain ⟨e, he, rfl⟩ := List.mem_map.mp hy
  obtain ⟨j, hj⟩ := List.getElem?_of_mem he
  refine ⟨fun c hc => ?_, by have := (line_len hv hj).1; omega⟩
  have hr := rows_row hv (i := j + 1) (y := lineS e) (by show (es.map lineS)[j]? = _; rw [List.getElem?_map, hj]; rfl)
  have h2 : ∀ c ∈ L (lineS e), c = 32 ∨ c = 45 ∨ (48 ≤ c ∧ c ≤ 57) := fun c hc => by
    rw [L_line] at hc
    rcases List.mem_append.mp hc with h | h
    · exact .inr (Tx_signs _ c h)
    rcases List.mem_cons.mp h with rfl | h
    · exact .inl rfl
    rcases List.mem_append.mp h with h | h
    · exact .inr (Tx_signs _ c h)
    rcases List.mem_cons.mp h with rfl | h
    · exact .inl rfl
    · exact .inr (Tx_signs _ c h)
  have := h2 c hc
  omega
theorem fine_head {n : Int} (h1 : 1 ≤ n) (h2 : n ≤ 10 ^ 30) : FineS (headS n) := by
  refine ⟨fun c hc => ?_, by have := head_len h1 h2; omega⟩
  rw [L_head] at hc
  rcases List.mem_append.mp hc with h | h
  · exact (show ∀ c ∈ [99, 111, 117, 110, 116], c < 128 ∧ c ≠ 10 by decide) c h
  rcases List.mem_cons.mp h with rfl | h
  · decide
  · have := Tx_signs n c h; omega
/-- an entry's row is refused: the text -/
theorem flt_text {n : Int} {es : List Ent} (hv : Valid n es) {k : Nat} (hk : k < es.length) {s : Str} {w : Int} (f : Flt n es k s w) :
    readS (Txt.join nl10 (headS n :: ((es.map lineS).take k ++ s :: (es.map lineS).drop (k + 1)))) = .error ((k : Int) + 2, w) := by
  refine readS_rows hv (fun y hy => ?_) ?_
  · rcases List.mem_append.mp hy with hy | hy
    · exact lines_no es y (List.mem_of_mem_take hy)
    rcases List.mem_cons.mp hy with rfl | hy
    · exact f.fine.no
    · exact lines_no es y (List.mem_of_mem_drop hy)
  · have hl := hv.len
    rw [rest_at hv (by omega), readRest_2 (by rw [List.length_take]; omega) (f.bad _), show 2 + (k : Int) = (k : Int) + 2 by omega]
/-- an empty line -/
theorem empty_text {n : Int} {es : List Ent} (hv : Valid n es) {k : Nat} (hk : k ≤ es.length) {s : Str} (hs : 10 ∉ L s) (hw : wordsS s = []) :
    readS (Txt.join nl10 (headS n :: ((es.map lineS).take k ++ s :: (es.map lineS).drop k))) = .error ((k : Int) + 2, 1) := by
  refine readS_rows hv (fun y hy => ?_) ?_
  · rcases List.mem_append.mp hy with hy | hy
    · exact lines_no es y (List.mem_of_mem_take hy)
    rcases List.mem_cons.mp hy with rfl | hy
    · exact hs
    · exact lines_no es y (List.mem_of_mem_drop hy)
  · have hl := hv.len
    rw [rest_at hv hk, show (k : Int) + 2 = 2 + (k : Int) by omega]
    by_cases c : (es.take k).length = 12
    · exact readRest_1 c
    · exact readRest_2 c (by rw [hw]; exact entry_1 (numAt_none rfl))
/-- entries too many -/
theorem many_text {n : Int} {es : List Ent} (hv : Valid n es) {v : Int} (h0 : leastOf es ≤ v) (h1 : v ≤ 10 ^ 30) {m : Nat} (hm : es.length + m = 12) {s : Str} (hs : 10 ∉ L s) :
    readS (Txt.join nl10 (headS n :: (es.map lineS ++ List.replicate m (lineS (v, 1, 1)) ++ [s]))) = .error (14, 1) := by
  have key : ∀ (m : Nat) (es : List Ent), Valid n es → leastOf es ≤ v → es.length + m ≤ 12 → Valid n (es ++ List.replicate m (v, 1, 1)) := by
    intro m
    induction m with
    | zero => intro es hv _ _; rw [List.replicate_zero, List.append_nil]; exact hv
    | succ m ih =>
      intro es hv h0 hl
      rw [List.replicate_succ, ← List.singleton_append, ← List.append_assoc]
      exact ih _ (hv.snoc (by omega) h0 h1 (Int.le_refl 1) (Int.le_refl 1) hv.n1) (by rw [leastOf_snoc]; exact Int.le_refl _) (by rw [List.length_append, List.length_singleton]; omega)
  have hv2 := key m es hv h0 (by omega)
  have el : es.map lineS ++ List.replicate m (lineS (v, 1, 1)) = (es ++ List.replicate m (v, 1, 1)).map lineS := by rw [List.map_append, List.map_replicate]
  refine readS_rows hv (fun y hy => ?_) ?_
  · rw [el] at hy
    rcases List.mem_append.mp hy with hy | hy
    · exact lines_no _ y hy
    · rw [List.mem_singleton.mp hy]; exact hs
  · rw [el]
    have hl : (es ++ List.replicate m (v, 1, 1)).length = 12 := by rw [List.length_append, List.length_replicate]; exact hm
    have h := rest_at hv2 (k := 12) (by omega) [s]
    rw [List.take_of_length_le (by rw [List.length_map]; omega), List.take_of_length_le (by omega)] at h
    rw [h]
    exact readRest_1 hl
end SR

set_option Elab.async false
set_option linter.all false
set_option maxRecDepth 100000
set_option maxHeartbeats 4000000
/-! Rows with one fault each. -/
namespace SR
open PySem PySem.NumText
def wd (w : List Nat) : Prop := 32 ∉ w ∧ w ≠ []
theorem wd_Tx (n : Int) : wd (L (Tx n)) := ⟨Tx_no (by decide), Tx_ne n⟩
section
variable {s : Str} {A B C D : List Nat}
theorem w1 (e : L s = A) (a : wd A) : wordsS s = [mkS A] := words_of (ls := [A]) e fun w hw => by rw [List.mem_singleton.mp hw]; exact a
theorem w2 (e : L s = A ++ 32 :: B) (a : wd A) (b : wd B) : wordsS s = [mkS A, mkS B] := words_of (ls := [A, B]) e fun w hw => by
  rcases List.mem_cons.mp hw with rfl | hw
  · exact a
  · rw [List.mem_singleton.mp hw]; exact b
theorem w3 (e : L s = A ++ 32 :: (B ++ 32 :: C)) (a : wd A) (b : wd B) (c : wd C) : wordsS s = [mkS A, mkS B, mkS C] := words_of (ls := [A, B, C]) e fun w hw => by
  rcases List.mem_cons.mp hw with rfl | hw
  · exact a
  rcases List.mem_cons.mp hw with rfl | hw
  · exact b
  · rw [List.mem_singleton.mp hw]; exact c
theorem w4 (e : L s = A ++ 32 :: (B ++ 32 :: (C ++ 32 :: D))) (a : wd A) (b : wd B) (c : wd C) (d : wd D) : wordsS s = [mkS A, mkS B, mkS C, mkS D] := words_of (ls := [A, B, C, D]) e fun w hw => by
  rcases List.mem_cons.mp hw with rfl | hw
  · exact a
  rcases List.mem_cons.mp hw with rfl | hw
  · exact b
  rcases List.mem_cons.mp hw with rfl | hw
  · exact c
  · rw [List.mem_singleton.mp hw]; exact d
theorem w0 (e : L s = []) : wordsS s = [] := map_L_inj (by rw [wordsS_is, e]; rfl)
end
def okC (l : List Nat) : Prop := ∀ c ∈ l, c < 128 ∧ c ≠ 10
theorem okC_app {a b : List Nat} (ha : okC a) (hb : okC b) : okC (a ++ b) := fun c hc => (List.mem_append.mp hc).elim (ha c) (hb c)
theorem okC_cons {a : Nat} {b : List Nat} (ha : a < 128 ∧ a ≠ 10) (hb : okC b) : okC (a :: b) := fun c hc => (List.mem_cons.mp hc).elim (fun e => e ▸ ha) (hb c)
theorem okC_Tx (n : Int) : okC (L (Tx n)) := fun c hc => by have := Tx_signs n c hc; omega
theorem len_Tx {n : Int} (h : n.natAbs < 10 ^ 31) : (L (Tx n)).length ≤ 32 := Tx_len h
theorem fine_of {s : Str} {l : List Nat} (e : L s = l) (h : okC l) (hl : l.length ≤ 200) : FineS s := ⟨by rw [e]; exact h, by rw [← L_len, e]; exact hl⟩
theorem nMk (n : Int) : mkS (L (Tx n)) = Tx n := mk_L _
/-- an entry and what stands before it -/
structure AtE (n : Int) (es : List Ent) (k : Nat) (e : Ent) : Prop where
  v0 : -10 ^ 30 ≤ e.1
  v1 : e.1 ≤ 10 ^ 30
  a1 : 1 ≤ e.2.1
  ab : e.2.1 ≤ e.2.2
  bn : e.2.2 ≤ n
  n2 : n ≤ 10 ^ 30
  lo : leastOf (es.take k) ≤ e.1
  l0 : -10 ^ 30 ≤ leastOf (es.take k)
theorem atE {n : Int} {es : List Ent} (hv : Valid n es) {k : Nat} {e : Ent} (h : es[k]? = some e) : AtE n es k e := by
  have hk : k < es.length := (List.getElem?_eq_some_iff.mp h).1
  have hent := hv.ent k hk
  rw [vl_of h, lo_of h, hi_of h] at hent
  have hle : -10 ^ 30 ≤ leastOf (es.take k) ∧ leastOf (es.take k) ≤ e.1 := by
    by_cases k0 : 0 < k
    · rw [leastOf_lt hk k0]
      have a := hv.asc (k - 1) (by omega)
      rw [show k - 1 + 1 = k by omega, vl_of h] at a
      exact ⟨(hv.ent (k - 1) (by omega)).1, a⟩
    · have : k = 0 := by omega
      subst this
      exact ⟨Int.le_refl _, hent.1⟩
  exact ⟨hent.1, hent.2.1, hent.2.2.1, hent.2.2.2.1, hent.2.2.2.2, hv.n2, hle.2, hle.1⟩
theorem big31 : (((10 : Int) ^ 30 + 1).natAbs) < 10 ^ 31 := by decide
section
variable {n : Int} {es : List Ent} {k : Nat} {e : Ent}
theorem f_v (A : AtE n es k e) {ws : List Str} {line : Int} (h : ws[0]? = some (Tx e.1)) : numAt line ws 1 (leastOf (es.take k)) (10 ^ 30) = .ok e.1 := numAt_ok h (small31 A.v0 A.v1) A.lo A.v1
theorem f_a (A : AtE n es k e) {ws : List Str} {line : Int} (h : ws[1]? = some (Tx e.2.1)) : numAt line ws 2 1 n = .ok e.2.1 := numAt_ok h (small31 (by have := A.a1; omega) (by have := A.ab; have := A.bn; have := A.n2; omega)) A.a1 (by have := A.ab; have := A.bn; omega)
theorem f_b (A : AtE n es k e) {ws : List Str} {line : Int} (h : ws[2]? = some (Tx e.2.2)) : numAt line ws 3 e.2.1 n = .ok e.2.2 := numAt_ok h (small31 (by have := A.a1; have := A.ab; omega) (by have := A.bn; have := A.n2; omega)) A.ab A.bn
theorem sN (A : AtE n es k e) : e.1.natAbs < 10 ^ 31 ∧ e.2.1.natAbs < 10 ^ 31 ∧ e.2.2.natAbs < 10 ^ 31 ∧ (n + 1).natAbs < 10 ^ 31 ∧ (e.2.1 - 1).natAbs < 10 ^ 31 := by
  have h0 := A.a1; have h1 := A.ab; have h2 := A.bn; have h3 := A.n2
  refine ⟨small31 A.v0 A.v1, small31 (by omega) (by omega), small31 (by omega) (by omega), ?_, small31 (by omega) (by omega)⟩
  have b : (10 : Int) ^ 30 + 1 < ((10 ^ 31 : Nat) : Int) := by decide
  omega
theorem flt1 : Flt n es k (Str.ofString "") 1 := ⟨fine_of (l := []) (by decide +kernel) (fun c hc => nomatch hc) (by decide), fun line => by rw [w0 (by decide +kernel)]; exact entry_1 (numAt_none rfl)⟩
theorem flt2 : Flt n es k (Str.ofString "x") 1 := ⟨fine_of (l := [120]) (by decide +kernel) (by unfold okC; decide) (by decide), fun line => by rw [w1 (A := [120]) (by decide +kernel) (by unfold wd; decide)]; exact entry_1 (numAt_bad rfl (by decide +kernel))⟩
theorem flt3 (A : AtE n es k e) : Flt n es k (Tx e.1) 2 := ⟨fine_of rfl (okC_Tx _) (by have := len_Tx (sN A).1; omega), fun line => by
  rw [w1 rfl (wd_Tx _), nMk]
  exact entry_2 (f_v A rfl) (numAt_none rfl)⟩
theorem L_spc : L (Str.ofString " ") = [32] := by decide +kernel
theorem flt4 (A : AtE n es k e) : Flt n es k (Tx e.1 ++ Str.ofString " " ++ Tx e.2.1) 3 := by
  have eL : L (Tx e.1 ++ Str.ofString " " ++ Tx e.2.1) = L (Tx e.1) ++ 32 :: L (Tx e.2.1) := by rw [L_app, L_app, L_spc]; simp
  obtain ⟨s1, s2, s3, s4, s5⟩ := sN A
  refine ⟨fine_of eL (okC_app (okC_Tx _) (okC_cons (by decide) (okC_Tx _))) (by have := len_Tx s1; have := len_Tx s2; rw [List.length_append, List.length_cons]; omega), fun line => ?_⟩
  rw [w2 eL (wd_Tx _) (wd_Tx _), nMk, nMk]
  exact entry_3 (f_v A rfl) (f_a A rfl) (numAt_none rfl)
/-- three words of which numbers are made -/
theorem three (x y z : Int) : L (Tx x ++ Str.ofString " " ++ Tx y ++ Str.ofString " " ++ Tx z) = L (Tx x) ++ 32 :: (L (Tx y) ++ 32 :: L (Tx z)) := by rw [L_app, L_app, L_app, L_app, L_spc]; simp
theorem fine3 {s : Str} {X Y Z : List Nat} (e : L s = X ++ 32 :: (Y ++ 32 :: Z)) (x : okC X) (y : okC Y) (z : okC Z) (lx : X.length ≤ 60) (ly : Y.length ≤ 60) (lz : Z.length ≤ 60) : FineS s :=
  fine_of e (okC_app x (okC_cons (by decide) (okC_app y (okC_cons (by decide) z)))) (by rw [List.length_append, List.length_cons, List.length_append, List.length_cons]; omega)
theorem l60 {n : Int} (h : n.natAbs < 10 ^ 31) : (L (Tx n)).length ≤ 60 := Nat.le_trans (len_Tx h) (by decide)
theorem flt5 (A : AtE n es k e) : Flt n es k (Tx e.1 ++ Str.ofString " " ++ Tx e.2.1 ++ Str.ofString " " ++ Tx e.2.2 ++ Str.ofString " 1") 4 := by
  have eL : L (Tx e.1 ++ Str.ofString " " ++ Tx e.2.1 ++ Str.ofString " " ++ Tx e.2.2 ++ Str.ofString " 1") = L (Tx e.1) ++ 32 :: (L (Tx e.2.1) ++ 32 :: (L (Tx e.2.2) ++ 32 :: [49])) := by
    rw [L_app, three, show L (Str.ofString " 1") = [32, 49] by decide +kernel]; simp
  obtain ⟨s1, s2, s3, s4, s5⟩ := sN A
  refine ⟨fine_of eL (okC_app (okC_Tx _) (okC_cons (by decide) (okC_app (okC_Tx _) (okC_cons (by decide) (okC_app (okC_Tx _) (by unfold okC; decide)))))) ?_, fun line => ?_⟩
  · have := len_Tx s1; have := len_Tx s2; have := len_Tx s3
    rw [List.length_append, List.length_cons, List.length_append, List.length_cons, List.length_append]
    simp only [List.length_cons, List.length_nil]
    omega
  rw [w4 eL (wd_Tx _) (wd_Tx _) (wd_Tx _) (by unfold wd; decide), nMk, nMk, nMk]
  exact entry_4 (f_v A rfl) (f_a A rfl) (f_b A rfl) (by simp)
theorem tx0 : mkS [48] = Tx 0 := by decide +kernel
theorem flt6 (A : AtE n es k e) : Flt n es k (Tx e.1 ++ Str.ofString " 0 " ++ Tx e.2.2) 2 := by
  have eL : L (Tx e.1 ++ Str.ofString " 0 " ++ Tx e.2.2) = L (Tx e.1) ++ 32 :: ([48] ++ 32 :: L (Tx e.2.2)) := by
    rw [L_app, L_app, show L (Str.ofString " 0 ") = [32, 48, 32] by decide +kernel]; simp
  obtain ⟨s1, s2, s3, s4, s5⟩ := sN A
  refine ⟨fine3 eL (okC_Tx _) (by unfold okC; decide) (okC_Tx _) (l60 s1) (by decide) (l60 s3), fun line => ?_⟩
  rw [w3 eL (wd_Tx _) (by unfold wd; decide) (wd_Tx _), nMk, nMk, tx0]
  exact entry_2 (f_v A rfl) (numAt_out (n := 0) rfl (by decide) (by omega))
theorem flt7 (A : AtE n es k e) : Flt n es k (Tx e.1 ++ Str.ofString " " ++ Tx e.2.1 ++ Str.ofString " " ++ Tx (e.2.1 - 1)) 3 := by
  obtain ⟨s1, s2, s3, s4, s5⟩ := sN A
  refine ⟨fine3 (three _ _ _) (okC_Tx _) (okC_Tx _) (okC_Tx _) (l60 s1) (l60 s2) (l60 s5), fun line => ?_⟩
  rw [w3 (three _ _ _) (wd_Tx _) (wd_Tx _) (wd_Tx _), nMk, nMk, nMk]
  exact entry_3 (f_v A rfl) (f_a A rfl) (numAt_out (n := e.2.1 - 1) rfl s5 (by omega))
theorem flt8 (A : AtE n es k e) : Flt n es k (Tx e.1 ++ Str.ofString " " ++ Tx (n + 1) ++ Str.ofString " " ++ Tx (n + 1)) 2 := by
  obtain ⟨s1, s2, s3, s4, s5⟩ := sN A
  refine ⟨fine3 (three _ _ _) (okC_Tx _) (okC_Tx _) (okC_Tx _) (l60 s1) (l60 s4) (l60 s4), fun line => ?_⟩
  rw [w3 (three _ _ _) (wd_Tx _) (wd_Tx _) (wd_Tx _), nMk, nMk]
  exact entry_2 (f_v A rfl) (numAt_out (n := n + 1) rfl s4 (by omega))
theorem flt9 (A : AtE n es k e) : Flt n es k (Tx e.1 ++ Str.ofString " " ++ Tx e.2.1 ++ Str.ofString " " ++ Tx (n + 1)) 3 := by
  obtain ⟨s1, s2, s3, s4, s5⟩ := sN A
  refine ⟨fine3 (three _ _ _) (okC_Tx _) (okC_Tx _) (okC_Tx _) (l60 s1) (l60 s2) (l60 s4), fun line => ?_⟩
  rw [w3 (three _ _ _) (wd_Tx _) (wd_Tx _) (wd_Tx _), nMk, nMk, nMk]
  exact entry_3 (f_v A rfl) (f_a A rfl) (numAt_out (n := n + 1) rfl s4 (by omega))
theorem flt10 (A : AtE n es k e) : Flt n es k (Tx (10 ^ 30 + 1) ++ Str.ofString " " ++ Tx e.2.1 ++ Str.ofString " " ++ Tx e.2.2) 1 := by
  obtain ⟨s1, s2, s3, s4, s5⟩ := sN A
  refine ⟨fine3 (three _ _ _) (okC_Tx _) (okC_Tx _) (okC_Tx _) (l60 big31) (l60 s2) (l60 s3), fun line => ?_⟩
  rw [w3 (three _ _ _) (wd_Tx _) (wd_Tx _) (wd_Tx _), nMk, nMk, nMk]
  exact entry_1 (numAt_out (n := 10 ^ 30 + 1) rfl big31 (by omega))
/-- a bad first word, written -/
theorem fltW (A : AtE n es k e) {s : Str} {B : List Nat} (eL : L s = B ++ 32 :: (L (Tx e.2.1) ++ 32 :: L (Tx e.2.2))) (b : okC B) (bl : B.length ≤ 60) (w : wd B) (h : numS (mkS B) = none) : Flt n es k s 1 := by
  obtain ⟨s1, s2, s3, s4, s5⟩ := sN A
  refine ⟨fine3 eL b (okC_Tx _) (okC_Tx _) bl (l60 s2) (l60 s3), fun line => ?_⟩
  rw [w3 eL w (wd_Tx _) (wd_Tx _)]
  exact entry_1 (numAt_bad rfl h)
theorem flt11 (A : AtE n es k e) : Flt n es k (Str.ofString "-0 " ++ Tx e.2.1 ++ Str.ofString " " ++ Tx e.2.2) 1 :=
  fltW A (B := [45, 48]) (by rw [L_app, L_app, L_app, L_spc, show L (Str.ofString "-0 ") = [45, 48, 32] by decide +kernel]; simp) (by unfold okC; decide) (by decide) (by unfold wd; decide) (by decide +kernel)
theorem flt12 (A : AtE n es k e) : Flt n es k (Str.ofString "+1 " ++ Tx e.2.1 ++ Str.ofString " " ++ Tx e.2.2) 1 :=
  fltW A (B := [43, 49]) (by rw [L_app, L_app, L_app, L_spc, show L (Str.ofString "+1 ") = [43, 49, 32] by decide +kernel]; simp) (by unfold okC; decide) (by decide) (by unfold wd; decide) (by decide +kernel)
theorem flt14 (A : AtE n es k e) : Flt n es k (Str.ofString "- " ++ Tx e.2.1 ++ Str.ofString " " ++ Tx e.2.2) 1 :=
  fltW A (B := [45]) (by rw [L_app, L_app, L_app, L_spc, show L (Str.ofString "- ") = [45, 32] by decide +kernel]; simp) (by unfold okC; decide) (by decide) (by unfold wd; decide) (by decide +kernel)
theorem small30 {n : Int} (h1 : 0 ≤ n) (h2 : n < 10 ^ 30) : n.natAbs < 10 ^ 30 := by
  have : ((n.natAbs : Nat) : Int) < ((10 ^ 30 : Nat) : Int) := by
    rw [show ((10 ^ 30 : Nat) : Int) = 10 ^ 30 by decide]
    omega
  omega
theorem num_zero' {n : Int} (h : 0 ≤ n) (hs : n ≤ 10 ^ 30) : numS (mkS (48 :: L (Tx n))) = none := by
  by_cases c : n < 10 ^ 30
  · exact num_zero h (small30 h c)
  · have : n = 10 ^ 30 := by omega
    subst this
    decide +kernel
theorem flt13 (A : AtE n es k e) : Flt n es k (Tx e.1 ++ Str.ofString " 0" ++ Tx e.2.1 ++ Str.ofString " " ++ Tx e.2.2) 2 := by
  have eL : L (Tx e.1 ++ Str.ofString " 0" ++ Tx e.2.1 ++ Str.ofString " " ++ Tx e.2.2) = L (Tx e.1) ++ 32 :: ((48 :: L (Tx e.2.1)) ++ 32 :: L (Tx e.2.2)) := by
    rw [L_app, L_app, L_app, L_app, L_spc, show L (Str.ofString " 0") = [32, 48] by decide +kernel]; simp
  obtain ⟨s1, s2, s3, s4, s5⟩ := sN A
  have wz : wd (48 :: L (Tx e.2.1)) := ⟨fun h => (List.mem_cons.mp h).elim (fun z => absurd z (by decide)) (Tx_no (by decide)), by simp⟩
  refine ⟨fine3 eL (okC_Tx _) (okC_cons (by decide) (okC_Tx _)) (okC_Tx _) (l60 s1) (by have := len_Tx s2; rw [List.length_cons]; omega) (l60 s3), fun line => ?_⟩
  rw [w3 eL (wd_Tx _) wz (wd_Tx _), nMk, nMk]
  exact entry_2 (f_v A rfl) (numAt_bad rfl (num_zero' (by have := A.a1; omega) (by have := A.ab; have := A.bn; have := A.n2; omega)))
theorem flt15 (A : AtE n es k e) (k0 : 0 < k) (hk : k < es.length) : Flt n es k (Tx (vl es (k - 1) - 1) ++ Str.ofString " " ++ Tx e.2.1 ++ Str.ofString " " ++ Tx e.2.2) 1 := by
  obtain ⟨s1, s2, s3, s4, s5⟩ := sN A
  have hl := leastOf_lt hk k0
  have h0 := A.l0
  have h1 := A.lo
  have h2 := A.v1
  have s6 : (vl es (k - 1) - 1).natAbs < 10 ^ 31 := by
    have b : (10 : Int) ^ 30 + 1 < ((10 ^ 31 : Nat) : Int) := by decide
    rw [hl] at h0 h1
    omega
  refine ⟨fine3 (three _ _ _) (okC_Tx _) (okC_Tx _) (okC_Tx _) (l60 s6) (l60 s2) (l60 s3), fun line => ?_⟩
  rw [w3 (three _ _ _) (wd_Tx _) (wd_Tx _) (wd_Tx _), nMk, nMk, nMk]
  exact entry_1 (numAt_out (n := vl es (k - 1) - 1) rfl s6 (by rw [hl]; omega))
end
/-! heads -/
section
variable {n : Int}
theorem head_1 {ws : List Str} (h : ws.take 1 ≠ [countW]) : readCount ws = .error (1, 1) := by
  unfold readCount; rw [if_neg h]
theorem head_2 {w : Str} (h : numS w = none) : readCount [countW, w] = .error (1, 2) := readCount_3 rfl (numAt_bad rfl h)
theorem head_2o {n : Int} (hn : n.natAbs < 10 ^ 31) (o : ¬ (1 ≤ n ∧ n ≤ 10 ^ 30)) : readCount [countW, Tx n] = .error (1, 2) := readCount_3 rfl (numAt_out rfl hn o)
theorem wd_count : wd (L countW) := by rw [L_countW]; unfold wd; decide
theorem okC_count : okC (L countW) := by rw [L_countW]; unfold okC; decide
theorem mk_count : mkS (L countW) = countW := mk_L _
/-- count and a word -/
theorem head2 {s : Str} {B : List Nat} {w : Int} (e : L s = L countW ++ 32 :: B) (b : okC B) (l : B.length ≤ 60) (wb : wd B) (h : readCount [countW, mkS B] = .error (1, w)) : FltH s w := by
  refine ⟨fine_of e (okC_app okC_count (okC_cons (by decide) b)) (by rw [List.length_append, List.length_cons, L_countW]; simp only [List.length_cons, List.length_nil]; omega), ?_⟩
  rw [w2 e wd_count wb, mk_count]
  exact h
theorem c6 : L (Str.ofString "count ") = L countW ++ [32] := by rw [L_count, L_countW]; rfl
theorem hd1 (h1 : 1 ≤ n) (h2 : n ≤ 10 ^ 30) : FltH (Str.ofString "counts " ++ Tx n) 1 := by
  have e : L (Str.ofString "counts " ++ Tx n) = [99, 111, 117, 110, 116, 115] ++ 32 :: L (Tx n) := by rw [L_app, show L (Str.ofString "counts ") = [99, 111, 117, 110, 116, 115, 32] by decide +kernel]; simp
  refine ⟨fine_of e (okC_app (by unfold okC; decide) (okC_cons (by decide) (okC_Tx _))) (by have := len_Tx (small31 (v := n) (by omega) h2); rw [List.length_append, List.length_cons]; simp only [List.length_cons, List.length_nil]; omega), ?_⟩
  rw [w2 e (by unfold wd; decide) (wd_Tx _)]
  exact head_1 (by
    show [mkS [99, 111, 117, 110, 116, 115]] ≠ [countW]
    decide +kernel)
theorem hd2 : FltH (Str.ofString "count") 2 := by
  refine ⟨fine_of (l := L countW) rfl okC_count (by rw [L_countW]; decide), ?_⟩
  rw [w1 (s := Str.ofString "count") (A := L countW) rfl wd_count, mk_count]
  exact readCount_3 rfl (numAt_none rfl)
theorem hd3 : FltH (Str.ofString "count 0") 2 := head2 (B := [48]) (by rw [L_countW]; decide +kernel) (by unfold okC; decide) (by decide) (by unfold wd; decide) (by rw [tx0]; exact head_2o (by decide) (by omega))
theorem hd4 : FltH (Str.ofString "count x") 2 := head2 (B := [120]) (by rw [L_countW]; decide +kernel) (by unfold okC; decide) (by decide) (by unfold wd; decide) (head_2 (by decide +kernel))
theorem hd5 (h1 : 1 ≤ n) (h2 : n ≤ 10 ^ 30) : FltH (Str.ofString "count " ++ Tx n ++ Str.ofString " 1") 3 := by
  have e : L (Str.ofString "count " ++ Tx n ++ Str.ofString " 1") = L countW ++ 32 :: (L (Tx n) ++ 32 :: [49]) := by rw [L_app, L_app, c6, show L (Str.ofString " 1") = [32, 49] by decide +kernel]; simp
  have hn := small31 (v := n) (by omega) h2
  refine ⟨fine3 e okC_count (okC_Tx _) (by unfold okC; decide) (by rw [L_countW]; decide) (l60 hn) (by decide), ?_⟩
  rw [w3 e wd_count (wd_Tx _) (by unfold wd; decide), mk_count, nMk]
  exact readCount_2 (n := n) rfl (numAt_ok rfl hn h1 h2) (by unfold endAt; rw [if_pos (by simp)]; rfl)
theorem hd6 : FltH (Str.ofString "") 1 := by
  refine ⟨fine_of (l := []) (by decide +kernel) (fun c hc => nomatch hc) (by decide), ?_⟩
  rw [w0 (by decide +kernel)]
  exact head_1 (by decide)
theorem hd7 : FltH (Str.ofString "count " ++ Tx (10 ^ 30 + 1)) 2 := head2 (B := L (Tx (10 ^ 30 + 1))) (by rw [L_app, c6]; simp) (okC_Tx _) (l60 big31) (wd_Tx _) (by rw [nMk]; exact head_2o big31 (by omega))
theorem hd8 (h1 : 1 ≤ n) (h2 : n ≤ 10 ^ 30) : FltH (Str.ofString "count 0" ++ Tx n) 2 :=
  head2 (B := 48 :: L (Tx n)) (by rw [L_app, L_countW, show L (Str.ofString "count 0") = [99, 111, 117, 110, 116, 32, 48] by decide +kernel]; simp) (okC_cons (by decide) (okC_Tx _))
    (by have := len_Tx (small31 (v := n) (by omega) h2); rw [List.length_cons]; omega) ⟨fun h => (List.mem_cons.mp h).elim (fun z => absurd z (by decide)) (Tx_no (by decide)), by simp⟩ (head_2 (num_zero' (by omega) h2))
theorem hd9 (h1 : 1 ≤ n) (h2 : n ≤ 10 ^ 30) : FltH (Tx n) 1 := by
  refine ⟨fine_of rfl (okC_Tx _) (by have := len_Tx (small31 (v := n) (by omega) h2); omega), ?_⟩
  rw [w1 rfl (wd_Tx _), nMk]
  refine head_1 fun z => ?_
  have e := congrArg L (List.cons.inj z).1
  rw [L_countW] at e
  have := Tx_signs n 99 (by rw [e]; exact List.mem_cons_self ..)
  omega
theorem hd10 : FltH (Str.ofString "count -1") 2 := head2 (B := [45, 49]) (by rw [L_countW]; decide +kernel) (by unfold okC; decide) (by decide) (by unfold wd; decide) (by
  rw [show mkS [45, 49] = Tx (-1) by decide +kernel]
  exact head_2o (by decide) (by omega))
end
end SR

set_option Elab.async false
set_option linter.all false
set_option maxRecDepth 100000
set_option maxHeartbeats 4000000
/-! Plain mathematics of two rows together: the stable sort of two sorted lists is their merge; places in the merged row. -/
namespace SR
open List in
theorem zle_of {α : Type} {le : α → α → Bool} {a b : α × Nat} (h : le a.1 b.1 = true) (h2 : a.2 ≤ b.2) : zipIdxLE le a b = true := by
  unfold zipIdxLE
  rw [if_pos h]
  split
  · exact decide_eq_true h2
  · rfl
open List in
theorem zle_anti {α : Type} {le : α → α → Bool} {a b : α × Nat} (h : zipIdxLE le a b = true) (h2 : zipIdxLE le b a = true) : a.2 = b.2 := by
  unfold zipIdxLE at h h2
  by_cases c : le a.1 b.1 = true
  · by_cases d : le b.1 a.1 = true
    · rw [if_pos c, if_pos d, decide_eq_true_eq] at h
      rw [if_pos d, if_pos c, decide_eq_true_eq] at h2
      omega
    · rw [if_neg d] at h2; cases h2
  · rw [if_neg c] at h; cases h
open List in
theorem zip_pw {α : Type} {le : α → α → Bool} : ∀ {xs : List α} (i : Nat), (xs.Pairwise fun a b => le a b = true) → (xs.zipIdx i).Pairwise fun a b => zipIdxLE le a b = true
  | [], _, _ => .nil
  | x :: xs, i, h => by
    rw [List.pairwise_cons] at h
    rw [List.zipIdx_cons, List.pairwise_cons]
    refine ⟨fun b hb => zle_of (h.1 _ (List.fst_mem_of_mem_zipIdx hb)) ?_, zip_pw (i + 1) h.2⟩
    have := List.le_snd_of_mem_zipIdx hb
    show i ≤ b.2
    omega
open List in
/-- the stable sort of two sorted lists, one behind the other, is their merge -/
theorem msort_append {α : Type} {le : α → α → Bool} (trans : ∀ a b c, le a b = true → le b c = true → le a c = true) (total : ∀ a b, (le a b || le b a) = true) {xs ys : List α} (hx : xs.Pairwise fun a b => le a b = true) (hy : ys.Pairwise fun a b => le a b = true) :
    (xs ++ ys).mergeSort le = List.merge xs ys le := by
  have tz := zipIdxLE_trans trans
  have tt := zipIdxLE_total total
  have e1 : (xs ++ ys).zipIdx.mergeSort (zipIdxLE le) = List.merge (xs.zipIdx 0) (ys.zipIdx (0 + xs.length)) (zipIdxLE le) := by
    refine List.Perm.eq_of_pairwise (le := fun a b => zipIdxLE le a b = true) (fun a b ha hb h1 h2 => ?_) (List.pairwise_mergeSort tz tt _) (List.pairwise_merge tz tt _ _ (zip_pw 0 hx) (zip_pw _ hy)) ?_
    · have e := zle_anti h1 h2
      rw [List.mem_mergeSort] at ha
      have hb' : b ∈ (xs ++ ys).zipIdx := by
        rw [List.zipIdx_append]
        exact (List.merge_perm_append (zipIdxLE le)).mem_iff.mp hb
      obtain ⟨a1, a2⟩ := a
      obtain ⟨b1, b2⟩ := b
      have e : a2 = b2 := e
      subst e
      rw [List.mk_mem_zipIdx_iff_getElem?] at ha hb'
      rw [ha] at hb'
      rw [Option.some.inj hb']
    · rw [List.zipIdx_append]
      exact (List.mergeSort_perm _ _).trans (List.merge_perm_append _).symm
  rw [← List.mergeSort_zipIdx, e1, List.merge_stable]
  · rw [List.zipIdx_map_fst, List.zipIdx_map_fst]
  · intro x y hx' hy'
    have h1 := List.snd_lt_add_of_mem_zipIdx hx'
    have h2 := List.le_snd_of_mem_zipIdx hy'
    omega
/-- entries with their places, the places rising: they are left -/
theorem Lv.pairs {row : List Int} : ∀ (J : List (Ent × Int)) (last : Int), (J.Pairwise fun a b => a.2 < b.2) → (∀ q ∈ J, last < q.2 ∧ q.1.2.1 ≤ q.2 ∧ q.2 ≤ q.1.2.2 ∧ rat row q.2 = q.1.1) → Lv row (J.map (·.1)) last
  | [], _, _, _ => trivial
  | q :: J, last, hp, h => by
    rw [List.pairwise_cons] at hp
    obtain ⟨a, b, c, d⟩ := h q (List.mem_cons_self ..)
    refine ⟨q.2, a, b, c, d, Lv.pairs J q.2 hp.2 fun z hz => ?_⟩
    obtain ⟨_, b', c', d'⟩ := h z (List.mem_cons_of_mem _ hz)
    exact ⟨hp.1 z hz, b', c', d'⟩
theorem merge_up {le : Ent × Int → Ent × Int → Bool} : ∀ {xs ys : List (Ent × Int)}, (xs.Pairwise fun a b => a.2 < b.2) → (ys.Pairwise fun a b => a.2 < b.2) → (∀ x ∈ xs, ∀ y ∈ ys, (le x y = true → x.2 < y.2) ∧ (le x y = false → y.2 < x.2)) →
    (List.merge xs ys le).Pairwise fun a b => a.2 < b.2
  | [], ys, _, hy, _ => by simpa using hy
  | x :: xs, [], hx, _, _ => by simpa using hx
  | x :: xs, y :: ys, hx, hy, h => by
    rw [List.cons_merge_cons]
    have hxy := h x (List.mem_cons_self ..) y (List.mem_cons_self ..)
    have hx' := List.pairwise_cons.mp hx
    have hy' := List.pairwise_cons.mp hy
    by_cases c : le x y = true
    · rw [if_pos c, List.pairwise_cons]
      have l1 := hxy.1 c
      refine ⟨fun z hz => ?_, merge_up hx'.2 hy fun a ha b hb => h a (List.mem_cons_of_mem _ ha) b hb⟩
      rcases List.mem_merge.mp hz with q | q
      · exact hx'.1 z q
      · rcases List.mem_cons.mp q with e | e
        · rw [e]; exact l1
        · exact Int.lt_trans l1 (hy'.1 z e)
    · rw [if_neg c, List.pairwise_cons]
      have l1 := hxy.2 (by cases e : le x y with | true => exact absurd e c | false => rfl)
      refine ⟨fun z hz => ?_, merge_up hx hy'.2 fun a ha b hb => h a ha b (List.mem_cons_of_mem _ hb)⟩
      rcases List.mem_merge.mp hz with q | q
      · rcases List.mem_cons.mp q with e | e
        · rw [e]; exact l1
        · exact Int.lt_trans l1 (hx'.1 z e)
      · exact hy'.1 z q
termination_by xs ys => xs.length + ys.length
theorem cnt_append (a b : List Int) (z : Int) : cnt (a ++ b) z = cnt a z + cnt b z := by
  unfold cnt
  rw [List.filter_append, List.length_append]
  omega
theorem cnt_perm {a b : List Int} (h : a.Perm b) (z : Int) : cnt a z = cnt b z := by
  unfold cnt
  rw [(h.filter _).length_eq]
theorem cnt_mono (row : List Int) {y z : Int} (h : y ≤ z) : cnt row y ≤ cnt row z := by
  induction row with
  | nil => exact Int.le_refl _
  | cons x r ih =>
    have e : ∀ z, cnt (x :: r) z = (if x < z then 1 else 0) + cnt r z := fun z => by
      unfold cnt
      rw [List.filter_cons]
      by_cases c : x < z
      · rw [if_pos (decide_eq_true c), if_pos c, List.length_cons]; omega
      · rw [if_neg (by simp [c]), if_neg c]; omega
    rw [e, e]
    split <;> split <;> omega
theorem rat_is {row : List Int} (hr : row.Pairwise (· ≤ ·)) {k x : Int} (h1 : 1 ≤ k) (h2 : k ≤ row.length) : rat row k = x ↔ cnt row x < k ∧ k ≤ cnt row (x + 1) := by
  have a := cnt_iff (z := x) hr k h1 h2
  have b := cnt_iff (z := x + 1) hr k h1 h2
  omega
/-- an entry of one row in both -/
def rse (e : Ent) (a b : Int) : Ent := (e.1, e.2.1 + a, e.2.2 + b)
def joinL (n1 : Int) (es1 : List Ent) (n2 : Int) (es2 : List Ent) (d : Int) : List Ent := (tightL n1 es1).map fun e => rse e (topD 0 (belLow es2 (e.1 + d))) (botD n2 (belHigh n2 es2 (e.1 + d)))
def leV (a b : Ent) : Bool := decide (a.1 ≤ b.1)
def joinE (n1 : Int) (es1 : List Ent) (n2 : Int) (es2 : List Ent) : List Ent := List.merge (joinL n1 es1 n2 es2 0) (joinL n2 es2 n1 es1 1) leV
theorem join_pairs {n1 n2 d : Int} {es1 es2 : List Ent} {r1 r2 s : List Int} (v1 : Valid n1 es1) (v2 : Valid n2 es2) (h1 : Lvs r1 es1) (h2 : Lvs r2 es2) (a1 : r1.Pairwise (· ≤ ·)) (a2 : r2.Pairwise (· ≤ ·)) (l1 : (r1.length : Int) = n1) (l2 : (r2.length : Int) = n2)
    (hs : s.Pairwise (· ≤ ·)) (hp : s.Perm (r1 ++ r2)) (hd : d = 0 ∨ d = 1) : ∃ f : Nat → Int, (∀ j, j < es1.length → 1 ≤ f j ∧ f j ≤ n1 ∧ rat r1 (f j) = vl es1 j) ∧
    ∃ J : List (Ent × Int), J = ((List.range es1.length).map fun j => (rse (vl es1 j, tlo es1 j, thi n1 es1 j) (topD 0 (belLow es2 (vl es1 j + d))) (botD n2 (belHigh n2 es2 (vl es1 j + d))), f j + cnt r2 (vl es1 j + d))) ∧ J.map (·.1) = joinL n1 es1 n2 es2 d ∧
      (J.Pairwise fun a b => a.2 < b.2) ∧ ∀ q ∈ J, 0 < q.2 ∧ q.1.2.1 ≤ q.2 ∧ q.2 ≤ q.1.2.2 ∧ rat s q.2 = q.1.1 := by
  obtain ⟨f, hf, hup⟩ := h1.ranks v1
  have fb : ∀ j, j < es1.length → 1 ≤ f j ∧ f j ≤ n1 := fun j hj => by
    have := hf j hj
    have := tlo_pos es1 j
    have := thi_le (n := n1) (es := es1) hj
    omega
  have fup : ∀ e i, i + (e + 1) < es1.length → f i < f (i + (e + 1)) := by
    intro e
    induction e with
    | zero => intro i h; exact hup i h
    | succ e ih => intro i h; have := ih i (by omega); have := hup (i + (e + 1)) (by omega); rw [show i + (e + 1 + 1) = i + (e + 1) + 1 by omega]; omega
  refine ⟨f, fun j hj => ⟨(fb j hj).1, (fb j hj).2, (hf j hj).2.2⟩, _, rfl, ?_, ?_, ?_⟩
  · unfold joinL tightL
    rw [List.map_map, List.map_map]
    rfl
  · rw [List.pairwise_map]
    rw [List.pairwise_iff_getElem]
    intro i j hi hj hij
    rw [List.length_range] at hi hj
    rw [List.getElem_range, List.getElem_range]
    show f i + cnt r2 (vl es1 i + d) < f j + cnt r2 (vl es1 j + d)
    have := fup (j - i - 1) i (by omega)
    rw [show i + (j - i - 1 + 1) = j by omega] at this
    have := v1.asc' (i := i) (j := j) (by omega) hj
    have := cnt_mono r2 (show vl es1 i + d ≤ vl es1 j + d by omega)
    omega
  · intro q hq
    obtain ⟨j, hj, rfl⟩ := List.mem_map.mp hq
    rw [List.mem_range] at hj
    obtain ⟨b1, b2⟩ := fb j hj
    obtain ⟨c1, c2, c3⟩ := hf j hj
    have e1 := below_least v2 h2 a2 l2 (vl es1 j + d)
    have e2 := below_most v2 h2 a2 l2 (vl es1 j + d)
    have g := cnt_le r2 (vl es1 j + d)
    show 0 < f j + cnt r2 (vl es1 j + d) ∧ tlo es1 j + _ ≤ f j + cnt r2 (vl es1 j + d) ∧ f j + cnt r2 (vl es1 j + d) ≤ thi n1 es1 j + _ ∧ rat s (f j + cnt r2 (vl es1 j + d)) = vl es1 j
    refine ⟨by omega, by omega, by omega, ?_⟩
    have sl : (s.length : Int) = n1 + n2 := by rw [hp.length_eq, List.length_append]; omega
    have hr := (rat_is a1 (x := vl es1 j) b1 (by omega)).mp c3
    refine (rat_is hs (by omega) (by omega)).mpr ?_
    rw [cnt_perm hp, cnt_perm hp, cnt_append, cnt_append]
    have m1 := cnt_mono r2 (show vl es1 j ≤ vl es1 j + d by omega)
    have m2 := cnt_mono r2 (show vl es1 j + d ≤ vl es1 j + 1 by omega)
    omega
/-- rows put together leave what is told -/
theorem join_leaves {n1 n2 : Int} {es1 es2 : List Ent} {r1 r2 s : List Int} (v1 : Valid n1 es1) (v2 : Valid n2 es2) (h1 : Lvs r1 es1) (h2 : Lvs r2 es2) (a1 : r1.Pairwise (· ≤ ·)) (a2 : r2.Pairwise (· ≤ ·)) (l1 : (r1.length : Int) = n1) (l2 : (r2.length : Int) = n2)
    (hs : s.Pairwise (· ≤ ·)) (hp : s.Perm (r1 ++ r2)) : Lvs s (joinE n1 es1 n2 es2) := by
  obtain ⟨f1, hf1, J1, ej1, m1, p1, q1⟩ := join_pairs v1 v2 h1 h2 a1 a2 l1 l2 hs hp (.inl rfl)
  obtain ⟨f2, hf2, J2, ej2, m2, p2, q2⟩ := join_pairs v2 v1 h2 h1 a2 a1 l2 l1 hs (hp.trans List.perm_append_comm) (.inr rfl)
  have key : Lv s ((List.merge J1 J2 fun a b => leV a.1 b.1).map (·.1)) 0 := by
    refine Lv.pairs _ 0 (merge_up p1 p2 fun x hx y hy => ?_) fun q hq => ?_
    · rw [ej1] at hx
      rw [ej2] at hy
      obtain ⟨i, hi, rfl⟩ := List.mem_map.mp hx
      obtain ⟨j, hj, rfl⟩ := List.mem_map.mp hy
      rw [List.mem_range] at hi hj
      obtain ⟨b1, b2, b3⟩ := hf1 i hi
      obtain ⟨c1, c2, c3⟩ := hf2 j hj
      have g1 := (rat_is a1 b1 (by omega)).mp b3
      have g2 := (rat_is a2 c1 (by omega)).mp c3
      show (decide (vl es1 i ≤ vl es2 j) = true → f1 i + cnt r2 (vl es1 i + 0) < f2 j + cnt r1 (vl es2 j + 1)) ∧ (decide (vl es1 i ≤ vl es2 j) = false → f2 j + cnt r1 (vl es2 j + 1) < f1 i + cnt r2 (vl es1 i + 0))
      rw [Int.add_zero]
      constructor
      · intro h
        have h := of_decide_eq_true h
        have := cnt_mono r2 h
        have := cnt_mono r1 (show vl es1 i + 1 ≤ vl es2 j + 1 by omega)
        omega
      · intro h
        have h := of_decide_eq_false h
        have := cnt_mono r1 (show vl es2 j + 1 ≤ vl es1 i by omega)
        have := cnt_mono r2 (show vl es2 j + 1 ≤ vl es1 i by omega)
        omega
    · rcases List.mem_merge.mp hq with h | h
      · exact q1 q h
      · exact q2 q h
  have e : (List.merge J1 J2 fun a b => leV a.1 b.1).map (·.1) = joinE n1 es1 n2 es2 := by
    unfold joinE
    rw [← m1, ← m2]
    exact List.map_merge (f := Prod.fst) (r := fun a b : Ent × Int => leV a.1 b.1) (s := leV) fun a _ b _ => rfl
  rw [e] at key
  exact key
/-- the new entry's ranks -/
def lowOf (l : List Ent) : Int := if l.length = 0 then 1 else lo l (l.length - 1) + 1
def highOf (n : Int) (l : List Ent) : Int := if l.length = 0 then n + 1 else hi l 0
def ewL (n : Int) (ts : List Ent) (z : Int) : List Ent := ts.filter (fun e => decide (e.1 ≤ z)) ++ [(z, lowOf (ts.filter fun e => decide (e.1 ≤ z)), highOf n (ts.filter fun e => decide (z < e.1)))] ++ (ts.filter fun e => decide (z < e.1)).map fun e => rse e 1 1
end SR

set_option Elab.async false
set_option linter.all false
set_option maxRecDepth 100000
set_option maxHeartbeats 4000000
/-! What a keeper keeps: plain mathematics. -/
namespace SR
def outP (es : List Ent) (s : Int) (i : Nat) : Prop := hi es (i + 1) - lo es (i - 1) ≤ s
/-- entry after entry left out, each time the first that may be -/
inductive Thin (s : Int) : List Ent → List Ent → Prop
  | done {es : List Ent} : (∀ i, 1 ≤ i → i + 1 < es.length → ¬ outP es s i) → Thin s es es
  | step {es r : List Ent} (i : Nat) : 1 ≤ i → i + 1 < es.length → outP es s i → (∀ j, 1 ≤ j → j < i → ¬ outP es s j) → Thin s (es.eraseIdx i) r → Thin s es r
theorem Thin.one {s : Int} {es r : List Ent} (h : Thin s es r) : ∀ r', Thin s es r' → r = r' := by
  induction h with
  | done h =>
    intro r' h'
    cases h' with
    | done => rfl
    | step i i1 i2 o _ _ => exact absurd o (h i i1 i2)
  | step i i1 i2 o m _ ih =>
    intro r' h'
    cases h' with
    | done h => exact absurd o (h i i1 i2)
    | step j j1 j2 oj mj t =>
      have e : i = j := by
        rcases Nat.lt_trichotomy i j with h | h | h
        · exact absurd o (mj i i1 h)
        · exact h
        · exact absurd oj (m j j1 h)
      subst e
      exact ih _ t
theorem Thin.len {s : Int} {es r : List Ent} (h : Thin s es r) : r.length ≤ es.length := by
  induction h with
  | done => exact Nat.le_refl _
  | step i i1 i2 _ _ _ ih =>
    rw [List.length_eraseIdx] at ih
    split at ih <;> omega
theorem Thin.end_ {s : Int} {es r : List Ent} (h : Thin s es r) : ∀ i, 1 ≤ i → i + 1 < r.length → ¬ outP r s i := by
  induction h with
  | done h => exact h
  | step _ _ _ _ _ _ ih => exact ih
/-- gaps of neighbours -/
def gapsOK (g : Int) : List Ent → Prop
  | a :: b :: r => b.2.2 - a.2.1 ≤ g ∧ gapsOK g (b :: r)
  | _ => True
theorem gaps_app {g : Int} {a : Ent} {r : List Ent} : ∀ {l : List Ent}, gapsOK g (l ++ a :: r) ↔ gapsOK g (l ++ [a]) ∧ gapsOK g (a :: r)
  | [] => ⟨fun h => ⟨trivial, h⟩, fun h => h.2⟩
  | [x] => ⟨fun h => ⟨⟨h.1, trivial⟩, h.2⟩, fun h => ⟨h.1.1, h.2⟩⟩
  | x :: y :: l => by
    have ih := gaps_app (g := g) (a := a) (r := r) (l := y :: l)
    exact ⟨fun h => ⟨⟨h.1, (ih.mp h.2).1⟩, (ih.mp h.2).2⟩, fun h => ⟨h.1.1, ih.mpr ⟨h.1.2, h.2⟩⟩⟩
theorem gaps_mono {g g' : Int} (h : g ≤ g') : ∀ {l : List Ent}, gapsOK g l → gapsOK g' l
  | [], _ => trivial
  | [_], _ => trivial
  | _ :: b :: r, k => ⟨Int.le_trans k.1 h, gaps_mono h k.2⟩
theorem gaps_map {g : Int} : ∀ {l : List Ent}, gapsOK g l → gapsOK g (l.map fun e => rse e 1 1)
  | [], _ => trivial
  | [_], _ => trivial
  | a :: b :: r, k => ⟨by have := k.1; show b.2.2 + 1 - (a.2.1 + 1) ≤ g; omega, gaps_map (l := b :: r) k.2⟩
/-- what of the widths lies above c -/
def ovr (c : Int) (es : List Ent) : Int := (es.map fun e => max 0 (e.2.2 - e.2.1 - c)).sum
theorem ovr_app (c : Int) (a b : List Ent) : ovr c (a ++ b) = ovr c a + ovr c b := by unfold ovr; rw [List.map_append, List.sum_append]
theorem ovr_cons (c : Int) (e : Ent) (b : List Ent) : ovr c (e :: b) = max 0 (e.2.2 - e.2.1 - c) + ovr c b := by unfold ovr; rw [List.map_cons, List.sum_cons]
theorem ovr_map (c : Int) : ∀ l : List Ent, ovr c (l.map fun e => rse e 1 1) = ovr c l
  | [] => rfl
  | e :: r => by
    rw [List.map_cons, ovr_cons, ovr_cons, ovr_map c r]
    show max 0 (e.2.2 + 1 - (e.2.1 + 1) - c) + _ = _
    omega
def FF (p c : Int) : Nat → Int
  | 0 => 0
  | n + 1 => FF p c n + max 0 (max 1 (2 * (n : Int) / p) - 1 - c)
/-- how many are at most v -/
def cle (row : List Int) (v : Int) : Int := ((row.filter fun x => decide (x ≤ v)).length : Int)
theorem cle_app (a b : List Int) (v : Int) : cle (a ++ b) v = cle a v + cle b v := by unfold cle; rw [List.filter_append, List.length_append]; omega
theorem cle_one (x v : Int) : cle [x] v = if x ≤ v then 1 else 0 := by
  unfold cle
  by_cases h : x ≤ v
  · rw [if_pos h, List.filter_cons_of_pos (by simp [h])]; rfl
  · rw [if_neg h, List.filter_cons_of_neg (by simp [h])]; rfl
theorem cnt_one (x v : Int) : cnt [x] v = if x < v then 1 else 0 := by
  unfold cnt
  by_cases h : x < v
  · rw [if_pos h, List.filter_cons_of_pos (by simp [h])]; rfl
  · rw [if_neg h, List.filter_cons_of_neg (by simp [h])]; rfl
theorem fil_le (row : List Int) (f g : Int → Bool) (h : ∀ x, f x = true → g x = true) : ((row.filter f).length : Int) ≤ (row.filter g).length := by
  induction row with
  | nil => exact Int.le_refl _
  | cons x r ih =>
    by_cases c : f x = true
    · rw [List.filter_cons_of_pos c, List.filter_cons_of_pos (h x c), List.length_cons, List.length_cons]
      omega
    · rw [List.filter_cons_of_neg c]
      by_cases d : g x = true
      · rw [List.filter_cons_of_pos d, List.length_cons]; omega
      · rw [List.filter_cons_of_neg d]; exact ih
theorem cnt_cle (row : List Int) (v : Int) : cnt row v ≤ cle row v := fil_le row _ _ fun x h => by simp only [decide_eq_true_eq] at h ⊢; omega
theorem cle_mono (row : List Int) {v z : Int} (h : v ≤ z) : cle row v ≤ cle row z := fil_le row _ _ fun x k => by simp only [decide_eq_true_eq] at k ⊢; omega
theorem cle_cnt (row : List Int) {v z : Int} (h : v < z) : cle row v ≤ cnt row z := fil_le row _ _ fun x k => by simp only [decide_eq_true_eq] at k ⊢; omega
theorem cle_len (row : List Int) (v : Int) : 0 ≤ cle row v ∧ cle row v ≤ row.length := by
  unfold cle
  have := List.length_filter_le (fun x => decide (x ≤ v)) row
  omega
structure KI (n p : Int) (row : List Int) (es : List Ent) : Prop where
  len : n = row.length
  vals : es.Pairwise fun a b => a.1 ≤ b.1
  los : es.Pairwise fun a b => a.2.1 < b.2.1
  his : es.Pairwise fun a b => a.2.2 < b.2.2
  emp : es = [] ↔ n = 0
  fst : ∀ a r, es = a :: r → a.2.1 = 1 ∧ a.2.2 = 1
  lst : ∀ l b, es = l ++ [b] → b.2.1 = n ∧ b.2.2 = n
  gap : gapsOK (max 1 (2 * n / p)) es
  ranks : ∀ e ∈ es, ∃ ρ : Int, e.2.1 ≤ ρ ∧ ρ ≤ e.2.2 ∧ cnt row e.1 < ρ ∧ ρ ≤ cle row e.1
  wid : ∀ c, ovr c es ≤ FF p c n.toNat
theorem KI.nil (p : Int) : KI 0 p [] [] := ⟨rfl, .nil, .nil, .nil, ⟨fun _ => rfl, fun _ => rfl⟩, fun _ _ h => (nomatch h), fun l b h => absurd h (by simp), trivial, fun e h => (nomatch h), fun c => Int.le_refl 0⟩
theorem cut3 {es : List Ent} {i : Nat} (h1 : 1 ≤ i) (h2 : i + 1 < es.length) : ∃ l a x b r, es = l ++ a :: x :: b :: r ∧ l.length = i - 1 := by
  obtain ⟨k, rfl⟩ : ∃ k, i = k + 1 := ⟨i - 1, by omega⟩
  refine ⟨es.take k, es[k]'(by omega), es[k + 1]'(by omega), es[k + 2]'(by omega), es.drop (k + 3), ?_, ?_⟩
  · rw [List.getElem_cons_drop (i := k + 2) (by omega), List.getElem_cons_drop (i := k + 1) (by omega), List.getElem_cons_drop (i := k) (by omega), List.take_append_drop]
  · rw [List.length_take]; omega
theorem lo_app {l r : List Ent} {a : Ent} : lo (l ++ a :: r) l.length = a.2.1 := lo_of (by rw [List.getElem?_append_right (Nat.le_refl _), Nat.sub_self]; rfl)
theorem hi_app {l r : List Ent} {a : Ent} : hi (l ++ a :: r) l.length = a.2.2 := hi_of (by rw [List.getElem?_append_right (Nat.le_refl _), Nat.sub_self]; rfl)
theorem KI.out {n p : Int} {row : List Int} {es : List Ent} (h : KI n p row es) {i : Nat} (h1 : 1 ≤ i) (h2 : i + 1 < es.length) (ho : outP es (2 * n / p) i) : KI n p row (es.eraseIdx i) := by
  obtain ⟨l, a, x, b, r, rfl, hl⟩ := cut3 h1 h2
  have ei : i = (l ++ [a]).length := by rw [List.length_append, List.length_singleton]; omega
  have ee : (l ++ a :: x :: b :: r).eraseIdx i = l ++ a :: b :: r := by
    rw [show l ++ a :: x :: b :: r = (l ++ [a]) ++ x :: b :: r by simp, ei, List.eraseIdx_append_of_length_le (Nat.le_refl _), Nat.sub_self, List.eraseIdx_cons_zero]
    simp
  have sub : (l ++ a :: b :: r).Sublist (l ++ a :: x :: b :: r) := (List.Sublist.refl l).append ((List.sublist_cons_self x (b :: r)).cons₂ a)
  have hb : b.2.2 - a.2.1 ≤ 2 * n / p := by
    have o1 : hi (l ++ a :: x :: b :: r) (i + 1) = b.2.2 := by
      rw [show l ++ a :: x :: b :: r = (l ++ [a, x]) ++ b :: r by simp, show i + 1 = (l ++ [a, x]).length by rw [List.length_append]; show i + 1 = l.length + 2; omega]
      exact hi_app
    have o2 : lo (l ++ a :: x :: b :: r) (i - 1) = a.2.1 := by
      rw [show i - 1 = l.length from hl.symm]
      exact lo_app
    unfold outP at ho
    rw [o1, o2] at ho
    exact ho
  rw [ee]
  refine ⟨h.len, h.vals.sublist sub, h.los.sublist sub, h.his.sublist sub, ⟨fun z => absurd z (by simp), fun z => absurd (h.emp.mpr z) (by simp)⟩, fun a' r' e => ?_, fun l' b' e => ?_, ?_, fun e he => h.ranks e (sub.mem he), fun c => Int.le_trans ?_ (h.wid c)⟩
  · cases l with
    | nil =>
      obtain ⟨rfl, rfl⟩ := List.cons.inj e
      exact h.fst _ _ rfl
    | cons y l =>
      obtain ⟨rfl, rfl⟩ := List.cons.inj e
      exact h.fst _ _ rfl
  · have eb : (b :: r).dropLast ++ [(b :: r).getLast (by simp)] = b :: r := List.dropLast_concat_getLast (by simp)
    rw [← eb, ← List.cons_append, ← List.append_assoc] at e
    have e2 : (b :: r).getLast (by simp) = b' := by
      have := (List.append_inj' e rfl).2
      injection this
    refine h.lst (l ++ a :: x :: (b :: r).dropLast) b' ?_
    rw [List.append_assoc, List.cons_append, List.cons_append, ← e2, eb]
  · have g := h.gap
    rw [gaps_app] at g ⊢
    exact ⟨g.1, by omega, g.2.2.2⟩
  · simp only [ovr_app, ovr_cons]
    omega
theorem KI.thin {n p : Int} {row : List Int} {es r : List Ent} (t : Thin (2 * n / p) es r) : KI n p row es → KI n p row r := by
  induction t with
  | done => exact id
  | step i h1 h2 o _ _ ih => exact fun h => ih (h.out h1 h2 o)
theorem fil_split (z : Int) : ∀ {es : List Ent}, (es.Pairwise fun a b => a.1 ≤ b.1) → es = (es.filter fun e => decide (e.1 ≤ z)) ++ es.filter fun e => decide (z < e.1)
  | [], _ => rfl
  | x :: r, h => by
    obtain ⟨h1, h2⟩ := List.pairwise_cons.mp h
    by_cases c : x.1 ≤ z
    · rw [List.filter_cons_of_pos (by simp [c]), List.filter_cons_of_neg (by simp; omega), List.cons_append, ← fil_split z h2]
    · have e1 : (r.filter fun e => decide (e.1 ≤ z)) = [] := List.filter_eq_nil_iff.mpr fun e he => by have := h1 e he; simp; omega
      have e2 : (r.filter fun e => decide (z < e.1)) = r := List.filter_eq_self.mpr fun e he => by have := h1 e he; simp; omega
      rw [List.filter_cons_of_neg (by simp [c]), List.filter_cons_of_pos (by simp; omega), e1, e2]
      rfl

theorem lowOf_app (l : List Ent) (b : Ent) : lo (l ++ [b]) ((l ++ [b]).length - 1) = b.2.1 := by
  rw [List.length_append, List.length_singleton, Nat.add_sub_cancel]
  exact lo_app
theorem KI.in_ {n p : Int} {row : List Int} {B A : List Ent} (h : KI n p row (B ++ A)) (z : Int) (hp : 0 < p) (hB : ∀ e ∈ B, e.1 ≤ z) (hA : ∀ e ∈ A, z < e.1) (x : Ent) (x1 : x.1 = z)
    (x2 : x.2.1 = if B.length = 0 then 1 else lo B (B.length - 1) + 1) (x3 : x.2.2 = if A.length = 0 then n + 1 else hi A 0) : KI (n + 1) p (row ++ [z]) (B ++ [x] ++ A.map fun e => rse e 1 1) := by
  have hl := h.len
  have pos : ∀ e ∈ B ++ A, 1 ≤ e.2.1 ∧ e.2.1 ≤ e.2.2 ∧ e.2.1 ≤ n ∧ e.2.2 ≤ n ∧ 1 ≤ e.2.2 := by
    intro e he
    obtain ⟨ρ, r1, r2, _⟩ := h.ranks e he
    have a1 : 1 ≤ e.2.1 := by
      cases hE : B ++ A with
      | nil => rw [hE] at he; cases he
      | cons a r =>
        have f := h.fst a r hE
        rw [hE] at he
        have pw := h.los
        rw [hE] at pw
        rcases List.mem_cons.mp he with rfl | hm
        · omega
        · have := (List.pairwise_cons.mp pw).1 e hm; omega
    have a2 : e.2.2 ≤ n := by
      have ne : B ++ A ≠ [] := fun z => by rw [z] at he; cases he
      have eb := List.dropLast_concat_getLast ne
      have f := h.lst _ _ eb.symm
      have pw := h.his
      rw [← eb] at pw he
      rcases List.mem_append.mp he with hm | hm
      · have := (List.pairwise_append.mp pw).2.2 e hm _ (List.mem_singleton.mpr rfl); omega
      · rw [List.mem_singleton.mp hm]; omega
    omega
  obtain ⟨v1, v2, v3⟩ := List.pairwise_append.mp h.vals
  obtain ⟨l1, l2, l3⟩ := List.pairwise_append.mp h.los
  obtain ⟨h1, h2, h3⟩ := List.pairwise_append.mp h.his
  -- the new entry between its neighbours
  have xb : ∀ e ∈ B, e.2.1 + 1 ≤ x.2.1 ∧ e.2.2 < x.2.2 := by
    intro e he
    have pe := pos e (List.mem_append_left _ he)
    have ne : B ≠ [] := fun z => by rw [z] at he; cases he
    have nl : B.length ≠ 0 := fun z => ne (List.length_eq_zero_iff.mp z)
    have eb := List.dropLast_concat_getLast ne
    have xl : x.2.1 = (B.getLast ne).2.1 + 1 := by
      rw [x2, if_neg nl]
      have := lowOf_app B.dropLast (B.getLast ne)
      rw [eb] at this
      rw [this]
    constructor
    · have pw := l1
      rw [← eb] at pw he
      rcases List.mem_append.mp he with hm | hm
      · have := (List.pairwise_append.mp pw).2.2 e hm _ (List.mem_singleton.mpr rfl); omega
      · rw [List.mem_singleton.mp hm]; omega
    · cases A with
      | nil => rw [x3, if_pos List.length_nil]; omega
      | cons a A' =>
        rw [x3, if_neg (by simp)]
        have := h3 e he a (List.mem_cons_self ..)
        exact this
  have xa : ∀ e ∈ A, x.2.1 ≤ e.2.1 ∧ x.2.2 ≤ e.2.2 := by
    intro e he
    have pe := pos e (List.mem_append_right _ he)
    constructor
    · rw [x2]
      by_cases nl : B.length = 0
      · rw [if_pos nl]; omega
      · rw [if_neg nl]
        have ne : B ≠ [] := fun z => nl (by rw [z]; rfl)
        have eb := List.dropLast_concat_getLast ne
        have := lowOf_app B.dropLast (B.getLast ne)
        rw [eb] at this
        rw [this]
        have := l3 _ (List.getLast_mem ne) e he
        omega
    · cases A with
      | nil => cases he
      | cons a A' =>
        rw [x3, if_neg (by simp)]
        show a.2.2 ≤ _
        rcases List.mem_cons.mp he with rfl | hm
        · exact Int.le_refl _
        · have := (List.pairwise_cons.mp h2).1 e hm; omega
  have hz := cle_len row z
  have xρ : x.2.1 ≤ cle row z + 1 ∧ cle row z + 1 ≤ x.2.2 := by
    constructor
    · rw [x2]
      by_cases nl : B.length = 0
      · rw [if_pos nl]; omega
      · rw [if_neg nl]
        have ne : B ≠ [] := fun z => nl (by rw [z]; rfl)
        have eb := List.dropLast_concat_getLast ne
        have := lowOf_app B.dropLast (B.getLast ne)
        rw [eb] at this
        rw [this]
        obtain ⟨ρ, r1, r2, r3, r4⟩ := h.ranks _ (List.mem_append_left _ (List.getLast_mem ne))
        have := cle_mono row (hB _ (List.getLast_mem ne))
        omega
    · cases A with
      | nil => rw [x3, if_pos List.length_nil]; omega
      | cons a A' =>
        rw [x3, if_neg (by simp)]
        show _ ≤ a.2.2
        obtain ⟨ρ, r1, r2, r3, r4⟩ := h.ranks a (List.mem_append_right _ (List.mem_cons_self ..))
        have := cle_cnt row (hA a (List.mem_cons_self ..))
        omega
  have n0 : 0 ≤ n := by omega
  have q0 : 2 * n / p ≤ 2 * (n + 1) / p := Int.ediv_le_ediv hp (by omega)
  -- neighbours' gaps
  have gb : ∀ l b, B = l ++ [b] → x.2.2 - b.2.1 ≤ max 1 (2 * n / p) ∧ x.2.1 = b.2.1 + 1 := by
    intro l b e
    have xl : x.2.1 = b.2.1 + 1 := by
      rw [x2, if_neg (by rw [e]; simp), e]
      rw [lowOf_app]
    refine ⟨?_, xl⟩
    cases A with
    | nil =>
      rw [x3, if_pos List.length_nil]
      have := h.lst l b (by rw [List.append_nil, e])
      omega
    | cons a A' =>
      rw [x3, if_neg (by simp)]
      show a.2.2 - _ ≤ _
      have g := h.gap
      rw [e, List.append_assoc, List.singleton_append, gaps_app] at g
      exact g.2.1
  have ga : ∀ a r, A = a :: r → a.2.2 + 1 - x.2.1 ≤ max 1 (2 * n / p) ∧ x.2.2 = a.2.2 := by
    intro a r e
    have xr : x.2.2 = a.2.2 := by rw [x3, if_neg (by rw [e]; simp), e]; rfl
    refine ⟨?_, xr⟩
    by_cases nl : B.length = 0
    · rw [x2, if_pos nl]
      have := h.fst a r (by rw [List.length_eq_zero_iff.mp nl, e]; rfl)
      omega
    · have ne : B ≠ [] := fun z => nl (by rw [z]; rfl)
      have eb := List.dropLast_concat_getLast ne
      have g := gb _ _ eb.symm
      omega
  have xw : x.2.2 - x.2.1 ≤ max 1 (2 * n / p) - 1 := by
    by_cases nl : B.length = 0
    · cases A with
      | nil =>
        have := h.emp.mp (by rw [List.length_eq_zero_iff.mp nl]; rfl)
        rw [x2, x3, if_pos nl, if_pos List.length_nil]
        omega
      | cons a A' =>
        have := h.fst a A' (by rw [List.length_eq_zero_iff.mp nl]; rfl)
        have := ga a A' rfl
        rw [x2, if_pos nl] at *
        omega
    · have ne : B ≠ [] := fun z => nl (by rw [z]; rfl)
      have g := gb _ _ (List.dropLast_concat_getLast ne).symm
      omega
  refine ⟨by rw [List.length_append, List.length_singleton, hl]; omega, ?_, ?_, ?_, ⟨fun z => absurd z (by simp), fun z => by omega⟩, ?_, ?_, ?_, ?_, fun c => ?_⟩
  · rw [List.append_assoc]
    refine List.pairwise_append.mpr ⟨v1, List.pairwise_cons.mpr ⟨fun e he => ?_, ?_⟩, fun e he f hf => ?_⟩
    · obtain ⟨a, ha, rfl⟩ := List.mem_map.mp he
      have := hA a ha
      show x.1 ≤ a.1
      omega
    · exact List.pairwise_map.mpr v2
    · rcases List.mem_cons.mp hf with rfl | hf
      · have := hB e he; omega
      · obtain ⟨a, ha, rfl⟩ := List.mem_map.mp hf
        have := hA a ha
        have := hB e he
        show e.1 ≤ a.1
        omega
  · rw [List.append_assoc]
    refine List.pairwise_append.mpr ⟨l1, List.pairwise_cons.mpr ⟨fun e he => ?_, ?_⟩, fun e he f hf => ?_⟩
    · obtain ⟨a, ha, rfl⟩ := List.mem_map.mp he
      have := xa a ha
      show x.2.1 < a.2.1 + 1
      omega
    · refine List.pairwise_map.mpr (l2.imp fun {a b} k => ?_)
      show a.2.1 + 1 < b.2.1 + 1
      omega
    · rcases List.mem_cons.mp hf with rfl | hf
      · have := xb e he; omega
      · obtain ⟨a, ha, rfl⟩ := List.mem_map.mp hf
        have := xa a ha
        have := xb e he
        show e.2.1 < a.2.1 + 1
        omega
  · rw [List.append_assoc]
    refine List.pairwise_append.mpr ⟨h1, List.pairwise_cons.mpr ⟨fun e he => ?_, ?_⟩, fun e he f hf => ?_⟩
    · obtain ⟨a, ha, rfl⟩ := List.mem_map.mp he
      have := xa a ha
      show x.2.2 < a.2.2 + 1
      omega
    · refine List.pairwise_map.mpr (h2.imp fun {a b} k => ?_)
      show a.2.2 + 1 < b.2.2 + 1
      omega
    · rcases List.mem_cons.mp hf with rfl | hf
      · have := xb e he; omega
      · obtain ⟨a, ha, rfl⟩ := List.mem_map.mp hf
        have := xa a ha
        have := xb e he
        show e.2.2 < a.2.2 + 1
        omega
  · intro a r e
    cases B with
    | nil =>
      obtain ⟨rfl, _⟩ := List.cons.inj e
      have y2 := x2
      rw [if_pos List.length_nil] at y2
      cases A with
      | nil =>
        have := h.emp.mp rfl
        rw [if_pos List.length_nil] at x3
        omega
      | cons a A' =>
        have := h.fst a A' rfl
        have := ga a A' rfl
        omega
    | cons b B' =>
      obtain ⟨rfl, _⟩ := List.cons.inj e
      exact h.fst _ _ rfl
  · intro l b e
    by_cases na : A = []
    · subst na
      have eb : x = b := by
        have := (List.append_inj' (show B ++ [x] = l ++ [b] by rw [← e, List.map_nil, List.append_nil]) rfl).2
        injection this
      rw [← eb]
      rw [if_pos List.length_nil] at x3
      refine ⟨?_, x3⟩
      by_cases nl : B.length = 0
      · have := h.emp.mp (by rw [List.length_eq_zero_iff.mp nl]; rfl)
        rw [x2, if_pos nl]; omega
      · have ne : B ≠ [] := fun z => nl (by rw [z]; rfl)
        have q := List.dropLast_concat_getLast ne
        have := h.lst _ _ (show B ++ [] = _ ++ [_] by rw [List.append_nil]; exact q.symm)
        have := gb _ _ q.symm
        omega
    · have q := List.dropLast_concat_getLast na
      have f := h.lst (B ++ A.dropLast) (A.getLast na) (by rw [List.append_assoc, q])
      have eb : rse (A.getLast na) 1 1 = b := by
        have : (B ++ [x] ++ A.dropLast.map (fun e => rse e 1 1)) ++ [rse (A.getLast na) 1 1] = l ++ [b] := by
          rw [← e, List.append_assoc _ _ [_]]
          congr 1
          conv => rhs; rw [← q]
          rw [List.map_append]
          rfl
        have := (List.append_inj' this rfl).2
        injection this
      rw [← eb]
      show (A.getLast na).2.1 + 1 = n + 1 ∧ (A.getLast na).2.2 + 1 = n + 1
      omega
  · refine gaps_mono (g := max 1 (2 * n / p)) (by omega) ?_
    rw [List.append_assoc, List.singleton_append, gaps_app]
    constructor
    · by_cases ne : B = []
      · rw [ne]; trivial
      · have eb := List.dropLast_concat_getLast ne
        have g := h.gap
        have k := gb _ _ eb.symm
        have g2 : gapsOK (max 1 (2 * n / p)) (B.dropLast ++ B.getLast ne :: A) := by
          rw [show B.dropLast ++ B.getLast ne :: A = B ++ A by conv => rhs; rw [← eb, List.append_assoc, List.singleton_append]]
          exact g
        have e2 : B ++ [x] = B.dropLast ++ B.getLast ne :: [x] := by conv => lhs; rw [← eb, List.append_assoc, List.singleton_append]
        rw [e2, gaps_app]
        exact ⟨(gaps_app.mp g2).1, k.1, trivial⟩
    · cases A with
      | nil => trivial
      | cons a A' =>
        have g := ga a A' rfl
        refine ⟨by show a.2.2 + 1 - x.2.1 ≤ _; omega, gaps_map (l := a :: A') ?_⟩
        have k := h.gap
        rw [gaps_app] at k
        exact k.2
  · intro e he
    rw [List.append_assoc] at he
    rcases List.mem_append.mp he with he | he
    · obtain ⟨ρ, r1, r2, r3, r4⟩ := h.ranks e (List.mem_append_left _ he)
      have := hB e he
      refine ⟨ρ, r1, r2, ?_, ?_⟩
      · rw [cnt_append, cnt_one, if_neg (by omega)]; omega
      · rw [cle_app, cle_one]; split <;> omega
    · rcases List.mem_cons.mp he with rfl | he
      · refine ⟨cle row z + 1, xρ.1, xρ.2, ?_, ?_⟩
        · have := cnt_cle row z
          rw [x1, cnt_append, cnt_one, if_neg (by omega)]; omega
        · rw [x1, cle_app, cle_one, if_pos (Int.le_refl _)]; omega
      · obtain ⟨a, ha, rfl⟩ := List.mem_map.mp he
        obtain ⟨ρ, r1, r2, r3, r4⟩ := h.ranks a (List.mem_append_right _ ha)
        have := hA a ha
        refine ⟨ρ + 1, ?_, ?_, ?_, ?_⟩
        · show a.2.1 + 1 ≤ _; omega
        · show _ ≤ a.2.2 + 1; omega
        · show cnt _ a.1 < _
          rw [cnt_append, cnt_one, if_pos (by omega)]; omega
        · show _ ≤ cle _ a.1
          rw [cle_app, cle_one, if_pos (by omega)]; omega
  · rw [ovr_app, ovr_app, ovr_map, ovr_cons, show (n + 1).toNat = n.toNat + 1 by omega]
    have k := h.wid c
    rw [ovr_app] at k
    show _ ≤ FF p c n.toNat + max 0 (max 1 (2 * (n.toNat : Int) / p) - 1 - c)
    rw [show (n.toNat : Int) = n by omega]
    show ovr c B + (_ + 0) + ovr c A ≤ _
    omega
theorem KI.saw {n p : Int} {row : List Int} {es : List Ent} (h : KI n p row es) (z : Int) (hp : 0 < p) : KI (n + 1) p (row ++ [z]) (ewL n es z) := by
  have e := fil_split z h.vals
  have h' : KI n p row ((es.filter fun e => decide (e.1 ≤ z)) ++ es.filter fun e => decide (z < e.1)) := by rw [← e]; exact h
  exact h'.in_ z hp (fun e he => of_decide_eq_true (List.mem_filter.mp he).2) (fun e he => of_decide_eq_true (List.mem_filter.mp he).2) _ rfl rfl rfl
/-- sums over neighbours but one -/
def trip : List Ent → Int
  | a :: b :: c :: r => c.2.2 - a.2.1 + trip (b :: c :: r)
  | _ => 0
theorem trip_le {M : Int} : ∀ {a b : Ent} {r : List Ent}, ((a :: b :: r).Pairwise fun a b => a.2.1 < b.2.1) → (∀ e ∈ a :: b :: r, e.2.1 ≤ M) → trip (a :: b :: r) + a.2.2 + b.2.2 ≤ ((a :: b :: r).map fun e => e.2.2 - e.2.1).sum + 2 * M - 1
  | a, b, [], h, k => by
    have h1 := (List.pairwise_cons.mp h).1 b (by simp)
    have h2 := k b (by simp)
    simp only [List.map_cons, List.map_nil, List.sum_cons, List.sum_nil]
    show 0 + a.2.2 + b.2.2 ≤ _
    omega
  | a, b, c :: r, h, k => by
    have ih := trip_le (M := M) (List.pairwise_cons.mp h).2 (fun e he => k e (List.mem_cons_of_mem _ he))
    have h1 := (List.pairwise_cons.mp h).1 b (by simp)
    rw [List.map_cons, List.sum_cons]
    show c.2.2 - a.2.1 + trip (b :: c :: r) + a.2.2 + b.2.2 ≤ _
    omega
theorem trip_ge {s : Int} : ∀ {a b : Ent} {r : List Ent}, (∀ i, 1 ≤ i → i + 1 < (a :: b :: r).length → ¬ outP (a :: b :: r) s i) → (r.length : Int) * (s + 1) ≤ trip (a :: b :: r)
  | a, b, [], _ => by show (0 : Int) * _ ≤ 0; omega
  | a, b, c :: r, h => by
    have ih := trip_ge (s := s) (a := b) (b := c) (r := r) fun i i1 i2 o => h (i + 1) (by omega) (by simp only [List.length_cons] at i2 ⊢; omega) (by
      obtain ⟨j, rfl⟩ : ∃ j, i = j + 1 := ⟨i - 1, by omega⟩
      exact o)
    have h1 := h 1 (Nat.le_refl _) (by simp only [List.length_cons]; omega)
    have h2 : ¬ c.2.2 - a.2.1 ≤ s := h1
    rw [List.length_cons]
    show ((r.length + 1 : Nat) : Int) * (s + 1) ≤ c.2.2 - a.2.1 + trip (b :: c :: r)
    rw [Int.natCast_add, Int.add_mul]
    show _ + 1 * _ ≤ _
    omega
theorem wid_ovr (c : Int) : ∀ l : List Ent, (l.map fun e => e.2.2 - e.2.1).sum ≤ l.length * c + ovr c l
  | [] => by simp [ovr]
  | e :: r => by
    have ih := wid_ovr c r
    rw [List.map_cons, List.sum_cons, ovr_cons, List.length_cons, Int.natCast_add, Int.add_mul]
    show _ ≤ _ + 1 * c + _
    omega
def okE (n p c : Nat) : Bool := decide (40 * (c : Int) + FF p c n + 2 * n - 4 < 39 * (2 * (n : Int) / p + 1))
theorem okE_all : ∀ n : Fin 70, ∀ p : Fin 21, 2 ≤ p.val → n.val = 0 ∨ okE n p 0 = true ∨ okE n p 1 = true ∨ okE n p 2 = true ∨ okE n p 3 = true := by decide +kernel
theorem KI.few {n p : Int} {row : List Int} {es : List Ent} (h : KI n p row es) (p2 : 2 ≤ p) (p20 : p ≤ 20) (n69 : n ≤ 69) (hl : es.length ≤ 41) (ho : ∀ i, 1 ≤ i → i + 1 < es.length → ¬ outP es (2 * n / p) i) : es.length ≤ 40 := by
  apply Classical.byContradiction
  intro hc
  have el : es.length = 41 := by omega
  match es, h, ho, el with
  | a :: b :: r, h, ho, el =>
    have lr : r.length = 39 := by simp only [List.length_cons] at el; omega
    have hr := h.len
    have n0 : n ≠ 0 := fun z => absurd (h.emp.mpr z) (by simp)
    have fa := h.fst a _ rfl
    have hb := (List.pairwise_cons.mp h.his).1 b (by simp)
    have lM : ∀ e ∈ a :: b :: r, e.2.1 ≤ n := by
      intro e he
      have eb := List.dropLast_concat_getLast (l := a :: b :: r) (by simp)
      have f := h.lst _ _ eb.symm
      have pw := h.los
      rw [← eb] at pw he
      rcases List.mem_append.mp he with hm | hm
      · have := (List.pairwise_append.mp pw).2.2 e hm _ (List.mem_singleton.mpr rfl); omega
      · rw [List.mem_singleton.mp hm]; omega
    have t1 := trip_le h.los lM
    have t2 := trip_ge ho
    rw [List.map_cons, List.sum_cons] at t1
    rw [lr] at t2
    have key : ∀ c : Nat, okE n.toNat p.toNat c = true → False := by
      intro c hk
      have k := of_decide_eq_true hk
      have w1 := wid_ovr c (b :: r)
      have w2 := h.wid c
      rw [ovr_cons] at w2
      rw [List.length_cons, lr] at w1
      rw [show (n.toNat : Int) = n by omega, show (p.toNat : Int) = p by omega] at k
      have e40 : ((39 + 1 : Nat) : Int) * (c : Int) = 40 * c := rfl
      rw [e40] at w1
      have e39 : ((39 : Nat) : Int) * (2 * n / p + 1) = 39 * (2 * n / p + 1) := rfl
      rw [e39] at t2
      omega
    have := okE_all ⟨n.toNat, by omega⟩ ⟨p.toNat, by omega⟩ (by show 2 ≤ p.toNat; omega)
    rcases this with q | q | q | q | q
    · have q : n.toNat = 0 := q; omega
    · exact key 0 q
    · exact key 1 q
    · exact key 2 q
    · exact key 3 q
theorem ab_max (a b g : Int) : max (ab a) (ab b) ≤ g ↔ a ≤ g ∧ -a ≤ g ∧ b ≤ g ∧ -b ≤ g := by
  unfold ab
  split <;> split <;> omega
theorem near_aux {g n k : Int} (g0 : 0 ≤ g) (kn : k ≤ n) : ∀ {a : Ent} {r : List Ent}, gapsOK g (a :: r) → ((a :: r).Pairwise fun a b => a.2.1 < b.2.1) → ((a :: r).Pairwise fun a b => a.2.2 < b.2.2) → (∀ e ∈ a :: r, e.2.1 ≤ e.2.2) → a.2.1 ≤ k →
    (∀ l b, a :: r = l ++ [b] → b.2.1 = n ∧ b.2.2 = n) → ∃ e ∈ a :: r, er k e ≤ g
  | a, [], _, _, _, _, ak, hl => by
    have := hl [] a rfl
    refine ⟨a, List.mem_cons_self .., ?_⟩
    unfold er
    rw [ab_max]
    omega
  | a, b :: r, hg, h1, h2, h3, ak, hl => by
    by_cases c : b.2.1 ≤ k
    · obtain ⟨e, he, q⟩ := near_aux g0 kn hg.2 (List.pairwise_cons.mp h1).2 (List.pairwise_cons.mp h2).2 (fun e he => h3 e (List.mem_cons_of_mem _ he)) c (fun l x e => hl (a :: l) x (by rw [e]; rfl))
      exact ⟨e, List.mem_cons_of_mem _ he, q⟩
    · refine ⟨a, List.mem_cons_self .., ?_⟩
      have g1 := hg.1
      have x1 := h3 a (by simp)
      have x2 := h3 b (by simp)
      have x3 := (List.pairwise_cons.mp h2).1 b (by simp)
      unfold er
      rw [ab_max]
      omega
theorem KI.near {n p : Int} {row : List Int} {es : List Ent} (h : KI n p row es) {k : Int} (k1 : 1 ≤ k) (kn : k ≤ n) : ∃ e ∈ es, er k e ≤ max 1 (2 * n / p) := by
  cases es with
  | nil => have := h.emp.mp rfl; omega
  | cons a r =>
    refine near_aux (by omega) kn h.gap h.los h.his (fun e he => ?_) (by have := h.fst a r rfl; omega) h.lst
    obtain ⟨ρ, r1, r2, _⟩ := h.ranks e he
    omega
/-- the told value is near -/
theorem KI.told {n p : Int} {row : List Int} {es : List Ent} (h : KI n p row es) {k : Int} {e : Ent} (he : e ∈ es) (hk : er k e ≤ max 1 (2 * n / p)) : cnt row e.1 + 1 ≤ cle row e.1 ∧ max (cnt row e.1 + 1 - k) (k - cle row e.1) ≤ max 1 (2 * n / p) := by
  obtain ⟨ρ, r1, r2, r3, r4⟩ := h.ranks e he
  unfold er at hk
  rw [ab_max] at hk
  omega
/-- how long a row of entries is -/
theorem ewL_len {n p : Int} {row : List Int} {es : List Ent} (h : KI n p row es) (z : Int) : (ewL n es z).length = es.length + 1 := by
  unfold ewL
  have e := congrArg List.length (fil_split z h.vals)
  rw [List.length_append] at e
  rw [List.length_append, List.length_append, List.length_map, List.length_singleton]
  omega
end SR

set_option Elab.async false
set_option linter.all false
set_option maxRecDepth 100000
set_option maxHeartbeats 4000000
/-! Parts of a tuple of entries, two put together. -/
namespace SR
open PySem PySem.Spec PyProof.Rows L2
theorem pr_take {A B : Type} {F : A → B → Prop} : ∀ {l : List A} {m : List B} (n : Nat), Paired F l m → Paired F (l.take n) (m.take n)
  | _, _, _, .nil => by simp; exact .nil
  | _, _, 0, .cons r t => by simp; exact .nil
  | _, _, n + 1, .cons r t => by simp; exact .cons r (pr_take n t)
section
variable {K : PySem.W.Frag} {H : Hp} {Q : VK}
theorem sl_fromE {x : V} {es : List Ent} {t : Nat} (hx : TupV H x es) (ht : t ≤ es.length) (k : ∀ v H', Same H H' → TupV H' v (es.drop t) → Q v H') : rSlA K x (some (t : Int)) none H Q := by
  obtain ⟨tr, vs, rfl, hr, he⟩ := hx
  have htl : t ≤ vs.length := by rw [he.len]; exact ht
  refine ⟨tr, _, rfl, SqT.of hr, fun ⟨h1, _⟩ => ?_, fun _ p np => ?_⟩
  · rw [show HT.sIx vs.length 0 (some (t : Int)) = min t vs.length from HT.sIx_nat _ 0 t, Nat.min_eq_left htl] at h1
    refine k _ _ (Same.refl _) ⟨tr, vs, rfl, hr, ?_⟩
    rw [h1, List.drop_zero]; exact he
  · refine k _ _ (Same_new np) ⟨p, vs.drop t, rfl, ?_, EntsV.mono (Same_new np) (pr_drop t he)⟩
    rw [upd_same, cut_from htl]
theorem sl_toE {x : V} {es : List Ent} {t : Nat} (hx : TupV H x es) (ht : t ≤ es.length) (k : ∀ v H', Same H H' → TupV H' v (es.take t) → Q v H') : rSlA K x none (some (t : Int)) H Q := by
  obtain ⟨tr, vs, rfl, hr, he⟩ := hx
  have htl : t ≤ vs.length := by rw [he.len]; exact ht
  refine ⟨tr, _, rfl, SqT.of hr, fun ⟨_, h1⟩ => ?_, fun _ p np => ?_⟩
  · rw [show HT.sIx vs.length vs.length (some (t : Int)) = min t vs.length from HT.sIx_nat _ _ t, Nat.min_eq_left htl] at h1
    refine k _ _ (Same.refl _) ⟨tr, vs, rfl, hr, ?_⟩
    rw [h1, he.len, List.take_length]; exact he
  · refine k _ _ (Same_new np) ⟨p, vs.take t, rfl, ?_, EntsV.mono (Same_new np) (pr_take t he)⟩
    rw [upd_same, cut_to htl]
theorem cat_E {x y : V} {a b : List Ent} (hx : TupV H x a) (hy : TupV H y b) (hl : a.length + b.length ≤ 900) (k : ∀ v H', Same H H' → TupV H' v (a ++ b) → Q v H') : rCatA K x y H Q := by
  obtain ⟨p, xs, rfl, hp, ha⟩ := hx
  obtain ⟨q, ys, rfl, hq, hb⟩ := hy
  have la := ha.len
  have lb := hb.len
  refine ⟨p, q, _, _, rfl, rfl, SqT.of hp, SqT.of hq, ?_, fun h => ?_, fun _ h => ?_, fun _ _ r nr => ?_⟩
  · exact Nat.le_of_lt (small1000 (by omega))
  · have e : a = [] := List.length_eq_zero_iff.mp (by rw [← la, h]; rfl)
    subst e
    exact k _ _ (Same.refl _) ⟨q, ys, rfl, hq, hb⟩
  · have e : b = [] := List.length_eq_zero_iff.mp (by rw [← lb, h]; rfl)
    subst e
    exact k _ _ (Same.refl _) ⟨p, xs, rfl, hp, by rw [List.append_nil]; exact ha⟩
  · exact k _ _ (Same_new nr) ⟨r, xs ++ ys, rfl, upd_same, EntsV.mono (Same_new nr) (pr_app ha hb)⟩
end
/-- entries without one -/
theorem valid_part {n : Int} {es : List Ent} {f : List Ent} (v : Valid n es) (h : f.Sublist es) : Valid n f where
  n1 := v.n1
  n2 := v.n2
  len := Nat.le_trans h.length_le v.len
  ent := fun j hj => by
    have hm : f[j] ∈ es := h.subset (List.getElem_mem hj)
    obtain ⟨i, hi, e⟩ := List.mem_iff_getElem.mp hm
    have e1 : f[j]? = some f[j] := List.getElem?_eq_getElem hj
    have e2 : es[i]? = some f[j] := by rw [List.getElem?_eq_getElem hi, e]
    have := v.ent i hi
    rw [vl_of e2, lo_of e2, hi_of e2] at this
    rw [vl_of e1, lo_of e1, hi_of e1]
    exact this
  asc := fun j hj => by
    have hp : es.Pairwise fun a b => a.1 ≤ b.1 := by
      have all : ∀ d i, i + d < es.length → vl es i ≤ vl es (i + d) := by
        intro d
        induction d with
        | zero => intro i _; exact Int.le_refl _
        | succ d ih => intro i hi; exact Int.le_trans (ih i (by omega)) (v.asc (i + d) (by omega))
      rw [List.pairwise_iff_getElem]
      intro i k hi hk hik
      have := all (k - i) i (by omega)
      rw [show i + (k - i) = k by omega, vl_of (List.getElem?_eq_getElem hi), vl_of (List.getElem?_eq_getElem hk)] at this
      exact this
    have hq := hp.sublist h
    have e1 : f[j]? = some f[j] := List.getElem?_eq_getElem (by omega)
    have e2 : f[j + 1]? = some f[j + 1] := List.getElem?_eq_getElem hj
    rw [vl_of e1, vl_of e2]
    exact List.pairwise_iff_getElem.mp hq j (j + 1) (by omega) hj (by omega)
theorem cut_out {α : Type} (l : List α) (k : Nat) : (l.take k ++ l.drop (k + 1)).Sublist l := by
  have : (l.take k ++ l.drop (k + 1)).Sublist (l.take k ++ l.drop k) := List.Sublist.append (List.Sublist.refl _) (by
    rw [show l.drop (k + 1) = (l.drop k).drop 1 by rw [List.drop_drop]]
    exact List.drop_sublist _ _)
  rw [List.take_append_drop] at this
  exact this
theorem ent_ix {H : Hp} {us : List V} {es : List Ent} (he : EntsV H us es) {j : Nat} (h : j < es.length) : ∃ t, us[j]? = some (.ref t) ∧ H t = some (.tup [.int (vl es j), .int (lo es j), .int (hi es j)]) := by
  obtain ⟨v, hv, t, rfl, ht⟩ := pr_at he (ent_at h)
  exact ⟨t, hv, ht⟩
end SR

set_option Elab.async false
set_option linter.all false
set_option maxRecDepth 100000
set_option maxHeartbeats 4000000
/-! The package's own defs: what is checked. -/
namespace SR
open PySem PySem.Spec PyProof.Rows L2
section
variable {P : Program} {w : World} {K : PySem.W.Frag} {mg : Str → Option Value} {base : Heap}
def spIsInt : Sp := fun vs H Q _ => ∃ i : Int, vs = [.int i] ∧ Q (.bl true) H
theorem sc_is_integer : FnScope ["value"] ["value"] (defScope s_is_integer) := ⟨rfl, rfl, rfl, by decide +kernel, rfl, by decide +kernel, by decide +kernel⟩
theorem ok_is_integer {f : Addr} {fd : FuncData} (F : Fun K "is_integer" "is_integer" s_is_integer f fd) (mi : mg "isinstance" = none) (mint : mg "int" = none) (mb : mg "bool" = none) : FnOk P w K mg base CX0 1 f fd ["value"] spIsInt := by
  refine F.ok sc_is_integer (fun vs H Q E h => ?_) (fun cdv A outer s H vs Q E hr h => ?_)
  · obtain ⟨i, rfl, _⟩ := h
    rfl
  · obtain ⟨i, rfl, k⟩ := h
    refine ⟨_, pss_one (ps_ret (pe_and (pe_callB call_isi (by rfl) mi (by decide +kernel) (pa_cons (pv 0) (pa_cons (pe_bltn (v := .ty "int") (by rfl) mint (by decide +kernel) rfl) pa_nil)))
      (pe_one (pe_not (pe_callB call_isi (by rfl) mi (by decide +kernel) (pa_cons (pv 0) (pa_cons (pe_bltn (v := .ty "bool") (by rfl) mb (by decide +kernel) rfl) pa_nil))))))), ?_⟩
    refine ⟨_, rfl, _, _, _, _, true, rfl, .ty _, .base (.int i), kit_ty (by decide +kernel), true, rfl, iteT ?_⟩
    refine ⟨_, rfl, _, _, _, _, false, rfl, .ty _, .base (.int i), kit_ty (by decide +kernel), false, rfl, ?_⟩
    exact k
def spBetween : Sp := fun vs H Q _ => ∃ v a b : Int, vs = [.int v, .int a, .int b] ∧ Q (.bl (decide (a ≤ v) && decide (v ≤ b))) H
theorem sc_is_between : FnScope ["value", "least", "greatest"] ["value", "least", "greatest"] (defScope s_is_between) := ⟨rfl, rfl, rfl, by decide +kernel, rfl, by decide +kernel, by decide +kernel⟩
theorem ok_is_between {f : Addr} {fd : FuncData} (F : Fun K "is_between" "is_between" s_is_between f fd) (D1 : Dn P w K mg base "is_integer" ["value"] 1 spIsInt) : FnOk P w K mg base CX0 2 f fd ["value", "least", "greatest"] spBetween := by
  refine F.ok sc_is_between (fun vs H Q E h => ?_) (fun cdv A outer s H vs Q E hr h => ?_)
  · obtain ⟨v, a, b, rfl, _⟩ := h
    rfl
  · obtain ⟨v, a, b, rfl, k⟩ := h
    have hr1 : Room 1 _ := hr.mono (by decide)
    refine ⟨_, pss_one (ps_ret (pe_and (pe_dn D1 hr1 (pa_cons (pv 0) pa_nil)) (pe_one (pe_chain op_le op_le (pv 1) (pv 0) (pv 2))))), ?_⟩
    refine ⟨_, rfl, v, rfl, true, rfl, iteT ?_⟩
    refine ⟨_, rfl, _, rfl, _, _, rfl, rfl, _, rfl, ?_⟩
    by_cases h1 : a ≤ v
    · rw [decide_eq_true h1] at k
      rw [if_pos (decide_eq_true h1)]
      exact ⟨_, rfl, _, _, rfl, rfl, k⟩
    · rw [decide_eq_false h1] at k
      rw [if_neg (by simp [h1])]
      exact k
end
end SR

set_option Elab.async false
set_option linter.all false
set_option maxRecDepth 100000
set_option maxHeartbeats 4000000
namespace SR
open PySem PySem.Spec PyProof.Rows L2
section
variable {P : Program} {w : World} {K : PySem.W.Frag} {mg : Str → Option Value} {base : Heap}
/-- an entry as it may stand in a summary of n -/
def EntOk (n : Int) (e : Ent) : Prop := -10 ^ 30 ≤ e.1 ∧ e.1 ≤ 10 ^ 30 ∧ 1 ≤ e.2.1 ∧ e.2.1 ≤ e.2.2 ∧ e.2.2 ≤ n
theorem Valid.at {n : Int} {es : List Ent} (v : Valid n es) {j : Nat} {e : Ent} (h : es[j]? = some e) : EntOk n e := by
  have hj : j < es.length := (List.getElem?_eq_some_iff.mp h).1
  have := v.ent j hj
  rw [vl_of h, lo_of h, hi_of h] at this
  exact this
def spIsValue : Sp := fun vs H Q _ => ∃ v : Int, vs = [.int v] ∧ Q (.bl (decide (-10 ^ 30 ≤ v) && decide (v ≤ 10 ^ 30))) H
theorem sc_is_value : FnScope ["thing"] ["thing"] (defScope s_is_value) := ⟨rfl, rfl, rfl, by decide +kernel, rfl, by decide +kernel, by decide +kernel⟩
theorem ok_is_value {f : Addr} {fd : FuncData} (F : Fun K "is_value" "is_value" s_is_value f fd) (D2 : Dn P w K mg base "is_between" ["value", "least", "greatest"] 2 spBetween) {tk : Tok} (gv : mg "GREATEST_VALUE" = some (.int (10 ^ 30) tk)) : FnOk P w K mg base CX0 3 f fd ["thing"] spIsValue := by
  refine F.ok sc_is_value (fun vs H Q E h => ?_) (fun cdv A outer s H vs Q E hr h => ?_)
  · obtain ⟨v, rfl, _⟩ := h
    rfl
  · obtain ⟨v, rfl, k⟩ := h
    have hr2 : Room 2 _ := hr.mono (by decide)
    exact ⟨_, pss_one (ps_ret (pe_dn D2 hr2 (pa_cons (pv 0) (pa_cons (pe_un un_neg (pe_gi gv)) (pa_cons (pe_gi gv) pa_nil))))), _, rfl, _, rfl, _, _, _, rfl, k⟩
end
end SR

set_option Elab.async false
set_option linter.all false
set_option maxRecDepth 100000
set_option maxHeartbeats 4000000
namespace SR
open PySem PySem.Spec PyProof.Rows L2
section
variable {P : Program} {w : World} {K : PySem.W.Frag} {mg : Str → Option Value} {base : Heap}
def spIsEntry : Sp := fun vs H Q _ => ∃ (n : Int) (v : V) (e : Ent), vs = [.int n, v] ∧ EntV H v e ∧ EntOk n e ∧ Q (.bl true) H
theorem sc__is_entry : FnScope ["many", "thing", "value", "low", "high"] ["many", "thing"] (defScope s__is_entry) := ⟨rfl, rfl, rfl, by decide +kernel, rfl, by decide +kernel, by decide +kernel⟩
theorem ok__is_entry {f : Addr} {fd : FuncData} (F : Fun K "_is_entry" "_is_entry" s__is_entry f fd) (D2 : Dn P w K mg base "is_between" ["value", "least", "greatest"] 2 spBetween) (DV : Dn P w K mg base "is_value" ["thing"] 3 spIsValue)
    (mi : mg "isinstance" = none) (mt : mg "tuple" = none) (ml : mg "len" = none) : FnOk P w K mg base CX0 4 f fd ["many", "thing"] spIsEntry := by
  refine F.ok sc__is_entry (fun vs H Q E h => ?_) (fun cdv A outer s H vs Q E hr h => ?_)
  · obtain ⟨n, v, e, rfl, _⟩ := h
    rfl
  · obtain ⟨n, v, e, rfl, ⟨t, rfl, ht⟩, hok, k⟩ := h
    have hr2 : Room 2 _ := hr.mono (by decide)
    have hr3 : Room 3 _ := hr.mono (by decide)
    have nd := sc__is_entry.nd
    obtain ⟨h1, h2, h3, h4, h5⟩ := hok
    refine ⟨_, pss_cons (ps_if (PW.pt (pw_or (pt_not (pt_val (pe_callB call_isi (by rfl) mi (by decide +kernel) (pa_cons (pv 1) (pa_cons (pe_bltn (v := .ty "tuple") (by rfl) mt (by decide +kernel) rfl) pa_nil)))))
        (pw_or1 (pt_cmpR op_ne (pe_callB call_len_seq (by rfl) ml PySem.boot_len (pa_cons (pv 1) pa_nil)) pe_int (nomark _))))) (pss_one (ps_ret pe_bl)) pss_nil)
      (pss_cons (ps_asg (pv 1) (pg_tup rfl (pgs_cons (pg_name (i := 2) nd rfl (Or.inl rfl)) (pgs_cons (pg_name (i := 3) nd rfl (Or.inl rfl)) (pgs_cons (pg_name (i := 4) nd rfl (Or.inl rfl)) pgs_nil)))))
      (pss_one (ps_ret (pe_and (pe_dn DV hr3 (pa_cons (pv 2) pa_nil)) (pe_and (pe_dn D2 hr2 (pa_cons (pv 3) (pa_cons pe_int (pa_cons (pv 0) pa_nil)))) (pe_one (pe_dn D2 hr2 (pa_cons (pv 4) (pa_cons (pv 3) (pa_cons (pv 0) pa_nil))))))))))
      , ?_⟩
    refine ⟨_, rfl, _, _, _, _, true, rfl, .ty _, .base (.tup ht), kit_ty (by decide +kernel), true, rfl, iteF ?_⟩
    refine ⟨_, rfl, t, _, rfl, .inr (SqT.of ht), rfl, _, rfl, iteF ?_⟩
    refine ⟨_, rfl, t, _, rfl, SqT.of ht, rfl, _, _, rfl, _, _, rfl, _, _, rfl, rfl, ?_⟩
    refine ⟨_, rfl, _, rfl, ?_⟩
    rw [decide_eq_true (show -(10 : Int) ^ 30 ≤ e.1 from h1), decide_eq_true h2]
    refine ⟨_, rfl, iteT ?_⟩
    refine ⟨_, rfl, _, rfl, _, _, _, rfl, _, rfl, ?_⟩
    rw [decide_eq_true h3, decide_eq_true (show e.2.1 ≤ n by omega)]
    refine iteT ?_
    refine ⟨_, rfl, _, rfl, _, rfl, _, _, _, rfl, ?_⟩
    rw [decide_eq_true h4, decide_eq_true h5]
    exact k
def spCheck : Sp := fun vs H Q _ => ∃ (n : Int) (u : V) (es : List Ent), vs = [.int n, u] ∧ TupV H u es ∧ Valid n es ∧ ∀ H', Same H H' → Q .non H'
theorem sc__check_entries : FnScope ["many", "entries", "before", "index", "thing"] ["many", "entries"] (defScope s__check_entries) := ⟨rfl, rfl, rfl, by decide +kernel, rfl, by decide +kernel, by decide +kernel⟩
theorem ok__check_entries {f : Addr} {fd : FuncData} (F : Fun K "_check_entries" "_check_entries" s__check_entries f fd) (D3 : Dn P w K mg base "_is_entry" ["many", "thing"] 4 spIsEntry)
    (mi : mg "isinstance" = none) (mt : mg "tuple" = none) (ml : mg "len" = none) (me : mg "enumerate" = none) {tk tk2 : Tok} (gv : mg "GREATEST_VALUE" = some (.int (10 ^ 30) tk)) (gm : mg "MOST_ENTRIES" = some (.int 12 tk2)) : FnOk P w K mg base CX0 5 f fd ["many", "entries"] spCheck := by
  refine F.ok sc__check_entries (fun vs H Q E h => ?_) (fun cdv A outer s H vs Q E hr h => ?_)
  · obtain ⟨n, u, es, rfl, _⟩ := h
    rfl
  · obtain ⟨n, u, es, rfl, ⟨a, vs, rfl, ha, he⟩, hv, k⟩ := h
    have hr3 : Room 4 _ := hr.mono (by decide)
    have nd := sc__check_entries.nd
    have hl : vs.length = es.length := he.len
    refine ⟨_, pss_cons (ps_if (PW.pt (pw_or (pt_not (pt_val (pe_callB call_isi (by rfl) mi (by decide +kernel) (pa_cons (pv 1) (pa_cons (pe_bltn (v := .ty "tuple") (by rfl) mt (by decide +kernel) rfl) pa_nil)))))
        (pw_or1 (pt_cmpR op_gt (pe_callB call_len_seq (by rfl) ml PySem.boot_len (pa_cons (pv 1) pa_nil)) (pe_gi gm) (nomark _))))) (pss_one ps_never) pss_nil)
      (pss_cons (ps_set (i := 2) nd rfl (Or.inl rfl) (pe_un un_neg (pe_gi gv)))
      (pss_one (ps_for PassesOwn.never rfl (pi_enumT (by rfl) me (pa_cons (pv 1) pa_nil)) (pg_tup rfl (pgs_cons (pg_name (i := 3) nd rfl (Or.inl rfl)) (pgs_cons (pg_name (i := 4) nd rfl (Or.inl rfl)) pgs_nil)))
        (pss_cons (ps_if (PW.pt (pw_or (pt_not (pt_val (pe_dn D3 hr3 (pa_cons (pv 0) (pa_cons (pv 4) pa_nil))))) (pw_or1 (pt_cmpR op_lt (pe_ix ix_tup (pv 4) pe_int (fun _ _ => rfl)) (pv 2) (nomark _))))) (pss_one ps_never) pss_nil)
        (pss_one (ps_set (i := 2) nd rfl (Or.inl rfl) (pe_ix ix_tup (pv 4) pe_int (fun _ _ => rfl)))))))), ?_⟩
    refine ⟨_, rfl, _, _, _, _, true, rfl, .ty _, .base (.tup ha), kit_ty (by decide +kernel), true, rfl, iteF ?_⟩
    refine ⟨_, rfl, a, _, rfl, .inr (SqT.of ha), _, _, rfl, rfl, _, rfl, ?_⟩
    have h12 := hv.len
    rw [decide_eq_false (show ¬ (12 : Int) < (vs.length : Int) by omega)]
    refine iteF ?_
    refine ⟨_, rfl, ?_⟩
    refine ⟨_, rfl, a, vs, rfl, SqT.of ha, for_enumT (K := K) (a := a) (xs := vs) (fun i σ H' => ∃ (b : Int) (y3 y4 : Option V), σ = [some (.int n), some (.ref a), some (.int b), y3, y4] ∧ Same H H' ∧ (i < es.length → b ≤ vl es i))
      ⟨_, none, none, rfl, Same.refl H, fun h => (hv.ent 0 h).1⟩ (fun i σ H' ⟨_, _, _, _, s5, _⟩ => SqT.of (s5 _ _ ha)) ?_ ?_⟩
    · rintro i x T σ H' hx ⟨b, y3, y4, rfl, s5, hb⟩ hT
      obtain ⟨e, hei, t, rfl, ht⟩ := pr_at' he hx
      have s6 : Same H (upd H' T (.tup [.int (i : Nat), .ref t])) := Same_new2 s5 hT
      have ht6 := s6 _ _ ht
      have hil : i < es.length := (List.getElem?_eq_some_iff.mp hei).1
      refine ⟨T, _, rfl, SqT.of upd_same, rfl, _, _, rfl, _, _, rfl, rfl, ?_⟩
      refine ⟨_, rfl, _, rfl, n, .ref t, e, rfl, ⟨t, rfl, ht6⟩, hv.at hei, true, rfl, iteF ?_⟩
      have hvl := vl_of hei
      refine ⟨_, rfl, t, _, 0, _, rfl, rfl, SqT.of ht6, atI_nat (j := 0) rfl, _, rfl, _, _, rfl, rfl, _, rfl, ?_⟩
      have := hb hil
      rw [decide_eq_false (show ¬ e.1 < b by omega)]
      refine iteF ?_
      refine ⟨_, rfl, t, _, 0, _, rfl, rfl, SqT.of ht6, atI_nat (j := 0) rfl, ?_⟩
      refine ⟨_, _, _, rfl, s6, fun hi1 => ?_⟩
      rw [← hvl]
      exact hv.asc i hi1
    · rintro σ H' ⟨b, y3, y4, rfl, s5, _⟩
      exact k H' s5
end
end SR

set_option Elab.async false
set_option linter.all false
set_option maxRecDepth 100000
set_option maxHeartbeats 4000000
namespace SR
open PySem PySem.Spec PyProof.Rows L2
/-- an own class whose instances are asked by isinstance -/
structure IcX (K : PySem.W.Frag) (C : Addr) : Prop where
  cl : Cls K C
  ha : PySem.W.findIn K (.ref C) "__class__" = some (some (.builtin "object.__class__"))
  hn : PySem.W.specialIn K (.builtin "object.__class__") "__get__" = some (some (.builtin "getset_descriptor.__get__"))
  htk : PySem.W.takesIn K (.builtin "object.__class__") = some true
  hm : PySem.W.mroIn K C (.type "object") = some true
  me : PySem.W.kitOne K (.ref C) (.ref C) = some true
/-- the class Summary, as the top has made it -/
structure SumT (K : PySem.W.Frag) (mg : Str → Option Value) (C : Addr) : Prop where
  ic : IcX K C
  nM : NoAttr K C "_many"
  nE : NoAttr K C "_entries"
  g : mg "Summary" = some (.ref C)
  tup : PySem.W.kitOne K (.type "tuple") (.ref C) = some false
  nf1 : PySem.W.notFirst K C (.ref C) = true
  nf2 : PySem.W.notFirst K C (.type "tuple") = true
section
variable {P : Program} {w : World} {K : PySem.W.Frag} {mg : Str → Option Value} {base : Heap} {C : Addr}
theorem SumT.ty (T : SumT K mg C) {H : Hp} {p dx : Addr} {fs : List (Str × V)} (h : H p = some (.ins C dx fs)) : TyX K H (.ref p) (.ref C) := .base (.ins h T.ic.cl T.ic.ha T.ic.hn T.ic.htk T.ic.hm)
def spSumInit (C : Addr) : Sp := fun vs H Q _ => ∃ (p dx : Addr) (n : Int) (u : V) (es : List Ent), vs = [.ref p, .int n, u] ∧ H p = some (.ins C dx []) ∧ TupV H u es ∧ Valid n es ∧
  ∀ H', H' p = some (.ins C dx (sfl n u)) → (∀ b o, H b = some o → b ≠ p → H' b = some o) → Q .non H'
theorem sc_Summary_init : FnScope ["self", "many", "entries"] ["self", "many", "entries"] (defScope s_Summary_init) := ⟨rfl, rfl, rfl, by decide +kernel, rfl, by decide +kernel, by decide +kernel⟩
theorem ok_Summary_init {f : Addr} {fd : FuncData} (F : Fun K "__init__" "Summary.__init__" s_Summary_init f fd) (T : SumT K mg C) (D2 : Dn P w K mg base "is_between" ["value", "least", "greatest"] 2 spBetween) (D4 : Dn P w K mg base "_check_entries" ["many", "entries"] 5 spCheck)
    {tk : Tok} (gc : mg "GREATEST_COUNT" = some (.int (10 ^ 30) tk)) : FnOk P w K mg base CX0 6 f fd ["self", "many", "entries"] (spSumInit C) := by
  refine F.ok sc_Summary_init (fun vs H Q E h => ?_) (fun cdv A outer s H vs Q E hr h => ?_)
  · obtain ⟨p, dx, n, u, es, rfl, _⟩ := h
    rfl
  · obtain ⟨p, dx, n, u, es, rfl, hp, hu, hv, k⟩ := h
    have hr2 : Room 2 _ := hr.mono (by decide)
    have hr4 : Room 5 _ := hr.mono (by decide)
    refine ⟨_, pss_cons (ps_if (pt_not (pt_val (pe_dn D2 hr2 (pa_cons (pv 1) (pa_cons pe_int (pa_cons (pe_gi gc) pa_nil)))))) (pss_one ps_never) pss_nil)
      (pss_cons (ps_expr (pe_dn D4 hr4 (pa_cons (pv 1) (pa_cons (pv 2) pa_nil))))
      (pss_cons (ps_fld (pv 0) (pv 1) rfl) (pss_one (ps_fld (pv 0) (pv 2) rfl)))), ?_⟩
    refine ⟨_, rfl, _, _, _, rfl, _, rfl, ?_⟩
    rw [decide_eq_true hv.n1, decide_eq_true hv.n2]
    refine iteF ?_
    refine ⟨_, rfl, _, rfl, n, u, es, rfl, hu, hv, fun H1 s1 => ?_⟩
    refine ⟨_, rfl, _, rfl, p, C, dx, [], rfl, s1 _ _ hp, T.ic.cl, T.nM, (by show 0 < 1000; decide), _, rfl, _, rfl, p, C, dx, _, rfl, upd_same, T.ic.cl, T.nE, (by show 1 < 1000; decide), ?_⟩
    refine k _ upd_same fun b o e hb => ?_
    rw [upd_ne hb, upd_ne hb]
    exact s1 _ _ e
theorem sc_Summary_many : FnScope ["self"] ["self"] (defScope s_Summary_many) := ⟨rfl, rfl, rfl, by decide +kernel, rfl, by decide +kernel, by decide +kernel⟩
theorem ok_Summary_many {f : Addr} {fd : FuncData} (F : Fun K "many" "Summary.many" s_Summary_many f fd) (T : SumT K mg C) : FnOk P w K mg base CX0 1 f fd ["self"] (getSp C "_many") := by
  refine F.ok sc_Summary_many (fun vs H Q E h => ?_) (fun cdv A outer s H vs Q E hr h => ?_)
  · obtain ⟨a, dx, fs, v, rfl, _⟩ := h
    rfl
  · obtain ⟨a, dx, fs, v, rfl, ha, hl, k⟩ := h
    exact ⟨_, pss_one (ps_ret (pe_fld (pv 0) rfl)), _, rfl, a, C, dx, fs, v, rfl, ha, T.ic.cl, T.nM, hl, k⟩
theorem sc_Summary_entries : FnScope ["self"] ["self"] (defScope s_Summary_entries) := ⟨rfl, rfl, rfl, by decide +kernel, rfl, by decide +kernel, by decide +kernel⟩
theorem ok_Summary_entries {f : Addr} {fd : FuncData} (F : Fun K "entries" "Summary.entries" s_Summary_entries f fd) (T : SumT K mg C) : FnOk P w K mg base CX0 1 f fd ["self"] (getSp C "_entries") := by
  refine F.ok sc_Summary_entries (fun vs H Q E h => ?_) (fun cdv A outer s H vs Q E hr h => ?_)
  · obtain ⟨a, dx, fs, v, rfl, _⟩ := h
    rfl
  · obtain ⟨a, dx, fs, v, rfl, ha, hl, k⟩ := h
    exact ⟨_, pss_one (ps_ret (pe_fld (pv 0) rfl)), _, rfl, a, C, dx, fs, v, rfl, ha, T.ic.cl, T.nE, hl, k⟩
def spSumLen (C : Addr) : Sp := fun vs H Q _ => ∃ (v : V) (n : Int) (es : List Ent), vs = [v] ∧ SumV C H v n es ∧ Q (.int es.length) H
theorem sc_Summary_len : FnScope ["self"] ["self"] (defScope s_Summary_len) := ⟨rfl, rfl, rfl, by decide +kernel, rfl, by decide +kernel, by decide +kernel⟩
theorem ok_Summary_len {f : Addr} {fd : FuncData} (F : Fun K "__len__" "Summary.__len__" s_Summary_len f fd) (T : SumT K mg C) (ml : mg "len" = none) : FnOk P w K mg base CX0 1 f fd ["self"] (spSumLen C) := by
  refine F.ok sc_Summary_len (fun vs H Q E h => ?_) (fun cdv A outer s H vs Q E hr h => ?_)
  · obtain ⟨v, n, es, rfl, _⟩ := h
    rfl
  · obtain ⟨v, n, es, rfl, ⟨p, dx, u, rfl, hp, a, vs, rfl, ha, he⟩, k⟩ := h
    refine ⟨_, pss_one (ps_ret (pe_callB call_len_seq (by rfl) ml PySem.boot_len (pa_cons (pe_fld (pv 0) rfl) pa_nil))), ?_⟩
    refine ⟨_, rfl, p, C, dx, _, _, rfl, hp, T.ic.cl, T.nE, sfl_entries _ _, a, vs, rfl, .inr (SqT.of ha), ?_⟩
    rw [he.len]
    exact k
/-- self == other: other a Summary, or of another kind -/
def spSumEq (K : PySem.W.Frag) (C : Addr) : Sp := fun vs H Q _ => ∃ (v y : V) (n : Int) (es : List Ent), vs = [v, y] ∧ SumV C H v n es ∧
  ((∃ t, TyX K H y t ∧ PySem.W.kitOne K t (.ref C) = some false ∧ Q (.bl false) H) ∨ ∃ n2 es2, SumV C H y n2 es2 ∧ Q (.bl (decide (n = n2) && decide (es = es2))) H)
theorem sc_Summary_eq : FnScope ["self", "other"] ["self", "other"] (defScope s_Summary_eq) := ⟨rfl, rfl, rfl, by decide +kernel, rfl, by decide +kernel, by decide +kernel⟩
theorem ok_Summary_eq {f : Addr} {fd : FuncData} (F : Fun K "__eq__" "Summary.__eq__" s_Summary_eq f fd) (T : SumT K mg C) (mi : mg "isinstance" = none) : FnOk P w K mg base CX0 1 f fd ["self", "other"] (spSumEq K C) := by
  refine F.ok sc_Summary_eq (fun vs H Q E h => ?_) (fun cdv A outer s H vs Q E hr h => ?_)
  · obtain ⟨v, y, n, es, rfl, _⟩ := h
    rfl
  · obtain ⟨v, y, n, es, rfl, ⟨p, dx, u, rfl, hp, hu⟩, k⟩ := h
    refine ⟨_, pss_one (ps_ret (pe_and (pe_callB call_isi (by rfl) mi (by decide +kernel) (pa_cons (pv 1) (pa_cons (pe_glob (v := .ref C) rfl T.g rfl) pa_nil)))
      (pe_and (pe_cmpR op_eq (pe_fld (pv 0) rfl) (pe_fld (pv 1) rfl) (nomark _)) (pe_one (pe_cmpR (op_eqD hr.units) (pe_fld (pv 0) rfl) (pe_fld (pv 1) rfl) (nomark _)))))), ?_⟩
    rcases k with ⟨t, ty, hk, q⟩ | ⟨n2, es2, ⟨p2, dx2, u2, rfl, hp2, hu2⟩, q⟩
    · exact ⟨_, rfl, _, _, _, _, false, rfl, .own C, ty, hk, false, rfl, iteF q⟩
    · refine ⟨_, rfl, _, _, _, _, true, rfl, .own C, T.ty hp2, T.ic.me, true, rfl, iteT ?_⟩
      refine ⟨_, rfl, p, C, dx, _, _, rfl, hp, T.ic.cl, T.nM, sfl_many _ _, _, rfl, p2, C, dx2, _, _, rfl, hp2, T.ic.cl, T.nM, sfl_many _ _, rfl, _, rfl, ?_⟩
      refine ite2 (fun e => ?_) (fun e => ?_)
      · have e1 : n = n2 := V.int.inj (of_decide_eq_true e)
        subst e1
        refine ⟨_, rfl, p, C, dx, _, _, rfl, hp, T.ic.cl, T.nE, sfl_entries _ _, _, rfl, p2, C, dx2, _, _, rfl, hp2, T.ic.cl, T.nE, sfl_entries _ _, _, _, hu.dp, hu2.dp, shaped_ents _, shaped_ents _, ?_⟩
        rw [eqv_ents]
        rw [decide_eq_true rfl, Bool.true_and] at q
        exact q
      · have e1 : ¬ n = n2 := fun z => e (decide_eq_true (by rw [z]))
        rw [decide_eq_false e1, Bool.false_and] at q
        exact q
end
end SR

set_option Elab.async false
set_option linter.all false
set_option maxRecDepth 100000
set_option maxHeartbeats 4000000
namespace SR
open PySem PySem.Spec PyProof.Rows L2
section
variable {P : Program} {w : World} {K : PySem.W.Frag} {mg : Str → Option Value} {base : Heap} {C : Addr}
/-- Summary(..) -/
def DnMk (P : Program) (w : World) (K : PySem.W.Frag) (mg : Str → Option Value) (base : Heap) (C : Addr) : Prop := ∃ fI fd, Mk K C fI ∧ FnOk P w K mg base CX0 6 fI fd ["self", "many", "entries"] (spSumInit C) ∧ Binds K fd ["self", "many", "entries"] []
theorem pe_mkS {X : Cx} {e : Expr} {es : List Expr} {t : TA} {p pos : Pos} (D : DnMk X.prog X.w X.K X.mg X.base C) (T : SumT X.K X.mg C) (hr : Room 7 X.A) (ha : PA X (e :: es) t) (hg : Gl X "Summary" := by rfl)
    (he : starEach (e :: es) X.env = (false, eval e X.env) :: starEach es X.env := by rfl) (hpl : (backTo pos (starEach es X.env)).any (·.1) = false := by rfl) :
    PE X (.Call (.Name "Summary" p) (e :: es) [] pos) (tMake C (spSumInit C) [] E0 t) := by
  obtain ⟨fI, fd, M, F, b⟩ := D
  exact pe_make M F hr hg T.g b .nil pass0 ha (by decide) he hpl
theorem sum_made {H1 : Hp} {n : Int} {u : V} {es : List Ent} {Q : VK} (hu : TupV H1 u es) (hv : Valid n es) (k : ∀ x H', H1 x = none → Same H1 H' → SumV C H' (.ref x) n es → Q (.ref x) H') : ∀ x dx, H1 x = none → H1 dx = none → dx ≠ x →
    spSumInit C (.ref x :: ([.int n, u] ++ [])) (upd (upd H1 dx (.own x)) x (.ins C dx [])) (fun v H2 => v = .non ∧ Q (.ref x) H2) E0 := fun x dx nx nd ne => by
  have s0 : Same H1 (upd (upd H1 dx (.own x)) x (.ins C dx [])) := fun b o e => by
    rw [upd_ne (ne_of_none e nx), upd_ne (ne_of_none e nd)]
    exact e
  refine ⟨x, dx, n, u, es, rfl, upd_same, hu.mono s0, hv, fun H' hx kp => ⟨rfl, ?_⟩⟩
  have s1 : Same H1 H' := fun b o e => kp b o (s0 b o e) (ne_of_none e nx)
  exact k x H' nx s1 ⟨x, dx, u, rfl, hx, hu.mono s1⟩
theorem sum_mk {H1 : Hp} {n : Int} {u : V} {es : List Ent} {x dx : Addr} {R : Hp → Prop} (hu : TupV H1 u es) (hv : Valid n es) (nx : H1 x = none) (nd : H1 dx = none) (ne : dx ≠ x) (k : ∀ H', Same H1 H' → SumV C H' (.ref x) n es → R H') :
    spSumInit C (.ref x :: ([.int n, u] ++ [])) (upd (upd H1 dx (.own x)) x (.ins C dx [])) (fun v H2 => v = .non ∧ R H2) E0 := by
  have s0 : Same H1 (upd (upd H1 dx (.own x)) x (.ins C dx [])) := fun b o e => by
    rw [upd_ne (ne_of_none e nx), upd_ne (ne_of_none e nd)]
    exact e
  refine ⟨x, dx, n, u, es, rfl, upd_same, hu.mono s0, hv, fun H' hx kp => ⟨rfl, ?_⟩⟩
  have s1 : Same H1 H' := fun b o e => kp b o (s0 b o e) (ne_of_none e nx)
  exact k H' s1 ⟨x, dx, u, rfl, hx, hu.mono s1⟩
end
end SR

set_option Elab.async false
set_option linter.all false
set_option maxRecDepth 100000
set_option maxHeartbeats 4000000
namespace SR
open PySem PySem.Spec PyProof.Rows L2
section
variable {P : Program} {w : World} {K : PySem.W.Frag} {mg : Str → Option Value} {base : Heap} {C : Addr}
def spLeast (C : Addr) : Sp := fun vs H Q _ => ∃ (v : V) (n : Int) (es : List Ent), vs = [v] ∧ SumV C H v n es ∧ es.length ≤ 12 ∧ ∀ H' p, Same H H' → H p = none → H' p = some (.lst ((List.range es.length).map fun j => V.int (tlo es j))) → Q (.ref p) H'
theorem sc__least_ranks : FnScope ["summary", "ranks", "rank", "entry"] ["summary"] (defScope s__least_ranks) := ⟨rfl, rfl, rfl, by decide +kernel, rfl, by decide +kernel, by decide +kernel⟩
theorem ok__least_ranks {f : Addr} {fd : FuncData} (F : Fun K "_least_ranks" "_least_ranks" s__least_ranks f fd) (T : SumT K mg C) (DE : Pr P w K mg base C "entries" 1 (getSp C "_entries")) (mm : mg "max" = none) : FnOk P w K mg base CX0 3 f fd ["summary"] (spLeast C) := by
  refine F.ok sc__least_ranks (fun vs H Q E h => ?_) (fun cdv A outer s H vs Q E hr h => ?_)
  · obtain ⟨v, n, es, rfl, _⟩ := h
    rfl
  · obtain ⟨v, n, es, rfl, ⟨p, dx, u, rfl, hp, a, vs, rfl, ha, he⟩, h12, k⟩ := h
    have hr2 : Room 2 _ := hr.mono (by decide)
    have nd := sc__least_ranks.nd
    have hl : vs.length = es.length := he.len
    refine ⟨_, pss_cons (ps_set (i := 1) nd rfl (Or.inl rfl) (pe_lst pa_nil))
      (pss_cons (ps_set (i := 2) nd rfl (Or.inl rfl) pe_int)
      (pss_cons (ps_for PassesOwn.never rfl (pi_tup (pe_pr DE T.ic.cl hr2 (pv 0))) (pg_name (i := 3) nd rfl (Or.inl rfl))
        (pss_cons (ps_set (i := 2) nd rfl (Or.inl rfl) (pe_callB (call_max2 rfl) (by rfl) mm (by decide +kernel) (pa_cons (pe_ix ix_tup (pv 3) pe_int (fun _ _ => rfl)) (pa_cons (pe_op op_add (pv 2) pe_int) pa_nil))))
        (pss_one (ps_expr (pe_bm PySem.F.plainAttrs_list PySem.F.slot_list_append PySem.F.type_list_append mt_append (pv 1) (pa_cons (pv 2) pa_nil))))))
      (pss_one (ps_ret (pv 1))))), ?_⟩
    refine ⟨Nat.zero_le _, fun q nq => ?_⟩
    refine ⟨_, rfl, p, dx, _, rfl, Same_new nq _ _ hp, p, dx, _, _, rfl, Same_new nq _ _ hp, sfl_entries _ _, a, rfl, ⟨_, SqT.of (Same_new nq _ _ ha)⟩, for_tup (K := K) (a := a) (xs := vs)
      (fun i σ H' => ∃ (y3 : Option V), σ = [some (.ref p), some (.ref q), some (.int (lowS es i)), y3] ∧ Same H H' ∧ H' q = some (.lst ((List.range i).map fun j => V.int (tlo es j))))
      ⟨none, rfl, Same_new nq, upd_same⟩ (fun i σ H' _ ⟨_, _, s5, _⟩ => SqT.of (s5 _ _ ha)) ?_ ?_⟩
    · rintro i x σ H' hx ⟨y3, rfl, s5, hq⟩
      obtain ⟨e, hei, t, rfl, ht⟩ := pr_at' he hx
      have hil : i < es.length := (List.getElem?_eq_some_iff.mp hei).1
      refine ⟨_, rfl, t, _, 1, _, rfl, rfl, SqT.of (s5 _ _ ht), atI_nat (j := 1) rfl, _, rfl, _, _, rfl, rfl, _, _, rfl, ?_⟩
      have e1 : (if lowS es i + 1 > e.2.1 then lowS es i + 1 else e.2.1) = lowS es (i + 1) := by rw [max_if, ← lo_of hei]; rfl
      rw [e1]
      refine ⟨_, rfl, .inl ⟨rfl, _, SqL.of hq⟩, _, rfl, q, _, _, rfl, rfl, hq, ?_, ?_⟩
      · rw [List.length_map, List.length_range]
        exact small1000 (by omega)
      · refine ⟨_, rfl, Same_mut s5 nq, ?_⟩
        rw [upd_same, List.range_succ, List.map_append]
        rfl
    · rintro σ H' ⟨y3, rfl, s5, hq⟩
      rw [hl] at hq
      exact ⟨_, rfl, k H' q s5 nq hq⟩
def spGreat (C : Addr) : Sp := fun vs H Q _ => ∃ (v : V) (n : Int) (es : List Ent), vs = [v] ∧ SumV C H v n es ∧ es.length ≤ 12 ∧ ∀ H' p, Same H H' → H p = none → H' p = some (.lst ((List.range es.length).map fun j => V.int (thi n es j))) → Q (.ref p) H'
theorem rev_his (n : Int) (es : List Ent) : ((List.range es.length).map fun j => V.int (hiS n es (j + 1))).reverse = (List.range es.length).map fun j => V.int (thi n es j) := by
  apply List.ext_getElem
  · simp
  · intro i h1 h2
    simp at h1 h2 ⊢
    unfold thi
    congr 1
    omega
theorem sc__greatest_ranks : FnScope ["summary", "ranks", "rank", "entry"] ["summary"] (defScope s__greatest_ranks) := ⟨rfl, rfl, rfl, by decide +kernel, rfl, by decide +kernel, by decide +kernel⟩
theorem ok__greatest_ranks {f : Addr} {fd : FuncData} (F : Fun K "_greatest_ranks" "_greatest_ranks" s__greatest_ranks f fd) (T : SumT K mg C) (DE : Pr P w K mg base C "entries" 1 (getSp C "_entries")) (DM : Pr P w K mg base C "many" 1 (getSp C "_many")) (mm : mg "min" = none) (mr : mg "reversed" = none) : FnOk P w K mg base CX0 3 f fd ["summary"] (spGreat C) := by
  refine F.ok sc__greatest_ranks (fun vs H Q E h => ?_) (fun cdv A outer s H vs Q E hr h => ?_)
  · obtain ⟨v, n, es, rfl, _⟩ := h
    rfl
  · obtain ⟨v, n, es, rfl, ⟨p, dx, u, rfl, hp, a, vs, rfl, ha, he⟩, h12, k⟩ := h
    have hr2 : Room 2 _ := hr.mono (by decide)
    have nd := sc__greatest_ranks.nd
    have hl : vs.length = es.length := he.len
    refine ⟨_, pss_cons (ps_set (i := 1) nd rfl (Or.inl rfl) (pe_lst pa_nil))
      (pss_cons (ps_set (i := 2) nd rfl (Or.inl rfl) (pe_op op_add (pe_pr DM T.ic.cl hr2 (pv 0)) pe_int))
      (pss_cons (ps_for PassesOwn.never rfl (RT.pi_revA (by rfl) mr (pe_pr DE T.ic.cl hr2 (pv 0))) (pg_name (i := 3) nd rfl (Or.inl rfl))
        (pss_cons (ps_set (i := 2) nd rfl (Or.inl rfl) (pe_callB (call_min2 rfl) (by rfl) mm (by decide +kernel) (pa_cons (pe_ix ix_tup (pv 3) pe_int (fun _ _ => rfl)) (pa_cons (pe_op op_sub (pv 2) pe_int) pa_nil))))
        (pss_one (ps_expr (pe_bm PySem.F.plainAttrs_list PySem.F.slot_list_append PySem.F.type_list_append mt_append (pv 1) (pa_cons (pv 2) pa_nil))))))
      (pss_one (ps_ret (pe_revL (pv 1)))))), ?_⟩
    refine ⟨Nat.zero_le _, fun q nq => ?_⟩
    have hp1 := Same_new (o := .lst []) nq _ _ hp
    refine ⟨_, rfl, p, dx, _, rfl, hp1, p, dx, _, _, rfl, hp1, sfl_many _ _, _, _, rfl, rfl, ?_⟩
    refine ⟨_, rfl, p, dx, _, rfl, hp1, p, dx, _, _, rfl, hp1, sfl_entries _ _, a, vs, rfl, .inr ⟨SqT.of (Same_new nq _ _ ha), RT.for_ItvT (K := K) (a := a) (xs := vs)
      (fun i σ H' => ∃ (y3 : Option V), σ = [some (.ref p), some (.ref q), some (.int (hiS n es i)), y3] ∧ Same H H' ∧ H' q = some (.lst ((List.range i).map fun j => V.int (hiS n es (j + 1)))))
      ⟨none, rfl, Same_new nq, upd_same⟩ (fun i σ H' ⟨_, _, s5, _⟩ => SqT.of (s5 _ _ ha)) ?_ ?_⟩⟩
    · rintro i x σ H' hi hx ⟨y3, rfl, s5, hq⟩
      obtain ⟨e, hei, t, rfl, ht⟩ := pr_at' he hx
      rw [hl] at hei
      refine ⟨_, rfl, t, _, 2, _, rfl, rfl, SqT.of (s5 _ _ ht), atI_nat (j := 2) rfl, _, rfl, _, _, rfl, rfl, _, _, rfl, ?_⟩
      have e1 : (if hiS n es i - 1 < e.2.2 then hiS n es i - 1 else e.2.2) = hiS n es (i + 1) := by rw [min_if, ← hi_of hei]; rfl
      rw [e1]
      refine ⟨_, rfl, .inl ⟨rfl, _, SqL.of hq⟩, _, rfl, q, _, _, rfl, rfl, hq, ?_, ?_⟩
      · rw [List.length_map, List.length_range]
        exact small1000 (by omega)
      · refine ⟨_, rfl, Same_mut s5 nq, ?_⟩
        rw [upd_same, List.range_succ, List.map_append]
        rfl
    · rintro σ H' ⟨y3, rfl, s5, hq⟩
      rw [hl] at hq
      refine ⟨_, rfl, q, _, rfl, SqL.of hq, fun r nr => ?_⟩
      rw [rev_his]
      exact k _ r (Same_new2 s5 nr) (s5.free nr) upd_same
end
end SR

set_option Elab.async false
set_option linter.all false
set_option maxRecDepth 100000
set_option maxHeartbeats 4000000
namespace SR
open PySem PySem.Spec PyProof.Rows L2
section
variable {P : Program} {w : World} {K : PySem.W.Frag} {mg : Str → Option Value} {base : Heap} {C : Addr}
def spCkSum (C : Addr) : Sp := fun vs H Q _ => ∃ (v : V) (n : Int) (es : List Ent), vs = [v] ∧ SumV C H v n es ∧ Q .non H
theorem sc_check_summary : FnScope ["summary"] ["summary"] (defScope s_check_summary) := ⟨rfl, rfl, rfl, by decide +kernel, rfl, by decide +kernel, by decide +kernel⟩
theorem ok_check_summary {f : Addr} {fd : FuncData} (F : Fun K "check_summary" "check_summary" s_check_summary f fd) (T : SumT K mg C) (mi : mg "isinstance" = none) : FnOk P w K mg base CX0 1 f fd ["summary"] (spCkSum C) := by
  refine F.ok sc_check_summary (fun vs H Q E h => ?_) (fun cdv A outer s H vs Q E hr h => ?_)
  · obtain ⟨v, n, es, rfl, _⟩ := h
    rfl
  · obtain ⟨v, n, es, rfl, ⟨p, dx, u, rfl, hp, _⟩, k⟩ := h
    refine ⟨_, pss_one (ps_if (pt_not (pt_val (pe_callB call_isi (by rfl) mi (by decide +kernel) (pa_cons (pv 0) (pa_cons (pe_glob (v := .ref C) rfl T.g rfl) pa_nil))))) (pss_one ps_never) pss_nil), ?_⟩
    exact ⟨_, rfl, _, _, _, _, true, rfl, .own C, T.ty hp, T.ic.me, true, rfl, iteF k⟩
end
end SR

set_option Elab.async false
set_option linter.all false
set_option maxRecDepth 100000
set_option maxHeartbeats 4000000
namespace SR
open PySem PySem.Spec PyProof.Rows L2
section
variable {P : Program} {w : World} {K : PySem.W.Frag} {mg : Str → Option Value} {base : Heap} {C : Addr}
def DEq (P : Program) (w : World) (K : PySem.W.Frag) (mg : Str → Option Value) (base : Heap) (C : Addr) : Prop := ∃ f fd, FnOk P w K mg base CX0 1 f fd ["self", "other"] (spSumEq K C) ∧ PySem.W.findIn K (.ref C) "__eq__" = some (some (.ref f)) ∧ PySem.W.isFn K (.ref f) = true ∧ Binds K fd ["self", "other"] []
/-- == of a summary and another one -/
theorem eq_sum {H : Hp} {v y : V} {n n2 : Int} {es es2 : List Ent} {Q : VK} (T : SumT K mg C) (h1 : SumV C H v n es) (h2 : SumV C H y n2 es2) (q : Q (.bl (decide (n = n2) && decide (es = es2))) H) : rEqO K C (spSumEq K C) E0 v y H Q := by
  obtain ⟨p, dx, u, rfl, hp, hu⟩ := id h1
  obtain ⟨p2, dx2, u2, rfl, hp2, hu2⟩ := id h2
  exact ⟨p, dx, _, _, rfl, hp, T.ty hp2, T.nf1, _, _, n, es, rfl, h1, .inr ⟨n2, es2, h2, q⟩⟩
end
end SR

set_option Elab.async false
set_option linter.all false
set_option maxRecDepth 100000
set_option maxHeartbeats 4000000
namespace SR
open PySem PySem.Spec PyProof.Rows L2
section
variable {P : Program} {w : World} {K : PySem.W.Frag} {mg : Str → Option Value} {base : Heap} {C : Addr}
def spTight (C : Addr) : Sp := fun vs H Q _ => ∃ (v : V) (n : Int) (es : List Ent), vs = [v] ∧ SumV C H v n es ∧ Valid n es ∧
  (¬ Fits n es → ∀ H', Same H H' → Q .non H') ∧ (Fits n es → ∀ H' p, Same H H' → SumV C H' (.ref p) n (tightL n es) → Q (.ref p) H')
theorem sc_tightened : FnScope ["summary", "lows", "highs", "entries", "entry", "low", "high"] ["summary"] (defScope s_tightened) := ⟨rfl, rfl, rfl, by decide +kernel, rfl, by decide +kernel, by decide +kernel⟩
theorem ok_tightened {f : Addr} {fd : FuncData} (F : Fun K "tightened" "tightened" s_tightened f fd) (T : SumT K mg C) (DE : Pr P w K mg base C "entries" 1 (getSp C "_entries")) (DM : Pr P w K mg base C "many" 1 (getSp C "_many"))
    (DCk : Dn P w K mg base "check_summary" ["summary"] 1 (spCkSum C)) (DL : Dn P w K mg base "_least_ranks" ["summary"] 3 (spLeast C)) (DG : Dn P w K mg base "_greatest_ranks" ["summary"] 3 (spGreat C)) (DS : DnMk P w K mg base C)
    (mz : mg "zip" = none) (mt : mg "tuple" = none) : FnOk P w K mg base CX0 8 f fd ["summary"] (spTight C) := by
  refine F.ok sc_tightened (fun vs H Q E h => ?_) (fun cdv A outer s H vs Q E hr h => ?_)
  · obtain ⟨v, n, es, rfl, _⟩ := h
    rfl
  · obtain ⟨v, n, es, rfl, ⟨p, dx, u, rfl, hp, a, vs, rfl, ha, he⟩, hv, kN, kS⟩ := h
    have hr1 : Room 1 _ := hr.mono (by decide)
    have hr2 : Room 2 _ := hr.mono (by decide)
    have hr3 : Room 3 _ := hr.mono (by decide)
    have hr6 : Room 7 _ := hr.mono (by decide)
    have nd := sc_tightened.nd
    have hl : vs.length = es.length := he.len
    have h12 := hv.len
    refine ⟨_, pss_cons (ps_expr (pe_dn DCk hr1 (pa_cons (pv 0) pa_nil)))
      (pss_cons (ps_set (i := 1) nd rfl (Or.inl rfl) (pe_dn DL hr3 (pa_cons (pv 0) pa_nil)))
      (pss_cons (ps_set (i := 2) nd rfl (Or.inl rfl) (pe_dn DG hr3 (pa_cons (pv 0) pa_nil)))
      (pss_cons (ps_set (i := 3) nd rfl (Or.inl rfl) (pe_lst pa_nil))
      (pss_cons (ps_for PassesOwn.never rfl (pi_zip3 (by rfl) mz (pa_cons (pe_pr DE T.ic.cl hr2 (pv 0)) (pa_cons (pv 1) (pa_cons (pv 2) pa_nil)))) (pg_tup rfl (pgs_cons (pg_name (i := 4) nd rfl (Or.inl rfl)) (pgs_cons (pg_name (i := 5) nd rfl (Or.inl rfl)) (pgs_cons (pg_name (i := 6) nd rfl (Or.inl rfl)) pgs_nil))))
        (pss_cons (ps_if (pt_cmpR op_gt (pv 5) (pv 6) (nomark _)) (pss_one (ps_ret pe_non)) pss_nil)
        (pss_one (ps_expr (pe_bm PySem.F.plainAttrs_list PySem.F.slot_list_append PySem.F.type_list_append mt_append (pv 3) (pa_cons (pe_tup (pa_cons (pe_ix ix_tup (pv 4) pe_int (fun _ _ => rfl)) (pa_cons (pv 5) (pa_cons (pv 6) pa_nil)))) pa_nil))))))
      (pss_one (ps_ret (pe_mkS DS T hr6 (pa_cons (pe_pr DM T.ic.cl hr2 (pv 0)) (pa_cons (pe_callTy call_tuple_of (by rfl) mt (by decide +kernel) (pa_cons (pv 3) pa_nil)) pa_nil))))))))), ?_⟩
    have hS : SumV C H (.ref p) n es := ⟨p, dx, _, rfl, hp, a, vs, rfl, ha, he⟩
    refine ⟨_, rfl, _, n, es, rfl, hS, ?_⟩
    refine ⟨_, rfl, _, n, es, rfl, hS, h12, fun H1 l1 s1 n1 hl1 => ?_⟩
    refine ⟨_, rfl, _, n, es, rfl, hS.mono s1, h12, fun H2 l2 s2 n2 hl2 => ?_⟩
    have hl1' := s2 _ _ hl1
    refine ⟨Nat.zero_le _, fun q nq => ?_⟩
    have s3 : Same H H2 := s1.trans s2
    have s4 : Same H2 (upd H2 q (.lst [])) := Same_new nq
    have hnq : H q = none := s3.free nq
    have q1 : l1 ≠ q := ne_of_none hl1' nq
    have q2 : l2 ≠ q := ne_of_none hl2 nq
    refine ⟨_, rfl, p, dx, _, rfl, s4 _ _ (s3 _ _ hp), p, dx, _, _, rfl, s4 _ _ (s3 _ _ hp), sfl_entries _ _, _, rfl, _, rfl, a, l1, l2, vs, _, _, rfl, SqT.of (s4 _ _ (s3 _ _ ha)), SqL.of (s4 _ _ hl1'), SqL.of (s4 _ _ hl2), ?_⟩
    have ln1 : vs.length = ((List.range es.length).map fun j => V.int (tlo es j)).length := by rw [List.length_map, List.length_range]; exact hl
    have ln2 : vs.length = ((List.range es.length).map fun j => V.int (thi n es j)).length := by rw [List.length_map, List.length_range]; exact hl
    refine for_zip3 (K := K) (a := a) (b := l1) (c := l2) (xs := vs) (ys := (List.range es.length).map fun j => V.int (tlo es j)) (zs := (List.range es.length).map fun j => V.int (thi n es j)) ln1 ln2
      (fun i σ H' => ∃ (y4 y5 y6 : Option V) (us : List V), σ = [some (.ref p), some (.ref l1), some (.ref l2), some (.ref q), y4, y5, y6] ∧ Same H H' ∧ H' l1 = some (.lst ((List.range es.length).map fun j => V.int (tlo es j))) ∧ H' l2 = some (.lst ((List.range es.length).map fun j => V.int (thi n es j))) ∧
        H' q = some (.lst us) ∧ EntsV H' us ((tightL n es).take i) ∧ ∀ j, j < i → tlo es j ≤ thi n es j)
      ⟨none, none, none, [], rfl, s3.trans s4, s4 _ _ hl1', s4 _ _ hl2, upd_same, .nil, fun j hj => absurd hj (Nat.not_lt_zero j)⟩ (fun i σ H' ⟨_, _, _, _, _, s5, e1, e2, _⟩ => ⟨SqT.of (s5 _ _ ha), SqL.of e1, SqL.of e2⟩) ?_ ?_
    · rintro i x y z T' σ H' hx hy hz ⟨y4, y5, y6, us, rfl, s5, e1, e2, hq, hus, hle⟩ hT
      obtain ⟨e, hei, t, rfl, ht⟩ := pr_at' he hx
      have hil : i < es.length := (List.getElem?_eq_some_iff.mp hei).1
      have ey : y = .int (tlo es i) := by
        rw [List.getElem?_map, List.getElem?_range hil] at hy
        exact (Option.some.inj hy).symm
      have ez : z = .int (thi n es i) := by
        rw [List.getElem?_map, List.getElem?_range hil] at hz
        exact (Option.some.inj hz).symm
      subst ey ez
      have s6 : Same H' (upd H' T' (.tup [.ref t, .int (tlo es i), .int (thi n es i)])) := Same_new hT
      refine ⟨T', _, rfl, SqT.of upd_same, rfl, _, _, rfl, _, _, rfl, _, _, rfl, rfl, ?_⟩
      refine ⟨_, rfl, _, rfl, _, _, rfl, rfl, _, rfl, ite2 (fun c => ?_) (fun c => ?_)⟩
      · refine kN (fun f => ?_) _ (s5.trans s6)
        have := of_decide_eq_true c
        have := f i hil
        omega
      · have c1 : tlo es i ≤ thi n es i := by
          have : ¬ thi n es i < tlo es i := fun z => c (decide_eq_true z)
          omega
        refine ⟨_, rfl, .inl ⟨rfl, _, SqL.of (s6 _ _ hq)⟩, ?_⟩
        refine ⟨_, rfl, t, _, 0, _, rfl, rfl, SqT.of (s6 _ _ (s5 _ _ ht)), atI_nat (j := 0) rfl, _, rfl, _, rfl, (by show 3 ≤ sizeLine; decide), fun r nr => ?_⟩
        have s7 := Same_new2 (o := .tup [.int e.1, .int (tlo es i), .int (thi n es i)]) s6 nr
        refine ⟨q, _, _, rfl, rfl, s7 _ _ hq, ?_, ?_⟩
        · rw [hus.len]
          have : ((tightL n es).take i).length ≤ 12 := by rw [List.length_take, tight_len]; omega
          exact small1000 (by omega)
        · have sq : ∀ (b : Addr) (o : HO), H' b = some o → b ≠ q → upd (upd (upd H' T' (.tup [.ref t, .int (tlo es i), .int (thi n es i)])) r (.tup [.int e.1, .int (tlo es i), .int (thi n es i)])) q (.lst (us ++ [.ref r])) b = some o := fun b o hb hne => by
            rw [upd_ne hne]
            exact s7 _ _ hb
          have hrq : r ≠ q := fun z => by subst z; rw [s6 _ _ hq] at nr; cases nr
          refine ⟨_, _, _, us ++ [.ref r], rfl, fun b o hb => sq _ _ (s5 _ _ hb) (ne_of_none hb hnq), sq _ _ e1 q1, sq _ _ e2 q2, upd_same, ?_, fun j hj => ?_⟩
          · rw [List.take_add_one, tight_at hil]
            refine pr_app (Paired.mapP hus fun v e' ⟨t', ev, et⟩ => ⟨t', ev, sq _ _ et (ne_of et hq (by intro z; cases z))⟩) (.cons ⟨r, rfl, ?_⟩ .nil)
            rw [upd_ne hrq, upd_same, vl_of hei]
          · by_cases hji : j < i
            · exact hle j hji
            · have ej : j = i := by omega
              rw [ej]; exact c1
    · rintro σ H' ⟨y4, y5, y6, us, rfl, s5, e1, e2, hq, hus, hle⟩
      rw [hl] at hus hle
      have fits : Fits n es := fun j hj => hle j hj
      rw [List.take_of_length_le (by rw [tight_len]; exact Nat.le_refl _)] at hus
      refine ⟨_, rfl, p, dx, _, rfl, s5 _ _ hp, p, dx, _, _, rfl, s5 _ _ hp, sfl_many _ _, _, rfl, q, _, rfl, .inl ⟨SqL.of hq, fun r nr => ?_⟩⟩
      have s8 := Same_new (o := .tup us) nr
      exact sum_made ⟨r, us, rfl, upd_same, hus.mono s8⟩ (hv.tight fits) fun x H9 _ s9 hs9 => kS fits H9 x ((s5.trans s8).trans s9) hs9
end
end SR

set_option Elab.async false
set_option linter.all false
set_option maxRecDepth 100000
set_option maxHeartbeats 4000000
/-! What is checked, of any value. -/
namespace SR
open PySem PySem.Spec PyProof.Rows L2
/-- a value of a built-in type -/
inductive Any (K : PySem.W.Frag) (H : Hp) : V → String → Prop
  | non : Any K H .non "NoneType"
  | bl (b : Bool) : Any K H (.bl b) "bool"
  | int (i : Int) : Any K H (.int i) "int"
  | str (x : Str) : Any K H (.str x) "str"
  | lst {a : Addr} {xs : List V} (h : H a = some (.lst xs)) : Any K H (.ref a) "list"
  | tup {a : Addr} {xs : List V} (h : H a = some (.tup xs)) : Any K H (.ref a) "tuple"
theorem Any.ty {K : PySem.W.Frag} {H : Hp} {v : V} {T : String} (h : Any K H v T) : TyX K H v (.type T) := by
  cases h with
  | non => exact .base .non
  | bl b => exact .base (.bl b)
  | int i => exact .base (.int i)
  | str x => exact .base (.str x)
  | lst h => exact .base (.lst h)
  | tup h => exact .base (.tup h)
theorem Any.mono {K : PySem.W.Frag} {H H' : Hp} {v : V} {T : String} (s : Same H H') (h : Any K H v T) : Any K H' v T := by
  cases h with
  | non => exact .non
  | bl b => exact .bl b
  | int i => exact .int i
  | str x => exact .str x
  | lst h => exact .lst (s _ _ h)
  | tup h => exact .tup (s _ _ h)
def isI : V → Bool
  | .int _ => true
  | _ => false
def isT {K : PySem.W.Frag} {H : Hp} : {v : V} → {T : String} → Any K H v T → Bool := fun {_ T} _ => T == "tuple"
theorem Any.kInt {K : PySem.W.Frag} {H : Hp} {v : V} {T : String} (h : Any K H v T) : PySem.W.kitOne K (.type T) (.type "int") = some (T == "int" || T == "bool") := by
  cases h <;> exact kit_ty (by decide +kernel)
theorem Any.kBool {K : PySem.W.Frag} {H : Hp} {v : V} {T : String} (h : Any K H v T) : PySem.W.kitOne K (.type T) (.type "bool") = some (T == "bool") := by
  cases h <;> exact kit_ty (by decide +kernel)
theorem Any.kTup {K : PySem.W.Frag} {H : Hp} {v : V} {T : String} (h : Any K H v T) : PySem.W.kitOne K (.type T) (.type "tuple") = some (T == "tuple") := by
  cases h <;> exact kit_ty (by decide +kernel)
section
variable {P : Program} {w : World} {K : PySem.W.Frag} {mg : Str → Option Value} {base : Heap} {C : Addr}
def spIsIntA (K : PySem.W.Frag) : Sp := fun vs H Q _ => ∃ (v : V) (T : String), vs = [v] ∧ Any K H v T ∧ Q (.bl (isI v)) H
theorem ok_is_integerA {f : Addr} {fd : FuncData} (F : Fun K "is_integer" "is_integer" s_is_integer f fd) (mi : mg "isinstance" = none) (mint : mg "int" = none) (mb : mg "bool" = none) : FnOk P w K mg base CX0 1 f fd ["value"] (spIsIntA K) := by
  refine F.ok sc_is_integer (fun vs H Q E h => ?_) (fun cdv A outer s H vs Q E hr h => ?_)
  · obtain ⟨v, T, rfl, _⟩ := h
    rfl
  · obtain ⟨v, T, rfl, hv, k⟩ := h
    refine ⟨_, pss_one (ps_ret (pe_and (pe_callB call_isi (by rfl) mi (by decide +kernel) (pa_cons (pv 0) (pa_cons (pe_bltn (v := .ty "int") (by rfl) mint (by decide +kernel) rfl) pa_nil)))
      (pe_one (pe_not (pe_callB call_isi (by rfl) mi (by decide +kernel) (pa_cons (pv 0) (pa_cons (pe_bltn (v := .ty "bool") (by rfl) mb (by decide +kernel) rfl) pa_nil))))))), ?_⟩
    refine ⟨_, rfl, _, _, _, _, _, rfl, .ty _, hv.ty, hv.kInt, _, rfl, ?_⟩
    cases hv with
    | int i => exact iteT ⟨_, rfl, _, _, _, _, _, rfl, .ty _, (Any.int (K := K) (H := H) i).ty, (Any.int (K := K) (H := H) i).kBool, _, rfl, k⟩
    | bl b => exact iteT ⟨_, rfl, _, _, _, _, _, rfl, .ty _, (Any.bl (K := K) (H := H) b).ty, (Any.bl (K := K) (H := H) b).kBool, _, rfl, k⟩
    | non => exact iteF k
    | str x => exact iteF k
    | lst h => exact iteF k
    | tup h => exact iteF k
/-- is_between of a value and two bounds -/
def betV (v : V) (a b : Int) : Bool := match v with
  | .int i => decide (a ≤ i) && decide (i ≤ b)
  | _ => false
def spBetweenA (K : PySem.W.Frag) : Sp := fun vs H Q _ => ∃ (v : V) (T : String) (a b : Int), vs = [v, .int a, .int b] ∧ Any K H v T ∧ Q (.bl (betV v a b)) H
theorem ok_is_betweenA {f : Addr} {fd : FuncData} (F : Fun K "is_between" "is_between" s_is_between f fd) (D1 : Dn P w K mg base "is_integer" ["value"] 1 (spIsIntA K)) : FnOk P w K mg base CX0 2 f fd ["value", "least", "greatest"] (spBetweenA K) := by
  refine F.ok sc_is_between (fun vs H Q E h => ?_) (fun cdv A outer s H vs Q E hr h => ?_)
  · obtain ⟨v, T, a, b, rfl, _⟩ := h
    rfl
  · obtain ⟨v, T, a, b, rfl, hv, k⟩ := h
    have hr1 : Room 1 _ := hr.mono (by decide)
    refine ⟨_, pss_one (ps_ret (pe_and (pe_dn D1 hr1 (pa_cons (pv 0) pa_nil)) (pe_one (pe_chain op_le op_le (pv 1) (pv 0) (pv 2))))), ?_⟩
    refine ⟨_, rfl, v, T, rfl, hv, _, rfl, ?_⟩
    cases hv with
    | int i =>
      refine iteT ?_
      refine ⟨_, rfl, _, rfl, _, _, rfl, rfl, _, rfl, ?_⟩
      have k : Q (.bl (decide (a ≤ i) && decide (i ≤ b))) H := k
      by_cases h1 : a ≤ i
      · rw [decide_eq_true h1] at k
        rw [if_pos (decide_eq_true h1)]
        exact ⟨_, rfl, _, _, rfl, rfl, k⟩
      · rw [decide_eq_false h1] at k
        rw [if_neg (by simp [h1])]
        exact k
    | bl b => exact iteF k
    | non => exact iteF k
    | str x => exact iteF k
    | lst h => exact iteF k
    | tup h => exact iteF k
def spIsValueA (K : PySem.W.Frag) : Sp := fun vs H Q _ => ∃ (v : V) (T : String), vs = [v] ∧ Any K H v T ∧ Q (.bl (betV v (-10 ^ 30) (10 ^ 30))) H
theorem ok_is_valueA {f : Addr} {fd : FuncData} (F : Fun K "is_value" "is_value" s_is_value f fd) (D2 : Dn P w K mg base "is_between" ["value", "least", "greatest"] 2 (spBetweenA K)) {tk : Tok} (gv : mg "GREATEST_VALUE" = some (.int (10 ^ 30) tk)) : FnOk P w K mg base CX0 3 f fd ["thing"] (spIsValueA K) := by
  refine F.ok sc_is_value (fun vs H Q E h => ?_) (fun cdv A outer s H vs Q E hr h => ?_)
  · obtain ⟨v, T, rfl, _⟩ := h
    rfl
  · obtain ⟨v, T, rfl, hv, k⟩ := h
    have hr2 : Room 2 _ := hr.mono (by decide)
    exact ⟨_, pss_one (ps_ret (pe_dn D2 hr2 (pa_cons (pv 0) (pa_cons (pe_un un_neg (pe_gi gv)) (pa_cons (pe_gi gv) pa_nil))))), _, rfl, _, rfl, _, _, _, _, rfl, hv, k⟩
end
end SR

set_option Elab.async false
set_option linter.all false
set_option maxRecDepth 100000
set_option maxHeartbeats 4000000
namespace SR
open PySem PySem.Spec PyProof.Rows L2
section
variable {P : Program} {w : World} {K : PySem.W.Frag} {mg : Str → Option Value} {base : Heap} {C : Addr}
def spMix (K : PySem.W.Frag) : Sp := fun vs H Q _ => ∃ (a : Addr) (ns : List Int) (seed : Int), vs = [.ref a, .int seed] ∧ SqL K H a (ns.map V.int) ∧ ns.length ≤ 63 ∧ 0 ≤ seed ∧ seed < 2147483647 ∧
  ∀ H' p c, Same H H' → H p = none → H c = none → DrawAt H' p c → Q (.ref p) H'
theorem sc__law_mix : FnScope ["_law_script", "_law_seed", "_law_state", "_law_cell"] ["_law_script", "_law_seed"] (defScope s__law_mix) := ⟨rfl, rfl, rfl, by decide +kernel, rfl, by decide +kernel, by decide +kernel⟩
theorem ok__law_mix {f : Addr} {fd : FuncData} (F : Fun K "_law_mix" "_law_mix" s__law_mix f fd) (mint : mg "int" = none) (mlist : mg "list" = none) : FnOk P w K mg base CX0 1 f fd ["_law_script", "_law_seed"] (spMix K) := by
  refine F.ok sc__law_mix (fun vs H Q E h => ?_) (fun cdv A outer s H vs Q E hr h => ?_)
  · obtain ⟨a, ns, seed, rfl, _⟩ := h
    rfl
  · obtain ⟨a, ns, seed, rfl, hS, h63, h0, h1, k⟩ := h
    have nd := sc__law_mix.nd
    refine ⟨_, pss_cons (ps_set (i := 2) nd rfl (Or.inl rfl) (pv 1))
      (pss_cons (ps_for PassesOwn.never rfl (pi_list (pv 0)) (pg_name (i := 3) nd rfl (Or.inl rfl))
        (pss_one (ps_set (i := 2) nd rfl (Or.inl rfl) (pe_op op_mod (pe_callTy call_int1 (by rfl) mint (by decide +kernel) (pa_cons (pe_op op_add (pe_op op_add (pe_op op_mul (pv 2) pe_int)
          (pe_op op_mod (pe_callTy call_int1 (by rfl) mint (by decide +kernel) (pa_cons (pv 3) pa_nil)) pe_int)) pe_int) pa_nil)) pe_int))))
      (pss_one (ps_ret (pe_lst (pa_cons (pv 2) (pa_cons (pe_callTy call_list_of (by rfl) mlist (by decide +kernel) (pa_cons (pv 0) pa_nil)) (pa_cons pe_int pa_nil))))))), ?_⟩
    refine ⟨_, rfl, _, rfl, a, rfl, ⟨_, hS⟩, for_list (K := K) (a := a) (xs := ns.map V.int) (fun i σ H' => ∃ (s : Int) (y : Option V), σ = [some (.ref a), some (.int seed), some (.int s), y] ∧ H' = H ∧ 0 ≤ s ∧ s < 2147483647)
      ⟨seed, none, rfl, rfl, h0, h1⟩ (fun i σ H' _ ⟨_, _, _, e, _⟩ => by rw [e]; exact hS) ?_ ?_⟩
    · rintro i x σ H' hi ⟨s, y, rfl, rfl, hs0, hs1⟩
      obtain ⟨z, rfl⟩ : ∃ z, x = V.int z := by
        rw [List.getElem?_map] at hi
        cases e : ns[i]? with
        | none => rw [e] at hi; cases hi
        | some z => rw [e] at hi; exact ⟨z, (Option.some.inj hi).symm⟩
      refine ⟨_, rfl, _, _, rfl, rfl, .inl ⟨by omega, by omega⟩, _, rfl, .inl ⟨_, rfl, _, _, rfl, rfl, (by show (0 : Int) < 2147483629; decide), _, _, rfl, rfl, _, _, rfl, rfl, .inl ⟨_, rfl, _, _, rfl, rfl, (by show (0 : Int) < 2147483647; decide), ?_⟩⟩⟩
      exact ⟨_, _, rfl, rfl, Int.emod_nonneg _ (by decide), Int.emod_lt_of_pos _ (by decide)⟩
    · rintro σ H' ⟨s, y, rfl, rfl, hs0, hs1⟩
      refine ⟨_, rfl, _, rfl, a, _, rfl, .inl hS, fun l nl => ⟨(by show 3 ≤ sizeLine; decide), fun p np => ?_⟩⟩
      have hpl : l ≠ p := fun z => by subst z; rw [upd_same] at np; cases np
      refine k _ p l ((Same_new nl).trans (Same_new np)) ((Same_new nl).free np) nl ⟨s, 0, ns, upd_same, ?_, hs0, hs1, Int.le_refl 0, h63⟩
      rw [upd_ne hpl, upd_same]
/-- a draw: any number from 0 up to below the bound -/
def spNext : Sp := fun vs H Q _ => ∃ (p c : Addr) (b : Int), vs = [.ref p, .int b] ∧ DrawAt H p c ∧ 0 < b ∧ b.natAbs < 2 ^ 200 ∧
  ∀ H' r, 0 ≤ r → r < b → DrawAt H' p c → SameD p c H H' → Q (.int r) H'
theorem sc__law_next : FnScope ["_law_h", "_law_bound", "_law_cell", "_law_cells"] ["_law_h", "_law_bound"] (defScope s__law_next) := ⟨rfl, rfl, rfl, by decide +kernel, rfl, by decide +kernel, by decide +kernel⟩
theorem ok__law_next {f : Addr} {fd : FuncData} (F : Fun K "_law_next" "_law_next" s__law_next f fd) (mint : mg "int" = none) (mmax : mg "max" = none) (mlen : mg "len" = none) : FnOk P w K mg base CX0 1 f fd ["_law_h", "_law_bound"] spNext := by
  refine F.ok sc__law_next (fun vs H Q E h => ?_) (fun cdv A outer s H vs Q E hr h => ?_)
  · obtain ⟨p, c, b, rfl, _⟩ := h
    rfl
  · obtain ⟨p, c, b, rfl, hD, hb, hb2, k⟩ := h
    have hne := hD.ne
    obtain ⟨s, i, cs, hp, hc, hs0, hs1, hi0, h63⟩ := id hD
    have nd := sc__law_next.nd
    refine ⟨_, pss_cons (ps_set (i := 2) nd rfl (Or.inl rfl) (pe_ix ix_list (pe_op op_cat (pe_ix ix_list (pv 0) pe_int (fun _ _ => rfl)) (pe_lst (pa_cons pe_int pa_nil)))
        (pe_op op_mod (pe_callTy call_int1 (by rfl) mint (by decide +kernel) (pa_cons (pe_ix ix_list (pv 0) pe_int (fun _ _ => rfl)) pa_nil)) (pe_callB (call_max2 rfl) (by rfl) mmax (by decide +kernel) (pa_cons pe_int (pa_cons (pe_callB call_len_seq (by rfl) mlen PySem.boot_len (pa_cons (pe_ix ix_list (pv 0) pe_int (fun _ _ => rfl)) pa_nil)) pa_nil)))) (fun _ _ => rfl)))
      (pss_cons (ps_if (pt_cmpR op_ge (pv 2) (pe_op op_pow pe_int pe_int) (nomark _))
        (pss_cons (ps_set (i := 3) nd rfl (Or.inl rfl) (pe_ix ix_list (pv 0) pe_int (fun _ _ => rfl)))
        (pss_cons (ps_asg (pe_op op_fdivW (pv 2) (pv 1)) (pg_sub (pv 3) (pe_op op_mod (pe_callTy call_int1 (by rfl) mint (by decide +kernel) (pa_cons (pe_ix ix_list (pv 0) pe_int (fun _ _ => rfl)) pa_nil)) (pe_callB call_len_seq (by rfl) mlen PySem.boot_len (pa_cons (pv 3) pa_nil))) set_list))
        (pss_one (ps_ret (pe_op op_mod (pe_callTy call_int1 (by rfl) mint (by decide +kernel) (pa_cons (pv 2) pa_nil)) (pv 1)))))) pss_nil)
      (pss_cons (ps_asg (pe_op op_mod (pe_callTy call_int1 (by rfl) mint (by decide +kernel) (pa_cons (pe_op op_add (pe_op op_add (pe_op op_mul (pe_ix ix_list (pv 0) pe_int (fun _ _ => rfl)) pe_int) (pe_op op_mul (pv 2) pe_int)) pe_int) pa_nil)) pe_int) (pg_sub (pv 0) pe_int set_list))
      (pss_cons (ps_asg (pe_op op_add (pe_ix ix_list (pv 0) pe_int (fun _ _ => rfl)) pe_int) (pg_sub (pv 0) pe_int set_list))
      (pss_one (ps_ret (pe_op op_mod (pe_callTy call_int1 (by rfl) mint (by decide +kernel) (pa_cons (pe_op op_fdiv (pe_ix ix_list (pv 0) pe_int (fun _ _ => rfl)) pe_int) pa_nil)) (pv 1))))))), ?_⟩
    -- the cell
    refine ⟨_, rfl, p, _, 1, _, rfl, rfl, SqL.of hp, atI_nat (j := 1) rfl, (by show 1 ≤ sizeLine; decide), fun z nz => ?_⟩
    have s1 : Same H (upd H z (.lst [.int 0])) := Same_new nz
    refine ⟨c, z, _, _, rfl, rfl, s1 _ _ hc, upd_same, ?_, fun y ny => ?_⟩
    · show (cs.map V.int).length + 1 ≤ sizeLine
      rw [List.length_map]
      exact Nat.le_of_lt (small1000 (by omega))
    have s2 := Same_new2 (o := .lst (cs.map V.int ++ [.int 0])) s1 ny
    refine ⟨_, rfl, p, _, 2, _, rfl, rfl, SqL.of (s2 _ _ hp), atI_nat (j := 2) rfl, .inl ⟨_, rfl, ?_⟩⟩
    refine ⟨_, rfl, p, _, 1, _, rfl, rfl, SqL.of (s2 _ _ hp), atI_nat (j := 1) rfl, c, _, rfl, .inl (SqL.of (s2 _ _ hc)), _, _, rfl, _, _, rfl, rfl, ?_, ?_⟩
    · show (0 : Int) < if ((cs.map V.int).length : Int) > 1 then ((cs.map V.int).length : Int) else 1
      split <;> omega
    have ek : ∃ j : Nat, (i % (if ((cs.map V.int).length : Int) > 1 then ((cs.map V.int).length : Int) else 1)) = (j : Int) ∧ j < cs.length + 1 ∧ (cs ≠ [] → (j : Int) = i % (cs.length : Int) ∧ j < cs.length) := by
      rw [List.length_map]
      cases cs with
      | nil =>
        refine ⟨0, ?_, by simp, fun z => absurd rfl z⟩
        show i % 1 = 0
        exact Int.emod_one i
      | cons x r =>
        have hl : (if (((x :: r).length : Nat) : Int) > 1 then (((x :: r).length : Nat) : Int) else 1) = (((x :: r).length : Nat) : Int) := by
          rw [List.length_cons]
          split <;> omega
        rw [hl]
        have a1 : 0 ≤ i % (((x :: r).length : Nat) : Int) := Int.emod_nonneg _ (by rw [List.length_cons]; omega)
        have a2 : i % (((x :: r).length : Nat) : Int) < (((x :: r).length : Nat) : Int) := Int.emod_lt_of_pos _ (by rw [List.length_cons]; omega)
        exact ⟨(i % (((x :: r).length : Nat) : Int)).toNat, by omega, by omega, fun _ => ⟨by omega, by omega⟩⟩
    obtain ⟨j, ej, hj, hjc⟩ := ek
    obtain ⟨cell, hcell, hin⟩ : ∃ cell : Int, (cs.map V.int ++ [V.int 0])[j]? = some (.int cell) ∧ (cell ≠ 0 → cs ≠ []) := by
      have e1 : (cs.map V.int ++ [V.int 0]) = (cs ++ [0]).map V.int := by rw [List.map_append]; rfl
      have hlt : j < (cs ++ [(0 : Int)]).length := by rw [List.length_append]; exact hj
      refine ⟨(cs ++ [(0 : Int)])[j], ?_, fun h z => h ?_⟩
      · rw [e1, List.getElem?_map, List.getElem?_eq_getElem hlt]; rfl
      · subst z
        have : j = 0 := by simp at hj; exact hj
        subst this
        rfl
    refine ⟨y, _, _, .int cell, rfl, rfl, SqL.of upd_same, at_of ej hcell, ?_⟩
    refine ⟨_, rfl, _, _, rfl, rfl, ⟨by decide, by decide, by decide⟩, _, _, rfl, rfl, _, rfl, ite2 (fun hc18 => ?_) (fun hc18 => ?_)⟩
    · have big : (10 : Int) ^ (18 : Int).toNat ≤ cell := of_decide_eq_true hc18
      have big1 : (10 : Int) ^ (18 : Int).toNat = 1000000000000000000 := by decide
      have hne0 : cs ≠ [] := hin (by omega)
      obtain ⟨hj1, hj2⟩ := hjc hne0
      refine ⟨_, rfl, p, _, 1, _, rfl, rfl, SqL.of (s2 _ _ hp), atI_nat (j := 1) rfl, ?_⟩
      refine ⟨_, rfl, _, rfl, _, _, rfl, rfl, wide_div hb hb2 (by decide) (by decide), ?_⟩
      refine ⟨_, rfl, _, rfl, p, _, 2, _, rfl, rfl, SqL.of (s2 _ _ hp), atI_nat (j := 2) rfl, .inl ⟨_, rfl, ?_⟩⟩
      refine ⟨_, rfl, c, _, rfl, .inl (SqL.of (s2 _ _ hc)), _, _, rfl, rfl, ?_, ?_⟩
      · show (0 : Int) < ((cs.map V.int).length : Int)
        rw [List.length_map]
        omega
      refine ⟨c, _, _, j, rfl, rfl, s2 _ _ hc, ?_, ?_⟩
      · rw [List.length_map, ← hj1]
        unfold ixN
        rw [if_pos (by omega), if_pos (by omega)]
        simp
      refine ⟨_, rfl, .inl ⟨_, rfl, _, rfl, _, _, rfl, rfl, hb, ?_⟩⟩
      refine k _ _ (Int.emod_nonneg _ (by omega)) (Int.emod_lt_of_pos _ hb) ⟨s, i, cs.set j (cell / b), ?_, ?_, hs0, hs1, hi0, ?_⟩ fun a o ha hap hac => ?_
      · rw [upd_ne hne]; exact s2 _ _ hp
      · rw [upd_same, List.map_set]
      · rw [List.length_set]; exact h63
      · rw [upd_ne hac]; exact s2 _ _ ha
    · refine ⟨_, rfl, p, _, 0, _, rfl, rfl, SqL.of (s2 _ _ hp), atI_nat (j := 0) rfl, _, _, rfl, rfl, .inl ⟨by omega, by omega⟩, ?_⟩
      refine ⟨_, rfl, _, _, rfl, rfl, .inr ⟨by decide, by decide⟩, _, _, rfl, rfl, _, _, rfl, rfl, .inl ⟨_, rfl, _, _, rfl, rfl, (by show (0 : Int) < 2147483647; decide), ?_⟩⟩
      refine ⟨_, rfl, p, _, 0, 0, rfl, rfl, s2 _ _ hp, rfl, ?_⟩
      refine ⟨_, rfl, p, _, 2, _, rfl, rfl, SqL.of upd_same, atI_nat (j := 2) rfl, _, _, rfl, rfl, ?_⟩
      refine ⟨_, rfl, p, _, 2, 2, rfl, rfl, upd_same, rfl, ?_⟩
      refine ⟨_, rfl, p, _, 0, _, rfl, rfl, SqL.of upd_same, atI_nat (j := 0) rfl, _, _, rfl, rfl, ⟨by decide, by decide⟩, .inl ⟨_, rfl, _, rfl, _, _, rfl, rfl, hb, ?_⟩⟩
      refine k _ _ (Int.emod_nonneg _ (by omega)) (Int.emod_lt_of_pos _ hb) ⟨_, i + 1, cs, upd_same, ?_, Int.emod_nonneg _ (by decide), Int.emod_lt_of_pos _ (by decide), by omega, h63⟩ fun a o ha hap hac => ?_
      · rw [upd_ne hne.symm, upd_ne hne.symm]; exact s2 _ _ hc
      · rw [upd_ne hap, upd_ne hap]; exact s2 _ _ ha
end
end SR

set_option Elab.async false
set_option linter.all false
set_option maxRecDepth 100000
set_option maxHeartbeats 4000000
namespace SR
open PySem PySem.Spec PyProof.Rows L2
/-- valid entries from what each keeps, and rising values -/
theorem valid_of {n : Int} {es : List Ent} (n1 : 1 ≤ n) (n2 : n ≤ 10 ^ 30) (l : es.length ≤ 12) (ok : ∀ e ∈ es, EntOk n e) (asc : es.Pairwise fun a b => a.1 ≤ b.1) : Valid n es where
  n1 := n1
  n2 := n2
  len := l
  ent := fun j hj => by
    have e := List.getElem?_eq_getElem hj
    rw [vl_of e, lo_of e, hi_of e]
    exact ok _ (List.getElem_mem hj)
  asc := fun j hj => by
    have e := List.getElem?_eq_getElem (show j < es.length by omega)
    have e2 := List.getElem?_eq_getElem hj
    rw [vl_of e, vl_of e2]
    exact List.pairwise_iff_getElem.mp asc j (j + 1) _ hj (by omega)
/-- the entries made so far, of a row in order -/
structure SmI (far n : Int) (rs : List Int) (i : Nat) (es : List Ent) : Prop where
  bd : ∀ e ∈ es, 0 ≤ e.1 ∧ e.1 < far
  l6 : es.length ≤ 6
  ok : ∀ e ∈ es, EntOk n e
  asc : es.Pairwise fun a b => a.1 ≤ b.1
  le : ∀ e ∈ es, ∀ k (h : k < rs.length), i ≤ k → e.1 ≤ rs[k]
theorem SmI.zero (far n : Int) (rs : List Int) : SmI far n rs 0 [] := ⟨fun e h => (nomatch h), by simp, fun e h => (nomatch h), List.Pairwise.nil, fun e h => (nomatch h)⟩
theorem SmI.skip {far n : Int} {rs : List Int} {i : Nat} {es : List Ent} (s : SmI far n rs i es) : SmI far n rs (i + 1) es := ⟨s.bd, s.l6, s.ok, s.asc, fun e h k hk hik => s.le e h k hk (by omega)⟩
theorem SmI.snoc {far n : Int} {rs : List Int} {i : Nat} {es : List Ent} (s : SmI far n rs i es) (hs : rs.Pairwise (· ≤ ·)) (hi : i < rs.length) {e : Ent} (h6 : es.length < 6) (ok : EntOk n e) (he : e.1 = rs[i]) (hb : 0 ≤ e.1 ∧ e.1 < far) : SmI far n rs (i + 1) (es ++ [e]) where
  bd := fun x hx => by
    rcases List.mem_append.mp hx with hx | hx
    · exact s.bd x hx
    · rw [List.mem_singleton.mp hx]; exact hb
  l6 := by rw [List.length_append]; exact h6
  ok := fun x hx => by
    rcases List.mem_append.mp hx with hx | hx
    · exact s.ok x hx
    · rw [List.mem_singleton.mp hx]; exact ok
  asc := List.pairwise_append.mpr ⟨s.asc, List.pairwise_singleton _ _, fun a ha b hb => by rw [List.mem_singleton.mp hb, he]; exact s.le a ha i hi (Nat.le_refl _)⟩
  le := fun x hx k hk hik => by
    rcases List.mem_append.mp hx with hx | hx
    · exact s.le x hx k hk (by omega)
    · rw [List.mem_singleton.mp hx, he]
      exact List.pairwise_iff_getElem.mp hs i k hi hk (by omega)
theorem set_valid {n : Int} {es : List Ent} (v : Valid n es) {k : Nat} (hk : k < es.length) {a b : Int} (h1 : 1 ≤ a) (h2 : a ≤ b) (h3 : b ≤ n) : Valid n (es.set k (vl es k, a, b)) := by
  have at_ : ∀ j, j < es.length → (es.set k (vl es k, a, b))[j]? = if k = j then some (vl es k, a, b) else es[j]? := fun j hj => by
    rw [List.getElem?_set]
    by_cases e : k = j
    · rw [if_pos e, if_pos e, if_pos hk]
    · rw [if_neg e, if_neg e]
  have vl_ : ∀ j, j < es.length → vl (es.set k (vl es k, a, b)) j = vl es j := fun j hj => by
    by_cases e : k = j
    · have q := at_ j hj
      rw [if_pos e] at q
      rw [vl_of q, e]
    · have q := at_ j hj
      rw [if_neg e, ent_at hj] at q
      rw [vl_of q]
  refine ⟨v.n1, v.n2, by rw [List.length_set]; exact v.len, fun j hj => ?_, fun j hj => ?_⟩
  · rw [List.length_set] at hj
    have w := v.ent j hj
    by_cases e : k = j
    · have q := at_ j hj
      rw [if_pos e] at q
      rw [vl_ j hj, lo_of q, hi_of q]
      exact ⟨w.1, w.2.1, h1, h2, h3⟩
    · have q := at_ j hj
      rw [if_neg e, ent_at hj] at q
      rw [vl_of q, lo_of q, hi_of q]
      exact w
  · rw [List.length_set] at hj
    rw [vl_ j (by omega), vl_ (j + 1) hj]
    exact v.asc j hj
theorem ents_layL (es : List Ent) : (PyData.list (es.map entD)).canLay0 = true ∧ (PyData.list (es.map entD)).depth ≤ 2 := ents_lay es
theorem shaped_entsL (es : List Ent) : SeqAt.shaped (.list (es.map entD)) = true := shaped_of ⟨(ents_layL es).1, Nat.le_trans (ents_layL es).2 (by decide)⟩
theorem eqv_entsL (es fs : List Ent) : PyData.eqv (.list (es.map entD)) (.list (fs.map entD)) = decide (es = fs) := eqvAll_ents es fs
end SR

set_option Elab.async false
set_option linter.all false
set_option maxRecDepth 100000
set_option maxHeartbeats 4000000
namespace SR
open PySem PySem.Spec PyProof.Rows L2
section
variable {P : Program} {w : World} {K : PySem.W.Frag} {mg : Str → Option Value} {base : Heap} {C N M fI : Addr}
def spSure (C N : Addr) : Sp := fun vs H Q E => ∃ (v : V) (n : Int) (es : List Ent), vs = [v] ∧ SumV C H v n es ∧ Valid n es ∧
  (¬ Fits n es → ∀ H', Same H H' → E (.ref N) none H') ∧ (Fits n es → ∀ H' p, Same H H' → SumV C H' (.ref p) n (tightL n es) → Q (.ref p) H')
theorem sc_surely_tightened : FnScope ["summary", "tight"] ["summary"] (defScope s_surely_tightened) := ⟨rfl, rfl, rfl, by decide +kernel, rfl, by decide +kernel, by decide +kernel⟩
theorem ok_surely_tightened {f : Addr} {fd : FuncData} (F : Fun K "surely_tightened" "surely_tightened" s_surely_tightened f fd) (DT : Dn P w K mg base "tightened" ["summary"] 8 (spTight C)) (TN : NzTxt K mg "NoRow" N fI) :
    FnOk P w K mg base (L2.CX P w) 9 f fd ["summary"] (spSure C N) := by
  refine F.okX sc_surely_tightened (fun vs H Q E h => ?_) (fun cdv A outer s H vs Q E hr h => ?_)
  · obtain ⟨v, n, es, rfl, _⟩ := h
    rfl
  · obtain ⟨v, n, es, rfl, hS, hv, kN, kS⟩ := h
    have nd := sc_surely_tightened.nd
    have hr7 : Room 8 _ := hr.mono (by decide)
    refine ⟨_, pss_cons (ps_set (i := 1) nd rfl (Or.inl rfl) (pe_dn DT hr7 (pa_cons (pv 0) pa_nil)))
      (pss_cons (ps_if (pt_cmp (pc_isN (pv 1))) (pss_one (ps_raise (W := fun cls d _ H => E cls d H) rfl (takes_of rfl rfl rfl rfl) (pmk_nz TN hr7 (by decide) rfl))) pss_nil)
      (pss_one (ps_ret (pv 1)))), ?_⟩
    refine ⟨_, rfl, v, n, es, rfl, hS, hv, fun hf H1 s1 => ?_, fun hf H1 p s1 h1 => ?_⟩
    · refine ⟨_, rfl, _, rfl, iteT ?_⟩
      exact kN hf H1 s1
    · refine ⟨_, rfl, _, rfl, ?_⟩
      rw [decide_eq_false (show ¬ V.ref p = V.non from fun z => nomatch z)]
      exact iteF ⟨_, rfl, kS hf H1 p s1 h1⟩
def DLen (P : Program) (w : World) (K : PySem.W.Frag) (mg : Str → Option Value) (base : Heap) (C : Addr) : Prop := ∃ f fd, FnOk P w K mg base CX0 1 f fd ["self"] (spSumLen C) ∧ PySem.W.findIn K (.ref C) "__len__" = some (some (.ref f)) ∧ PySem.W.isFn K (.ref f) = true ∧ Binds K fd ["self"] []
end
end SR

set_option Elab.async false
set_option linter.all false
set_option maxRecDepth 100000
set_option maxHeartbeats 4000000
namespace SR
open PySem PySem.Spec PyProof.Rows L2
section
variable {P : Program} {w : World} {K : PySem.W.Frag} {mg : Str → Option Value} {base : Heap} {C N M fI : Addr}
def spWith (C N M : Addr) : Sp := fun vs H Q E => ∃ (v : V) (n : Int) (es : List Ent), vs = [v] ∧ SumV C H v n es ∧ Valid n es ∧
  (¬ Fits n es → ∀ H', Same H H' → E (.ref N) none H') ∧ (Fits n es → es = [] → ∀ H', Same H H' → E (.ref M) none H') ∧ (Fits n es → es ≠ [] → ∀ H' p, Same H H' → SumV C H' (.ref p) n (tightL n es) → Q (.ref p) H')
theorem sc__with_entries : FnScope ["summary", "tight"] ["summary"] (defScope s__with_entries) := ⟨rfl, rfl, rfl, by decide +kernel, rfl, by decide +kernel, by decide +kernel⟩
theorem ok__with_entries {f : Addr} {fd : FuncData} (F : Fun K "_with_entries" "_with_entries" s__with_entries f fd) (DT : DnX P w K mg base "surely_tightened" ["summary"] 9 (spSure C N)) (TM : NzTxt K mg "NoEntry" M fI) (DL : DLen P w K mg base C) (mlen : mg "len" = none) :
    FnOk P w K mg base (L2.CX P w) 10 f fd ["summary"] (spWith C N M) := by
  obtain ⟨fL, fdL, GL, hsL, hfL, bL⟩ := DL
  refine F.okX sc__with_entries (fun vs H Q E h => ?_) (fun cdv A outer s H vs Q E hr h => ?_)
  · obtain ⟨v, n, es, rfl, _⟩ := h
    rfl
  · obtain ⟨v, n, es, rfl, hS, hv, kN, kM, kS⟩ := h
    have nd := sc__with_entries.nd
    have hr8 : Room 9 _ := hr.mono (by decide)
    have hr2 : Room 2 _ := hr.mono (by decide)
    refine ⟨_, pss_cons (ps_set (i := 1) nd rfl (Or.inl rfl) (pe_dnX (W := fun cls d _ H => E cls d H) DT hr8 (takes_of rfl rfl rfl rfl) (pa_cons (pv 0) pa_nil)))
      (pss_cons (ps_if (pt_cmpR op_eq (pe_callB (call_lenO GL hr2 hsL hfL bL pass0) (by rfl) mlen PySem.boot_len (pa_cons (pv 1) pa_nil)) pe_int (nomark _)) (pss_one (ps_raise (W := fun cls d _ H => E cls d H) rfl (takes_of rfl rfl rfl rfl) (pmk_nz TM hr8 (by decide) rfl))) pss_nil)
      (pss_one (ps_ret (pv 1)))), ?_⟩
    refine ⟨_, rfl, v, n, es, rfl, hS, hv, fun hf H1 s1 => ?_, fun hf H1 p s1 h1 => ?_⟩
    · exact kN hf H1 s1
    · obtain ⟨p1, dx1, u1, e1, hp1, hu1⟩ := id h1
      cases e1
      refine ⟨_, rfl, p, dx1, _, rfl, hp1, _, n, _, rfl, h1, _, rfl, by omega, by rw [tight_len]; have := hv.len; omega, rfl, _, rfl, ?_⟩
      rw [tight_len]
      refine ite2 (fun c => ?_) (fun c => ?_)
      · have e0 : es = [] := by
          have : (V.int (es.length : Int)) = V.int 0 := of_decide_eq_true c
          have : (es.length : Int) = 0 := V.int.inj this
          exact List.length_eq_zero_iff.mp (by omega)
        exact kM hf e0 H1 s1
      · refine ⟨_, rfl, kS hf (fun e0 => c ?_) H1 p s1 h1⟩
        subst e0
        exact decide_eq_true rfl
end
end SR

set_option Elab.async false
set_option linter.all false
set_option maxRecDepth 100000
set_option maxHeartbeats 4000000
namespace SR
open PySem PySem.Spec PyProof.Rows L2
section
variable {P : Program} {w : World} {K : PySem.W.Frag} {mg : Str → Option Value} {base : Heap} {C N M fI : Addr}
def spRank : Sp := fun vs H Q _ => ∃ (n r : Int), vs = [.int n, .int r] ∧ 1 ≤ r ∧ r ≤ n ∧ Q .non H
theorem sc_check_rank : FnScope ["many", "rank"] ["many", "rank"] (defScope s_check_rank) := ⟨rfl, rfl, rfl, by decide +kernel, rfl, by decide +kernel, by decide +kernel⟩
theorem ok_check_rank {f : Addr} {fd : FuncData} (F : Fun K "check_rank" "check_rank" s_check_rank f fd) (D2 : Dn P w K mg base "is_between" ["value", "least", "greatest"] 2 spBetween) :
    FnOk P w K mg base CX0 3 f fd ["many", "rank"] spRank := by
  refine F.ok sc_check_rank (fun vs H Q E h => ?_) (fun cdv A outer s H vs Q E hr h => ?_)
  · obtain ⟨n, r, rfl, _⟩ := h
    rfl
  · obtain ⟨n, r, rfl, h1, h2, k⟩ := h
    have hr2 : Room 2 _ := hr.mono (by decide)
    refine ⟨_, pss_one (ps_if (pt_not (pt_val (pe_dn D2 hr2 (pa_cons (pv 1) (pa_cons pe_int (pa_cons (pv 0) pa_nil)))))) (pss_one ps_never) pss_nil), ?_⟩
    refine ⟨_, rfl, _, rfl, _, _, _, rfl, _, rfl, ?_⟩
    rw [decide_eq_true h1, decide_eq_true h2]
    exact iteF k
end
end SR

set_option Elab.async false
set_option linter.all false
set_option maxRecDepth 100000
set_option maxHeartbeats 4000000
namespace SR
open PySem PySem.Spec PyProof.Rows L2
section
variable {P : Program} {w : World} {K : PySem.W.Frag} {mg : Str → Option Value} {base : Heap} {C : Addr}
def spErr : Sp := fun vs H Q _ => ∃ (u : V) (r : Int) (es : List Ent), vs = [u, .int r] ∧ TupV H u es ∧ es.length ≤ 60 ∧ ∀ H' p, Same H H' → H p = none → H' p = some (.lst ((ers es r).map V.int)) → Q (.ref p) H'
theorem sc__errors : FnScope ["entries", "rank", "_", "low", "high"] ["entries", "rank"] (defScope s__errors) := ⟨rfl, rfl, rfl, by decide +kernel, rfl, by decide +kernel, by decide +kernel⟩
theorem ok__errors {f : Addr} {fd : FuncData} (F : Fun K "_errors" "_errors" s__errors f fd) (mmax : mg "max" = none) (mabs : mg "abs" = none) :
    FnOk P w K mg base CX0 3 f fd ["entries", "rank"] spErr := by
  refine F.ok sc__errors (fun vs H Q E h => ?_) (fun cdv A outer s H vs Q E hr h => ?_)
  · obtain ⟨u, r, es, rfl, _⟩ := h
    rfl
  · obtain ⟨u, r, es, rfl, ⟨a, vs, rfl, ha, he⟩, h12, k⟩ := h
    have nd := sc__errors.nd
    have hl : vs.length = es.length := he.len
    refine ⟨_, pss_one (ps_ret (pe_lc (own := [("_", 2), ("low", 3), ("high", 4)]) (tt := tYes) (g := gTup K 3 (gCons (gName 2) (gCons (gName 3) (gCons (gName 4) gNil))))
        (te := tCB (fun xs H Q => ∃ m n, xs = [.int m, .int n] ∧ Q (.int (if n > m then n else m)) H) (tCons (tCB (fun xs H Q => ∃ i, xs = [.int i] ∧ Q (.int (if i < 0 then -i else i)) H) (tCons (tOp (rI0 fun i j => .int (i - j)) (tVar 1) (tVar 3)) tNil)) (tCons (tCB (fun xs H Q => ∃ i, xs = [.int i] ∧ Q (.int (if i < 0 then -i else i)) H) (tCons (tOp (rI0 fun i j => .int (i - j)) (tVar 1) (tVar 4)) tNil)) tNil)))
        rfl nd (pi_tup (pv 0)) (blkOk_by (own := [("_", 2), ("low", 3), ("high", 4)]) (N := ["entries", "rank", "_", "low", "high"]) (sc := defScope s__errors) (by decide +kernel))
        (fun _ _ _ _ _ => pg_tup rfl (pgs_cons (pg_name (i := 2) nd rfl (Or.inl rfl)) (pgs_cons (pg_name (i := 3) nd rfl (Or.inl rfl)) (pgs_cons (pg_name (i := 4) nd rfl (Or.inl rfl)) pgs_nil)))) (fun _ _ _ _ _ => pts_nil)
        (fun _ _ _ _ _ => pe_callB (call_max2 rfl) (by rfl) mmax (by decide +kernel) (pa_cons (pe_callB call_abs (by rfl) mabs (by decide +kernel) (pa_cons (pe_op op_sub (pv 1) (pv 3)) pa_nil)) (pa_cons (pe_callB call_abs (by rfl) mabs (by decide +kernel) (pa_cons (pe_op op_sub (pv 1) (pv 4)) pa_nil)) pa_nil))))), ?_⟩
    refine ⟨_, rfl, a, rfl, ⟨_, SqT.of ha⟩, fun D nD => ?_⟩
    refine lc_tup (K := K) (a := a) (xs := vs) (fun i H' => H' D = some (.lst (((ers es r).take i).map V.int)) ∧ Same H H') ⟨upd_same, Same_new nD⟩ (fun i H' _ ⟨_, s5⟩ => SqT.of (s5 _ _ ha)) ?_ ?_
    · rintro i x H' hx ⟨hD, s5⟩
      obtain ⟨e, hei, t, rfl, ht⟩ := pr_at' he hx
      have hil : i < es.length := (List.getElem?_eq_some_iff.mp hei).1
      refine ⟨t, _, rfl, SqT.of (s5 _ _ ht), rfl, _, _, rfl, _, _, rfl, _, _, rfl, rfl, rfl, tyes_of ?_⟩
      rw [if_pos rfl]
      refine ⟨_, rfl, _, rfl, _, _, rfl, rfl, _, rfl, _, rfl, _, rfl, _, _, rfl, rfl, _, rfl, _, _, rfl, ?_⟩
      rw [max_if]
      refine ⟨_, hD, ?_, ?_, Same_mut s5 nD⟩
      · rw [List.length_map, List.length_take, ers_len]
        exact small1000 (by omega)
      · rw [upd_same]
        exact congrArg (fun z => some (HO.lst z)) (int_take (ers_at hei))
    · rintro H' ⟨hD, s5⟩
      rw [hl, ← ers_len es r, List.take_length] at hD
      exact k H' D s5 nD hD
end
end SR

set_option Elab.async false
set_option linter.all false
set_option maxRecDepth 100000
set_option maxHeartbeats 4000000
namespace SR
open PySem PySem.Spec PyProof.Rows L2
section
variable {P : Program} {w : World} {K : PySem.W.Frag} {mg : Str → Option Value} {base : Heap} {C N M : Addr}
def spBest : Sp := fun vs H Q _ => ∃ (u : V) (r : Int) (es : List Ent), vs = [u, .int r] ∧ TupV H u es ∧ es.length ≤ 60 ∧ es ≠ [] ∧
  ∀ H' (m : Int) (j : Nat), Same H H' → IsMin (ers es r) m → FirstAt (ers es r) m j → Q (.int (j : Nat)) H'
theorem sc_best_index : FnScope ["entries", "rank", "errors"] ["entries", "rank"] (defScope s_best_index) := ⟨rfl, rfl, rfl, by decide +kernel, rfl, by decide +kernel, by decide +kernel⟩
theorem ok_best_index {f : Addr} {fd : FuncData} (F : Fun K "best_index" "best_index" s_best_index f fd) (DR : Dn P w K mg base "_errors" ["entries", "rank"] 3 spErr) (mmin : mg "min" = none) :
    FnOk P w K mg base CX0 4 f fd ["entries", "rank"] spBest := by
  refine F.ok sc_best_index (fun vs H Q E h => ?_) (fun cdv A outer s H vs Q E hr h => ?_)
  · obtain ⟨u, r, es, rfl, _⟩ := h
    rfl
  · obtain ⟨u, r, es, rfl, hu, h60, hne, k⟩ := h
    have nd := sc_best_index.nd
    have hr3 : Room 3 _ := hr.mono (by decide)
    refine ⟨_, pss_cons (ps_set (i := 2) nd rfl (Or.inl rfl) (pe_dn DR hr3 (pa_cons (pv 0) (pa_cons (pv 1) pa_nil))))
      (pss_one (ps_ret (pe_bm PySem.F.plainAttrs_list PySem.F.slot_list_index PySem.F.type_list_index mt_index (pv 2) (pa_cons (pe_callB (cr_min rfl) (by rfl) mmin (by decide +kernel) (pa_cons (pv 2) pa_nil)) pa_nil)))), ?_⟩
    refine ⟨_, rfl, _, rfl, u, r, es, rfl, hu, h60, fun H2 D s2 nD hD => ?_⟩
    refine ⟨_, rfl, .inl ⟨rfl, _, SqL.of hD⟩, _, rfl, D, _, rfl, SqL.of hD, by rw [ers_len]; exact List.length_pos_iff.mpr hne, fun m hm hle => ?_⟩
    obtain ⟨j, hj⟩ := first_of hm
    exact index_of (SqL.of hD) hj (k H2 m j s2 ⟨hm, hle⟩ hj)
end
end SR

set_option Elab.async false
set_option linter.all false
set_option maxRecDepth 100000
set_option maxHeartbeats 4000000
namespace SR
open PySem PySem.Spec PyProof.Rows L2
section
variable {P : Program} {w : World} {K : PySem.W.Frag} {mg : Str → Option Value} {base : Heap} {C N M : Addr}
def spAns (C : Addr) : Sp := fun vs H Q _ => ∃ (v : V) (n r : Int) (es : List Ent), vs = [v, .int r] ∧ SumV C H v n es ∧ Valid n es ∧ Fits n es ∧ es ≠ [] ∧ 1 ≤ r ∧ r ≤ n ∧
  ∀ H' (m : Int) (j : Nat), Same H H' → IsMin (ers (tightL n es) r) m → FirstAt (ers (tightL n es) r) m j → Q (.int (j : Nat)) H'
theorem ers_tight_pos {n : Int} {es : List Ent} {r : Int} (h : es ≠ []) : 0 < (ers (tightL n es) r).length := by
  rw [ers_len, tight_len]
  exact List.length_pos_iff.mpr h
theorem sc_answer : FnScope ["summary", "rank", "tight"] ["summary", "rank"] (defScope s_answer) := ⟨rfl, rfl, rfl, by decide +kernel, rfl, by decide +kernel, by decide +kernel⟩
theorem ok_answer {f : Addr} {fd : FuncData} (F : Fun K "answer" "answer" s_answer f fd) (T : SumT K mg C) (DE : Pr P w K mg base C "entries" 1 (getSp C "_entries")) (DM : Pr P w K mg base C "many" 1 (getSp C "_many")) (DW : DnX P w K mg base "_with_entries" ["summary"] 10 (spWith C N M)) (DC : Dn P w K mg base "check_rank" ["many", "rank"] 3 spRank) (DB : Dn P w K mg base "best_index" ["entries", "rank"] 4 spBest) :
    FnOk P w K mg base CX0 11 f fd ["summary", "rank"] (spAns C) := by
  refine F.ok sc_answer (fun vs H Q E h => ?_) (fun cdv A outer s H vs Q E hr h => ?_)
  · obtain ⟨v, n, r, es, rfl, _⟩ := h
    rfl
  · obtain ⟨v, n, r, es, rfl, hS, hv, hF, hne, h1, h2, k⟩ := h
    have nd := sc_answer.nd
    have hr9 : Room 10 _ := hr.mono (by decide)
    have hr4 : Room 4 _ := hr.mono (by decide)
    have hr3 : Room 3 _ := hr.mono (by decide)
    have hr2 : Room 2 _ := hr.mono (by decide)
    refine ⟨_, pss_cons (ps_set (i := 2) nd rfl (Or.inl rfl) (pe_dn0 DW hr9 (pa_cons (pv 0) pa_nil)))
      (pss_cons (ps_expr (pe_dn DC hr3 (pa_cons (pe_pr DM T.ic.cl hr2 (pv 2)) (pa_cons (pv 1) pa_nil))))
      (pss_one (ps_ret (pe_dn DB hr4 (pa_cons (pe_pr DE T.ic.cl hr2 (pv 2)) (pa_cons (pv 1) pa_nil)))))), ?_⟩
    refine ⟨_, rfl, v, n, es, rfl, hS, hv, fun hf => absurd hF hf, fun _ e0 => absurd e0 hne, fun _ _ H1 p s1 hs1 => ?_⟩
    obtain ⟨p1, dx, u, e, hp, hu⟩ := id hs1
    cases e
    refine ⟨_, rfl, p, dx, _, rfl, hp, p, dx, _, _, rfl, hp, sfl_many _ _, _, rfl, n, r, rfl, h1, h2, ?_⟩
    refine ⟨_, rfl, p, dx, _, rfl, hp, p, dx, _, _, rfl, hp, sfl_entries _ _, _, rfl, u, r, _, rfl, hu, by rw [tight_len]; have := hv.len; omega, fun e0 => hne ?_, fun H2 m j s2 hm hj => ?_⟩
    · have := tight_len (n := n) (es := es)
      rw [e0] at this
      exact List.length_eq_zero_iff.mp this.symm
    · exact k H2 m j (s1.trans s2) hm hj
def spErrAt (C : Addr) : Sp := fun vs H Q _ => ∃ (v : V) (n r : Int) (es : List Ent), vs = [v, .int r] ∧ SumV C H v n es ∧ Valid n es ∧ Fits n es ∧ es ≠ [] ∧ 1 ≤ r ∧ r ≤ n ∧
  ∀ H' (m : Int), Same H H' → IsMin (ers (tightL n es) r) m → Q (.int m) H'
theorem sc_error_at : FnScope ["summary", "rank", "tight"] ["summary", "rank"] (defScope s_error_at) := ⟨rfl, rfl, rfl, by decide +kernel, rfl, by decide +kernel, by decide +kernel⟩
theorem ok_error_at {f : Addr} {fd : FuncData} (F : Fun K "error_at" "error_at" s_error_at f fd) (T : SumT K mg C) (DE : Pr P w K mg base C "entries" 1 (getSp C "_entries")) (DM : Pr P w K mg base C "many" 1 (getSp C "_many")) (DW : DnX P w K mg base "_with_entries" ["summary"] 10 (spWith C N M)) (DC : Dn P w K mg base "check_rank" ["many", "rank"] 3 spRank) (DR : Dn P w K mg base "_errors" ["entries", "rank"] 3 spErr) (mmin : mg "min" = none) :
    FnOk P w K mg base CX0 11 f fd ["summary", "rank"] (spErrAt C) := by
  refine F.ok sc_error_at (fun vs H Q E h => ?_) (fun cdv A outer s H vs Q E hr h => ?_)
  · obtain ⟨v, n, r, es, rfl, _⟩ := h
    rfl
  · obtain ⟨v, n, r, es, rfl, hS, hv, hF, hne, h1, h2, k⟩ := h
    have nd := sc_error_at.nd
    have hr9 : Room 10 _ := hr.mono (by decide)
    have hr3 : Room 3 _ := hr.mono (by decide)
    have hr2 : Room 2 _ := hr.mono (by decide)
    refine ⟨_, pss_cons (ps_set (i := 2) nd rfl (Or.inl rfl) (pe_dn0 DW hr9 (pa_cons (pv 0) pa_nil)))
      (pss_cons (ps_expr (pe_dn DC hr3 (pa_cons (pe_pr DM T.ic.cl hr2 (pv 2)) (pa_cons (pv 1) pa_nil))))
      (pss_one (ps_ret (pe_callB (cr_min rfl) (by rfl) mmin (by decide +kernel) (pa_cons (pe_dn DR hr3 (pa_cons (pe_pr DE T.ic.cl hr2 (pv 2)) (pa_cons (pv 1) pa_nil))) pa_nil))))), ?_⟩
    refine ⟨_, rfl, v, n, es, rfl, hS, hv, fun hf => absurd hF hf, fun _ e0 => absurd e0 hne, fun _ _ H1 p s1 hs1 => ?_⟩
    obtain ⟨p1, dx, u, e, hp, hu⟩ := id hs1
    cases e
    refine ⟨_, rfl, p, dx, _, rfl, hp, p, dx, _, _, rfl, hp, sfl_many _ _, _, rfl, n, r, rfl, h1, h2, ?_⟩
    refine ⟨_, rfl, p, dx, _, rfl, hp, p, dx, _, _, rfl, hp, sfl_entries _ _, _, rfl, u, r, _, rfl, hu, by rw [tight_len]; have := hv.len; omega, fun H2 D s2 nD hD => ?_⟩
    exact ⟨D, _, rfl, SqL.of hD, ers_tight_pos hne, fun m hm hle => k H2 m (s1.trans s2) ⟨hm, hle⟩⟩
end
end SR

set_option Elab.async false
set_option linter.all false
set_option maxRecDepth 100000
set_option maxHeartbeats 4000000
/-! Plain mathematics of the greatest error. -/
namespace SR
def lmin : List Int → Int
  | [] => 0
  | [x] => x
  | x :: y :: l => min x (lmin (y :: l))
theorem lmin_is : ∀ {l : List Int}, l ≠ [] → IsMin l (lmin l)
  | [], h => absurd rfl h
  | [x], _ => ⟨by simp [lmin], fun y hy => by rw [List.mem_singleton.mp hy]; exact Int.le_refl _⟩
  | x :: y :: l, _ => by
    obtain ⟨hm, hl⟩ := lmin_is (l := y :: l) (by simp)
    show IsMin (x :: y :: l) (min x (lmin (y :: l)))
    by_cases c : lmin (y :: l) ≤ x
    · rw [show min x (lmin (y :: l)) = lmin (y :: l) by omega]
      refine ⟨List.mem_cons_of_mem _ hm, fun z hz => ?_⟩
      rcases List.mem_cons.mp hz with h | h
      · rw [h]; exact c
      · exact hl z h
    · rw [show min x (lmin (y :: l)) = x by omega]
      refine ⟨List.mem_cons_self .., fun z hz => ?_⟩
      rcases List.mem_cons.mp hz with h | h
      · rw [h]; exact Int.le_refl _
      · have := hl z h; omega
/-- the least error for a rank -/
def em (n : Int) (es : List Ent) (r : Int) : Int := lmin (ers (tightL n es) r)
section
variable {n : Int} {es : List Ent}
theorem em_is (r : Int) (h : es ≠ []) : IsMin (ers (tightL n es) r) (em n es r) := lmin_is fun e => by
  have := ers_tight_pos (n := n) (r := r) h
  rw [e] at this
  exact absurd this (Nat.lt_irrefl 0)
theorem er_is {r a b : Int} {v : Int} (h : a ≤ b) : er r (v, a, b) = max (r - a) (b - r) := by
  unfold er ab
  dsimp only
  split <;> split <;> omega
theorem em_le (hF : Fits n es) (h : es ≠ []) {r : Int} {k : Nat} (hk : k < es.length) : em n es r ≤ max (r - tlo es k) (thi n es k - r) := by
  have a := (em_is (n := n) r h).2 (er r (vl es k, tlo es k, thi n es k)) (List.mem_of_getElem? (ers_at (tight_at hk)))
  rw [er_is (hF k hk)] at a
  exact a
theorem em_at (hF : Fits n es) (h : es ≠ []) (r : Int) : ∃ k, k < es.length ∧ em n es r = max (r - tlo es k) (thi n es k - r) := by
  obtain ⟨k, hk⟩ := List.mem_iff_getElem?.mp (em_is (n := n) r h).1
  have hkl : k < es.length := by
    have := (List.getElem?_eq_some_iff.mp hk).1
    rw [ers_len, tight_len] at this
    exact this
  rw [ers_at (tight_at hkl)] at hk
  refine ⟨k, hkl, ?_⟩
  rw [← Option.some.inj hk, er_is (hF k hkl)]
structure IsWorst (n : Int) (es : List Ent) (g R : Int) : Prop where
  ge : 1 ≤ R
  le : R ≤ n
  at_ : em n es R = g
  top : ∀ r, 1 ≤ r → r ≤ n → em n es r ≤ g
  first : ∀ r, 1 ≤ r → r ≤ n → em n es r = g → R ≤ r
theorem top_of (f : Int → Int) : ∀ N : Nat, ∃ R : Int, 1 ≤ R ∧ R ≤ (N : Int) + 1 ∧ (∀ r : Int, 1 ≤ r → r ≤ (N : Int) + 1 → f r ≤ f R) ∧ ∀ r : Int, 1 ≤ r → r ≤ (N : Int) + 1 → f r = f R → R ≤ r
  | 0 => ⟨1, by omega, by omega, fun r a b => by have : r = 1 := by omega
                                                 rw [this]; exact Int.le_refl _, fun r a b _ => a⟩
  | N + 1 => by
    obtain ⟨R, h1, h2, h3, h4⟩ := top_of f N
    by_cases c : f R < f ((N : Int) + 1 + 1)
    · refine ⟨(N : Int) + 1 + 1, by omega, by push_cast; omega, fun r a b => ?_, fun r a b e => ?_⟩
      · by_cases d : r ≤ (N : Int) + 1
        · have := h3 r a d; omega
        · have : r = (N : Int) + 1 + 1 := by push_cast at b; omega
          rw [this]; exact Int.le_refl _
      · by_cases d : r ≤ (N : Int) + 1
        · have := h3 r a d; omega
        · omega
    · refine ⟨R, h1, by push_cast; omega, fun r a b => ?_, fun r a b e => ?_⟩
      · by_cases d : r ≤ (N : Int) + 1
        · exact h3 r a d
        · have : r = (N : Int) + 1 + 1 := by push_cast at b; omega
          rw [this]; omega
      · by_cases d : r ≤ (N : Int) + 1
        · exact h4 r a d e
        · omega
theorem worst_of (h : 1 ≤ n) : ∃ g R, IsWorst n es g R := by
  obtain ⟨R, h1, h2, h3, h4⟩ := top_of (em n es) (n.toNat - 1)
  exact ⟨_, R, h1, by omega, rfl, fun r a b => h3 r a (by omega), fun r a b e => h4 r a (by omega) e⟩
theorem IsWorst.uniq {g R g2 R2 : Int} (a : IsWorst n es g R) (b : IsWorst n es g2 R2) : g = g2 ∧ R = R2 := by
  have h1 := a.top R2 b.ge b.le
  have h2 := b.top R a.ge a.le
  rw [b.at_] at h1
  rw [a.at_] at h2
  have e : g = g2 := by omega
  subst e
  have h3 := a.first R2 b.ge b.le b.at_
  have h4 := b.first R a.ge a.le a.at_
  exact ⟨rfl, by omega⟩
theorem tlo_mono {j k : Nat} (h : j ≤ k) : tlo es j ≤ tlo es k := by
  obtain ⟨d, rfl⟩ := Nat.le.dest h
  induction d with
  | zero => exact Int.le_refl _
  | succ d ih =>
    have := ih (by omega)
    have := tlo_rise es (j + d)
    show tlo es j ≤ tlo es (j + d + 1)
    omega
theorem thi_mono {j : Nat} : ∀ {k : Nat}, j ≤ k → k < es.length → thi n es j ≤ thi n es k
  | 0, h, _ => by rw [show j = 0 by omega]; exact Int.le_refl _
  | k + 1, h, hk => by
    by_cases e : j = k + 1
    · rw [e]; exact Int.le_refl _
    · have := thi_mono (j := j) (k := k) (by omega) (by omega)
      have := thi_rise (n := n) hk
      omega
theorem peak (hF : Fits n es) (h : es ≠ []) {g R : Int} (W : IsWorst n es g R) : R = 1 ∨ R = n ∨ ∃ j, j + 1 < es.length ∧ 2 * R ≤ tlo es j + thi n es (j + 1) ∧ tlo es j + thi n es (j + 1) ≤ 2 * R + 1 := by
  by_cases c1 : R = 1
  · exact .inl c1
  by_cases c2 : R = n
  · exact .inr (.inl c2)
  refine .inr (.inr ?_)
  have g1 := W.ge
  have g2 := W.le
  have ea := W.at_
  -- one before
  have a1 := W.top (R - 1) (by omega) (by omega)
  have a2 : em n es (R - 1) ≠ g := fun e => by have := W.first (R - 1) (by omega) (by omega) e; omega
  obtain ⟨j, hj, ej⟩ := em_at hF h (R - 1)
  have b1 := em_le hF h (r := R) hj
  -- one behind
  have a3 := W.top (R + 1) (by omega) (by omega)
  obtain ⟨k, hk, ek⟩ := em_at hF h (R + 1)
  have b2 := em_le hF h (r := R) hk
  have hjk : j < k := by
    by_cases c : j < k
    · exact c
    · have := tlo_mono (es := es) (show k ≤ j by omega)
      omega
  have b3 := em_le hF h (r := R) (show j + 1 < es.length by omega)
  have b4 := thi_mono (n := n) (es := es) (show j + 1 ≤ k by omega) hk
  have b5 := tlo_rise es j
  refine ⟨j, by omega, ?_, ?_⟩
  · omega
  · omega
/-- what a program may look at: ranks that hold all peaks -/
structure Looks' (n : Int) (es : List Ent) (ranks : List Int) : Prop where
  one : 1 ∈ ranks
  last : n ∈ ranks
  mid : ∀ j, j + 1 < es.length → (tlo es j + thi n es (j + 1)) / 2 ∈ ranks
  in_ : ∀ r ∈ ranks, 1 ≤ r ∧ r ≤ n
theorem Looks'.has {ranks : List Int} (L : Looks' n es ranks) (hF : Fits n es) (h : es ≠ []) {g R : Int} (W : IsWorst n es g R) : R ∈ ranks := by
  rcases peak hF h W with e | e | ⟨j, hj, a, b⟩
  · rw [e]; exact L.one
  · rw [e]; exact L.last
  · have := L.mid j hj
    rw [show (tlo es j + thi n es (j + 1)) / 2 = R by omega] at this
    exact this
theorem Looks'.max {ranks : List Int} (L : Looks' n es ranks) (hF : Fits n es) (h : es ≠ []) {g R : Int} (W : IsWorst n es g R) : IsMax (ranks.map (em n es)) g := by
  refine ⟨List.mem_map.mpr ⟨R, L.has hF h W, W.at_⟩, fun x hx => ?_⟩
  obtain ⟨r, hr, rfl⟩ := List.mem_map.mp hx
  exact W.top r (L.in_ r hr).1 (L.in_ r hr).2
theorem Looks'.least {ranks : List Int} (L : Looks' n es ranks) (hF : Fits n es) (h : es ≠ []) {g R m : Int} (W : IsWorst n es g R) (hm : IsMin (ranks.filter fun r => decide (em n es r = g)) m) : m = R := by
  obtain ⟨h1, h2⟩ := hm
  rw [List.mem_filter] at h1
  have a := W.first m (L.in_ m h1.1).1 (L.in_ m h1.1).2 (of_decide_eq_true h1.2)
  have b := h2 R (List.mem_filter.mpr ⟨L.has hF h W, decide_eq_true W.at_⟩)
  omega
/-- of ascending ranks the first one with the greatest error -/
theorem Looks'.first {ranks : List Int} (L : Looks' n es ranks) (hF : Fits n es) (h : es ≠ []) {g R m : Int} {j : Nat} (W : IsWorst n es g R) (asc : ∀ (a b : Nat) (x y : Int), a ≤ b → ranks[a]? = some x → ranks[b]? = some y → x ≤ y) (hj : FirstAt (ranks.map (em n es)) g j) (hm : ranks[j]? = some m) : m = R := by
  have hmr := List.mem_of_getElem? hm
  have e1 : em n es m = g := by
    have := hj.1
    rw [List.getElem?_map, hm] at this
    exact Option.some.inj this
  have a := W.first m (L.in_ m hmr).1 (L.in_ m hmr).2 e1
  obtain ⟨i, hi⟩ := List.mem_iff_getElem?.mp (L.has hF h W)
  have b : ¬ i < j := fun c => hj.2 i g c (by rw [List.getElem?_map, hi]; exact congrArg some W.at_) rfl
  have := asc j i m R (by omega) hm hi
  omega
end
end SR

set_option Elab.async false
set_option linter.all false
set_option maxRecDepth 100000
set_option maxHeartbeats 4000000
namespace SR
open PySem PySem.Spec PyProof.Rows L2
/-- a walk over a list within a comprehension -/
theorem inner_list {K : PySem.W.Frag} {a : Addr} {xs : List V} {B : V → Hp → (Hp → Prop) → Prop} {Qd : Hp → Prop} {H4 : Hp} (Pv : Nat → Hp → Prop) (h0 : Pv 0 H4) (hl : ∀ (i : Nat) (H : Hp), i ≤ xs.length → Pv i H → SqL K H a xs)
    (hs : ∀ (i : Nat) (x : V) (H : Hp), xs[i]? = some x → Pv i H → B x H (Pv (i + 1))) (hd : ∀ H, Pv xs.length H → Qd H) :
    ∃ W1 : Nat → Nat → Hp → Prop, (∃ m, W1 0 m H4) ∧ ∀ (j k : Nat) (H : Hp), W1 j k H → ((Itl K a).stop j H ∧ Qd H) ∨ ((Itl K a).go j H ∧ ∃ Nx1 : Hp → Prop, (∀ H', Nx1 H' → ∃ k', k' < k ∧ W1 (j + 1) k' H') ∧ ∀ (x : V) (H' : Hp), (Itl K a).yld j H x H' → B x H' Nx1) := by
  refine ⟨fun i m H => m = xs.length - i ∧ i ≤ xs.length ∧ Pv i H, ⟨xs.length, rfl, Nat.zero_le _, h0⟩, ?_⟩
  rintro i m H ⟨rfl, hi, p⟩
  have q := hl i H hi p
  by_cases hlt : i < xs.length
  · refine .inr ⟨⟨xs, xs[i], q, List.getElem?_eq_getElem hlt⟩, Pv (i + 1), fun H' p' => ⟨xs.length - (i + 1), by omega, rfl, hlt, p'⟩, ?_⟩
    rintro x H' ⟨rfl, y⟩
    exact hs i x _ (y xs q) p
  · have e : i = xs.length := by omega
    subst e
    exact .inl ⟨⟨xs, q, Nat.le_refl _⟩, hd H p⟩
def los (es : List Ent) : List Int := es.map fun e => e.2.1
def his (es : List Ent) : List Int := es.map fun e => e.2.2
def halves (es : List Ent) : List Int := (los es).flatMap fun a => (his es).map fun b => (a + b) / 2
def peaks (n : Int) (es : List Ent) : List Int := [1, n] ++ halves es
theorem flat_take {l : List Int} {f : Int → List Int} {i : Nat} {a : Int} (h : l[i]? = some a) : (l.take (i + 1)).flatMap f = (l.take i).flatMap f ++ f a := by
  rw [List.take_add_one, h, List.flatMap_append]
  simp
section
variable {P : Program} {w : World} {K : PySem.W.Frag} {mg : Str → Option Value} {base : Heap} {C : Addr}
def spPeaks (C : Addr) : Sp := fun vs H Q _ => ∃ (v : V) (n : Int) (es : List Ent), vs = [v] ∧ SumV C H v n es ∧ es.length ≤ 12 ∧ ∀ H' p, Same H H' → H p = none → H' p = some (.lst ((peaks n es).map V.int)) → Q (.ref p) H'
theorem sc__peaks : FnScope ["tight", "lows", "highs", "halfway", "_", "low", "high"] ["tight"] (defScope s__peaks) := ⟨rfl, rfl, rfl, by decide +kernel, rfl, by decide +kernel, by decide +kernel⟩
theorem halves_len (es : List Ent) : ∀ i, ((los es).take i).length * es.length = (((los es).take i).flatMap fun a => (his es).map fun b => (a + b) / 2).length := fun i => by
  have h : ∀ l : List Int, (l.flatMap fun a => (his es).map fun b => (a + b) / 2).length = l.length * es.length := fun l => by
    induction l with
    | nil => simp
    | cons x l ih => rw [List.flatMap_cons, List.length_append, ih, List.length_map, List.length_cons]; unfold his; rw [List.length_map, Nat.add_mul]; omega
  exact (h _).symm
theorem ok__peaks {f : Addr} {fd : FuncData} (F : Fun K "_peaks" "_peaks" s__peaks f fd) (T : SumT K mg C) (DE : Pr P w K mg base C "entries" 1 (getSp C "_entries")) (DM : Pr P w K mg base C "many" 1 (getSp C "_many")) :
    FnOk P w K mg base CX0 3 f fd ["tight"] (spPeaks C) := by
  refine F.ok sc__peaks (fun vs H Q E h => ?_) (fun cdv A outer s H vs Q E hr h => ?_)
  · obtain ⟨v, n, es, rfl, _⟩ := h
    rfl
  · obtain ⟨v, n, es, rfl, ⟨p, dx, u, rfl, hp, a, vs, rfl, ha, he⟩, h12, k⟩ := h
    have nd := sc__peaks.nd
    have hr2 : Room 2 _ := hr.mono (by decide)
    have hl : vs.length = es.length := he.len
    refine ⟨_, pss_cons (ps_setLc (i := 1) (own := [("_", 4), ("low", 5)]) (tt := tYes) (g := gTup K 3 (gCons (gName 4) (gCons (gName 5) (gCons (gName 4) gNil)))) (te := tVar 5)
          rfl nd rfl rfl (sw_true rfl rfl rfl (by decide +kernel)) (pi_tup (pe_pr DE T.ic.cl hr2 (pv 0))) (blkOk_by (own := [("_", 4), ("low", 5)]) (N := ["tight", "lows", "highs", "halfway", "_", "low", "high"]) (sc := defScope s__peaks) (by decide +kernel))
          (fun _ _ _ _ _ => pg_tup rfl (pgs_cons (pg_name (i := 4) nd rfl (Or.inl rfl)) (pgs_cons (pg_name (i := 5) nd rfl (Or.inl rfl)) (pgs_cons (pg_name (i := 4) nd rfl (Or.inl rfl)) pgs_nil)))) (fun _ _ _ _ _ => pts_nil) (fun _ _ _ _ _ => pv 5))
      (pss_cons (ps_asg (pe_lc (own := [("_", 4), ("high", 6)]) (tt := tYes) (g := gTup K 3 (gCons (gName 4) (gCons (gName 4) (gCons (gName 6) gNil)))) (te := tVar 6)
          rfl nd (pi_tup (pe_pr DE T.ic.cl hr2 (pv 0))) (blkOk_by (own := [("_", 4), ("high", 6)]) (N := ["tight", "lows", "highs", "halfway", "_", "low", "high"]) (sc := defScope s__peaks) (by decide +kernel))
          (fun _ _ _ _ _ => pg_tup rfl (pgs_cons (pg_name (i := 4) nd rfl (Or.inl rfl)) (pgs_cons (pg_name (i := 4) nd rfl (Or.inl rfl)) (pgs_cons (pg_name (i := 6) nd rfl (Or.inl rfl)) pgs_nil)))) (fun _ _ _ _ _ => pts_nil) (fun _ _ _ _ _ => pv 6)) (pg_name (i := 2) nd rfl (Or.inr rfl)))
      (pss_cons (ps_setLc2 (i := 3) (own := [("low", 5), ("high", 6)]) (vs1 := [6]) (tt := tYes) (g := gName 5) (wi1 := iList K (tVar 2)) (tt1 := tYes) (g1 := gName 6) (te := tOp (rI CDiv fun i j => .int (i / j)) (tOp (rI0 fun i j => .int (i + j)) (tVar 5) (tVar 6)) (tC (.int 2)))
          rfl nd rfl rfl (sw_true rfl rfl rfl (by decide +kernel)) (pi_list (pv 1)) (blkOk_by (own := [("low", 5), ("high", 6)]) (N := ["tight", "lows", "highs", "halfway", "_", "low", "high"]) (sc := defScope s__peaks) (by decide +kernel)) (by decide)
          (fun _ _ _ _ _ => pg_name (i := 5) nd rfl (Or.inl rfl)) (fun _ _ _ _ _ => pts_nil) (fun _ _ _ _ _ => pi_list (pv 2)) (fun _ _ _ _ _ => pg_name (i := 6) nd rfl (Or.inl rfl)) (fun _ _ _ _ _ => pts_nil) (fun _ _ _ _ _ => pe_op op_fdiv (pe_op op_add (pv 5) (pv 6)) pe_int))
      (pss_one (ps_ret (pe_op op_cat (pe_lst (pa_cons pe_int (pa_cons (pe_pr DM T.ic.cl hr2 (pv 0)) pa_nil))) (pv 3)))))), ?_⟩
    -- lows
    refine ⟨_, rfl, p, dx, _, rfl, hp, p, dx, _, _, rfl, hp, sfl_entries _ _, a, rfl, ⟨_, SqT.of ha⟩, fun D1 nD1 => ?_⟩
    refine lc_tup (K := K) (a := a) (xs := vs) (fun i H' => H' D1 = some (.lst (((los es).take i).map V.int)) ∧ Same H H') ⟨upd_same, Same_new nD1⟩ (fun i H' _ ⟨_, s5⟩ => SqT.of (s5 _ _ ha)) ?_ ?_
    · rintro i x H' hx ⟨hD, s5⟩
      obtain ⟨e, hei, t, rfl, ht⟩ := pr_at' he hx
      have hil : i < es.length := (List.getElem?_eq_some_iff.mp hei).1
      refine ⟨t, _, rfl, SqT.of (s5 _ _ ht), rfl, _, _, rfl, _, _, rfl, _, _, rfl, rfl, rfl, tyes_of ?_⟩
      rw [if_pos rfl]
      refine ⟨_, rfl, _, hD, ?_, ?_, Same_mut s5 nD1⟩
      · rw [List.length_map, List.length_take]
        have : (los es).length = es.length := List.length_map ..
        exact small1000 (by omega)
      · rw [upd_same]
        exact congrArg (fun z => some (HO.lst z)) (int_take (by unfold los; rw [List.getElem?_map, hei]; rfl))
    rintro H1 ⟨hD1, s1⟩
    have ll : (los es).length = es.length := List.length_map ..
    have lh : (his es).length = es.length := List.length_map ..
    rw [hl, ← ll, List.take_length] at hD1
    -- highs
    have hp1 := s1 _ _ hp
    refine ⟨_, rfl, p, dx, _, rfl, hp1, p, dx, _, _, rfl, hp1, sfl_entries _ _, a, rfl, ⟨_, SqT.of (s1 _ _ ha)⟩, fun D2 nD2 => ?_⟩
    refine lc_tup (K := K) (a := a) (xs := vs) (fun i H' => H' D2 = some (.lst (((his es).take i).map V.int)) ∧ Same H1 H') ⟨upd_same, Same_new nD2⟩ (fun i H' _ ⟨_, s5⟩ => SqT.of (s5 _ _ (s1 _ _ ha))) ?_ ?_
    · rintro i x H' hx ⟨hD, s5⟩
      obtain ⟨e, hei, t, rfl, ht⟩ := pr_at' he hx
      have hil : i < es.length := (List.getElem?_eq_some_iff.mp hei).1
      refine ⟨t, _, rfl, SqT.of (s5 _ _ (s1 _ _ ht)), rfl, _, _, rfl, _, _, rfl, _, _, rfl, rfl, rfl, tyes_of ?_⟩
      rw [if_pos rfl]
      refine ⟨_, rfl, _, hD, ?_, ?_, Same_mut s5 nD2⟩
      · rw [List.length_map, List.length_take]
        exact small1000 (by omega)
      · rw [upd_same]
        exact congrArg (fun z => some (HO.lst z)) (int_take (by unfold his; rw [List.getElem?_map, hei]; rfl))
    rintro H2 ⟨hD2, s2⟩
    rw [hl, ← lh, List.take_length] at hD2
    have hD1' := s2 _ _ hD1
    -- halfway
    refine ⟨_, rfl, D1, rfl, ⟨_, SqL.of hD1'⟩, fun D3 nD3 => ?_⟩
    refine inner_list (K := K) (a := D1) (xs := (los es).map V.int) (fun i H' => H' D3 = some (.lst ((((los es).take i).flatMap fun a => (his es).map fun b => (a + b) / 2).map V.int)) ∧ Same H2 H') ⟨upd_same, Same_new nD3⟩ (fun i H' _ ⟨_, s5⟩ => SqL.of (s5 _ _ hD1')) ?_ ?_
    · rintro i x H' hx ⟨hD, s5⟩
      obtain ⟨lw, hlw, rfl⟩ := map_int_at hx
      have hil : i < es.length := by rw [← ll]; exact (List.getElem?_eq_some_iff.mp hlw).1
      refine ⟨rfl, tyes_of ?_⟩
      rw [if_pos rfl]
      refine ⟨_, rfl, D2, rfl, ⟨_, SqL.of (s5 _ _ hD2)⟩, ?_⟩
      refine inner_list (K := K) (a := D2) (xs := (his es).map V.int) (fun j H'' => H'' D3 = some (.lst (((((los es).take i).flatMap fun a => (his es).map fun b => (a + b) / 2) ++ (((his es).map fun b => (lw + b) / 2).take j)).map V.int)) ∧ Same H2 H'') ⟨by rw [List.take_zero, List.append_nil]; exact hD, s5⟩ (fun j H'' _ ⟨_, s6⟩ => SqL.of (s6 _ _ hD2)) ?_ ?_
      · rintro j y H'' hy ⟨hE, s6⟩
        obtain ⟨hg, hhg, rfl⟩ := map_int_at hy
        have hjl : j < es.length := by rw [← lh]; exact (List.getElem?_eq_some_iff.mp hhg).1
        refine ⟨rfl, tyes_of ?_⟩
        rw [if_pos rfl]
        refine ⟨_, rfl, _, rfl, _, _, rfl, rfl, _, _, rfl, rfl, ⟨by decide, by decide⟩, _, hE, ?_, ?_, Same_mut s6 nD3⟩
        · rw [List.length_map, List.length_append, List.length_take, ← halves_len, List.length_take]
          have : min i (los es).length * es.length ≤ 12 * 12 := Nat.mul_le_mul (by omega) h12
          rw [List.length_map]
          exact small1000 (by omega)
        · rw [upd_same]
          refine congrArg (fun z => some (HO.lst z)) ?_
          rw [List.map_append, List.map_append, List.append_assoc]
          refine congrArg _ (int_take ?_)
          rw [List.getElem?_map, hhg]; rfl
      · rintro H'' ⟨hE, s6⟩
        rw [List.length_map, show (his es).length = ((his es).map fun b => (lw + b) / 2).length from (List.length_map ..).symm, List.take_length] at hE
        refine ⟨?_, s6⟩
        rw [flat_take hlw]
        exact hE
    rintro H3 ⟨hD3, s3⟩
    rw [List.length_map, List.take_length] at hD3
    have hp3 := s3 _ _ (s2 _ _ hp1)
    refine ⟨_, rfl, p, dx, _, rfl, hp3, p, dx, _, _, rfl, hp3, sfl_many _ _, ?_⟩
    refine ⟨(by show 2 ≤ sizeLine; decide), fun q nq => ?_⟩
    have s4 := Same_new (o := .lst [.int 1, .int n]) nq
    refine ⟨_, rfl, q, D3, _, _, rfl, rfl, upd_same, s4 _ _ hD3, ?_, fun r nr => ?_⟩
    · have e := halves_len es es.length
      rw [List.take_of_length_le (by omega)] at e
      rw [List.length_map, ← e, ll]
      have : es.length * es.length ≤ 12 * 12 := Nat.mul_le_mul h12 h12
      have := small1000 (show es.length * es.length + 2 < 1000 by omega)
      show 2 + es.length * es.length ≤ sizeLine
      omega
    · have s9 := Same_new2 (o := .lst ([.int 1, .int n] ++ (halves es).map V.int)) (((s1.trans s2).trans s3).trans s4) nr
      exact k _ r s9 (((s1.trans s2).trans s3).trans s4 |>.free nr) (by rw [upd_same]; rfl)
end
end SR

set_option Elab.async false
set_option linter.all false
set_option maxRecDepth 100000
set_option maxHeartbeats 4000000
namespace SR
open PySem PySem.Spec PyProof.Rows L2
theorem mem_los {n : Int} {es : List Ent} {a : Int} : a ∈ los (tightL n es) ↔ ∃ j, j < es.length ∧ a = tlo es j := by
  unfold los tightL
  rw [List.map_map, List.mem_map]
  exact ⟨fun ⟨j, hj, e⟩ => ⟨j, List.mem_range.mp hj, e.symm⟩, fun ⟨j, hj, e⟩ => ⟨j, List.mem_range.mpr hj, e.symm⟩⟩
theorem mem_his {n : Int} {es : List Ent} {a : Int} : a ∈ his (tightL n es) ↔ ∃ j, j < es.length ∧ a = thi n es j := by
  unfold his tightL
  rw [List.map_map, List.mem_map]
  exact ⟨fun ⟨j, hj, e⟩ => ⟨j, List.mem_range.mp hj, e.symm⟩, fun ⟨j, hj, e⟩ => ⟨j, List.mem_range.mpr hj, e.symm⟩⟩
theorem tlo_le {n : Int} {es : List Ent} (hF : Fits n es) {j : Nat} (h : j < es.length) : tlo es j ≤ n := Int.le_trans (hF j h) (thi_le h)
theorem thi_pos {n : Int} {es : List Ent} (hF : Fits n es) {j : Nat} (h : j < es.length) : 1 ≤ thi n es j := Int.le_trans (tlo_pos es j) (hF j h)
theorem looks_peaks {n : Int} {es : List Ent} (h1 : 1 ≤ n) (hF : Fits n es) : Looks' n es (peaks n (tightL n es)) where
  one := by unfold peaks; simp
  last := by unfold peaks; simp
  mid := fun j hj => by
    unfold peaks halves
    refine List.mem_append_right _ (List.mem_flatMap.mpr ⟨tlo es j, mem_los.mpr ⟨j, by omega, rfl⟩, List.mem_map.mpr ⟨thi n es (j + 1), mem_his.mpr ⟨j + 1, hj, rfl⟩, rfl⟩⟩)
  in_ := fun r hr => by
    unfold peaks halves at hr
    rcases List.mem_append.mp hr with h | h
    · have : r = 1 ∨ r = n := by simpa using h
      omega
    · obtain ⟨a, ha, h⟩ := List.mem_flatMap.mp h
      obtain ⟨b, hb, rfl⟩ := List.mem_map.mp h
      obtain ⟨j, hj, rfl⟩ := mem_los.mp ha
      obtain ⟨k, hk, rfl⟩ := mem_his.mp hb
      have := tlo_le hF hj
      have := tlo_pos es j
      have := thi_pos hF hk
      have := thi_le (n := n) hk
      omega
theorem peaks_len {n : Int} {es : List Ent} (h : es.length ≤ 12) : (peaks n (tightL n es)).length ≤ 146 := by
  have e := halves_len (tightL n es) (tightL n es).length
  have ll : (los (tightL n es)).length = es.length := by unfold los; rw [List.length_map, tight_len]
  rw [List.take_of_length_le (by rw [ll, tight_len]; exact Nat.le_refl _), ll, tight_len] at e
  have : es.length * es.length ≤ 12 * 12 := Nat.mul_le_mul h h
  unfold peaks halves
  rw [List.length_append, ← e]
  show 2 + _ ≤ _
  omega
section
variable {P : Program} {w : World} {K : PySem.W.Frag} {mg : Str → Option Value} {base : Heap} {C N M : Addr}
def spWorst (C N M : Addr) : Sp := fun vs H Q E => ∃ (v : V) (n : Int) (es : List Ent), vs = [v] ∧ SumV C H v n es ∧ Valid n es ∧
  (¬ Fits n es → ∀ H', Same H H' → E (.ref N) none H') ∧ (Fits n es → es = [] → ∀ H', Same H H' → E (.ref M) none H') ∧
  (Fits n es → es ≠ [] → ∀ H' p g R, Same H H' → IsWorst n es g R → H' p = some (.tup [.int g, .int R]) → Q (.ref p) H')
theorem sc_worst : FnScope ["summary", "tight", "ranks", "errors", "greatest", "rank", "error"] ["summary"] (defScope s_worst) := ⟨rfl, rfl, rfl, by decide +kernel, rfl, by decide +kernel, by decide +kernel⟩
theorem ok_worst {f : Addr} {fd : FuncData} (F : Fun K "worst" "worst" s_worst f fd) (T : SumT K mg C) (DE : Pr P w K mg base C "entries" 1 (getSp C "_entries")) (DW : DnX P w K mg base "_with_entries" ["summary"] 10 (spWith C N M)) (DP : Dn P w K mg base "_peaks" ["tight"] 3 (spPeaks C)) (DR : Dn P w K mg base "_errors" ["entries", "rank"] 3 spErr) (mmin : mg "min" = none) (mmax : mg "max" = none) (mz : mg "zip" = none) :
    FnOk P w K mg base (L2.CX P w) 11 f fd ["summary"] (spWorst C N M) := by
  refine F.okX sc_worst (fun vs H Q E h => ?_) (fun cdv A outer s H vs Q E hr h => ?_)
  · obtain ⟨v, n, es, rfl, _⟩ := h
    rfl
  · obtain ⟨v, n, es, rfl, hS, hv, kN, kM, kS⟩ := h
    have nd := sc_worst.nd
    have hr9 : Room 10 _ := hr.mono (by decide)
    have hr3 : Room 3 _ := hr.mono (by decide)
    have hr2 : Room 2 _ := hr.mono (by decide)
    refine ⟨_, pss_cons (ps_set (i := 1) nd rfl (Or.inr rfl) (pe_dnX (W := fun cls d _ H => E cls d H) DW hr9 (takes_of rfl rfl rfl rfl) (pa_cons (pv 0) pa_nil)))
      (pss_cons (ps_set (i := 2) nd rfl (Or.inl rfl) (pe_dn DP hr3 (pa_cons (pv 1) pa_nil)))
      (pss_cons (ps_setLc (i := 3) (own := [("rank", 5)]) (tt := tYes) (g := gName 5) (te := tCB (rMin K) (tCons (tCall spErr [] E0 (tCons (tProp C (getSp C "_entries") [] E0 (tVar 1)) (tCons (tVar 5) tNil))) tNil))
          rfl nd rfl rfl (sw_true rfl rfl rfl (by decide +kernel)) (pi_list (pv 2)) (blkOk_by (own := [("rank", 5)]) (N := ["summary", "tight", "ranks", "errors", "greatest", "rank", "error"]) (sc := defScope s_worst) (by decide +kernel))
          (fun _ _ _ _ _ => pg_name (i := 5) nd rfl (Or.inl rfl)) (fun _ _ _ _ _ => pts_nil) (fun _ _ _ _ _ => pe_callB (cr_min rfl) (by rfl) mmin (by decide +kernel) (pa_cons (pe_dn DR hr3 (pa_cons (pe_pr DE T.ic.cl hr2 (pv 1)) (pa_cons (pv 5) pa_nil))) pa_nil)))
      (pss_cons (ps_set (i := 4) nd rfl (Or.inr rfl) (pe_callB (cr_max rfl) (by rfl) mmax (by decide +kernel) (pa_cons (pv 3) pa_nil)))
      (pss_one (ps_ret (pe_tup (pa_cons (pv 4) (pa_cons (pe_callB (cr_min rfl) (by rfl) mmin (by decide +kernel) (pa_cons (pe_lc (own := [("rank", 5), ("error", 6)]) (g := gTup K 2 (gCons (gName 5) (gCons (gName 6) gNil))) (tt := tTest (tOp rEq (tVar 6) (tVar 4))) (te := tVar 5)
          rfl nd (pi_zip (by rfl) mz (pa_cons (pv 2) (pa_cons (pv 3) pa_nil))) (blkOk_by (own := [("rank", 5), ("error", 6)]) (N := ["summary", "tight", "ranks", "errors", "greatest", "rank", "error"]) (sc := defScope s_worst) (by decide +kernel))
          (fun _ _ _ _ _ => pg_tup rfl (pgs_cons (pg_name (i := 5) nd rfl (Or.inl rfl)) (pgs_cons (pg_name (i := 6) nd rfl (Or.inl rfl)) pgs_nil))) (fun _ _ _ _ _ => pts_one (pt_cmpR op_eq (pv 6) (pv 4) (nomark _))) (fun _ _ _ _ _ => pv 5)) pa_nil)) pa_nil)))))))), ?_⟩
    refine ⟨_, rfl, v, n, es, rfl, hS, hv, kN, kM, fun hF hne H1 pt s1 hs1 => ?_⟩
    obtain ⟨g, R, W⟩ := worst_of (es := es) hv.n1
    have L := looks_peaks hv.n1 hF
    have pl := peaks_len (n := n) hv.len
    obtain ⟨rk, hrk⟩ : ∃ rk, rk = peaks n (tightL n es) := ⟨_, rfl⟩
    rw [← hrk] at L pl
    have t12 : (tightL n es).length ≤ 12 := by rw [tight_len]; exact hv.len
    refine ⟨_, rfl, _, n, _, rfl, hs1, t12, fun H2 a s2 na ha => ?_⟩
    rw [← hrk] at ha
    -- errors
    refine ⟨_, rfl, a, rfl, ⟨_, SqL.of ha⟩, fun D nD => ?_⟩
    refine lc_list (K := K) (a := a) (xs := rk.map V.int) (fun i H' => H' D = some (.lst (((rk.map (em n es)).take i).map V.int)) ∧ Same H2 H') ⟨upd_same, Same_new nD⟩ (fun i H' _ ⟨_, s5⟩ => SqL.of (s5 _ _ ha)) ?_ ?_
    · rintro i x H' hx ⟨hD, s5⟩
      obtain ⟨r, hr', rfl⟩ := map_int_at hx
      have hil : i < rk.length := (List.getElem?_eq_some_iff.mp hr').1
      refine ⟨rfl, tyes_of ?_⟩
      rw [if_pos rfl]
      obtain ⟨p1, dx, u1, e1, hp1, hu1⟩ := id (hs1.mono (s2.trans s5))
      cases e1
      refine ⟨_, rfl, pt, dx, _, rfl, hp1, pt, dx, _, _, rfl, hp1, sfl_entries _ _, _, rfl, u1, r, _, rfl, hu1, by omega, fun H'' B s6 nB hB => ?_⟩
      refine ⟨B, _, rfl, SqL.of hB, ers_tight_pos hne, fun m hm hle => ?_⟩
      have e := IsMin.uniq ⟨hm, hle⟩ (em_is r hne)
      subst e
      refine ⟨_, s6 _ _ hD, ?_, ?_, Same_mut (s5.trans s6) nD⟩
      · rw [List.length_map, List.length_take, List.length_map]
        exact small1000 (by omega)
      · rw [upd_same]
        exact congrArg (fun z => some (HO.lst z)) (int_take (by rw [List.getElem?_map, hr']; rfl))
    rintro H3 ⟨hD, s3⟩
    rw [List.length_map, show rk.length = (rk.map (em n es)).length from (List.length_map ..).symm, List.take_length] at hD
    have hmax := L.max hF hne W
    -- greatest
    refine ⟨_, rfl, D, _, rfl, SqL.of hD, List.length_pos_of_mem hmax.1, fun m hm hle => ?_⟩
    have e := IsMax.uniq ⟨hm, hle⟩ hmax
    subst e
    refine ⟨_, rfl, _, rfl, _, rfl, a, D, _, _, rfl, SqL.of (s3 _ _ ha), SqL.of hD, fun D2 nD2 => ?_⟩
    refine lc_it (walk_zip (K := K) (a := a) (b := D) (xs := rk.map V.int) (ys := (rk.map (em n es)).map V.int) (n := rk.length) (by rw [List.length_map, List.length_map, List.length_map, Nat.min_self]))
      (fun i H' => H' D2 = some (.lst (((rk.take i).filter fun r => decide (em n es r = m)).map V.int)) ∧ Same H3 H') ⟨upd_same, Same_new nD2⟩ (fun i H' _ ⟨_, s5⟩ => ⟨SqL.of (s5 _ _ (s3 _ _ ha)), SqL.of (s5 _ _ hD)⟩) ?_ ?_
    · rintro i x H' H'' hi ⟨hE, s5⟩ ⟨B, x1, y1, rfl, nB, rfl, hx1, hy1⟩
      obtain ⟨r, hr', rfl⟩ := map_int_at hx1
      obtain ⟨e, he', rfl⟩ := map_int_at hy1
      rw [List.getElem?_map, hr'] at he'
      cases he'
      have s6 : Same H' (upd H' B (.tup [.int r, .int (em n es r)])) := Same_new nB
      refine ⟨B, _, rfl, SqT.of upd_same, rfl, _, _, rfl, _, _, rfl, rfl, rfl, ?_⟩
      refine ⟨_, rfl, _, rfl, rfl, _, rfl, ?_⟩
      have et : (rk.take (i + 1)).filter (fun r => decide (em n es r = m)) = (rk.take i).filter (fun r => decide (em n es r = m)) ++ [r].filter (fun r => decide (em n es r = m)) := by
        rw [List.take_add_one, hr', List.filter_append]; rfl
      refine ite2 (fun c => ?_) (fun c => ?_)
      · have c' : em n es r = m := V.int.inj (of_decide_eq_true c)
        refine ⟨_, rfl, _, s6 _ _ hE, ?_, ?_, Same_mut (s5.trans s6) nD2⟩
        · rw [List.length_map]
          have := List.length_filter_le (fun r => decide (em n es r = m)) (rk.take i)
          rw [List.length_take] at this
          exact small1000 (by omega)
        · rw [upd_same, et]
          simp [c']
      · have c' : ¬ em n es r = m := fun z => c (decide_eq_true (by rw [z]))
        refine ⟨?_, s5.trans s6⟩
        rw [et]
        simp [c']
        exact s6 _ _ hE
    rintro H4 ⟨hE, s4⟩
    rw [List.take_length] at hE
    have hR : R ∈ rk.filter (fun r => decide (em n es r = m)) := List.mem_filter.mpr ⟨L.has hF hne W, decide_eq_true W.at_⟩
    refine ⟨D2, _, rfl, SqL.of hE, List.length_pos_of_mem hR, fun m2 hm2 hle2 => ?_⟩
    have e2 := L.least hF hne W ⟨hm2, hle2⟩
    subst e2
    exact ⟨(by show 2 ≤ sizeLine; decide), fun z nz => kS hF hne _ z _ _ (Same_new2 (((s1.trans s2).trans s3).trans s4) nz) W upd_same⟩
end
end SR

set_option Elab.async false
set_option linter.all false
set_option maxRecDepth 100000
set_option maxHeartbeats 4000000
/-! Rows made: surely_short, filled, row_for. -/
namespace SR
open PySem PySem.Spec PyProof.Rows L2
section
variable {P : Program} {w : World} {K : PySem.W.Frag} {mg : Str → Option Value} {base : Heap} {C N fI : Addr}
def spShort (C N : Addr) : Sp := fun vs H Q E => ∃ (v : V) (n : Int) (es : List Ent), vs = [v] ∧ SumV C H v n es ∧ Valid n es ∧ n ≤ 40 ∧
  (¬ Fits n es → ∀ H', Same H H' → E (.ref N) none H') ∧ (Fits n es → ∀ H' p, Same H H' → SumV C H' (.ref p) n (tightL n es) → Q (.ref p) H')
def spCkShort (C N : Addr) : Sp := fun vs H Q E => ∃ (v : V) (n : Int) (es : List Ent), vs = [v] ∧ SumV C H v n es ∧ (40 < n → E (.ref N) none H) ∧ (n ≤ 40 → Q .non H)
theorem sc_check_short : FnScope ["summary"] ["summary"] (defScope s_check_short) := ⟨rfl, rfl, rfl, by decide +kernel, rfl, by decide +kernel, by decide +kernel⟩
theorem ok_check_short {N fI f : Addr} {fd : FuncData} (F : Fun K "check_short" "check_short" s_check_short f fd) (T : SumT K mg C) (DM : Pr P w K mg base C "many" 1 (getSp C "_many"))
    {tk : Tok} (gN : mg "MOST_NUMBERS" = some (.int 40 tk)) (TN : NzTxt K mg "TooLong" N fI) : FnOk P w K mg base (L2.CX P w) 3 f fd ["summary"] (spCkShort C N) := by
  refine F.okX sc_check_short (fun vs H Q E h => ?_) (fun cdv A outer s H vs Q E hr h => ?_)
  · obtain ⟨v, n, es, rfl, _⟩ := h
    rfl
  · obtain ⟨v, n, es, rfl, hS, kN, kS⟩ := h
    have hr2 : Room 2 _ := hr.mono (by decide)
    refine ⟨_, pss_one (ps_if (pt_cmpR op_gt (pe_pr DM T.ic.cl hr2 (pv 0)) (pe_gi gN) (nomark _)) (pss_one (ps_raise (W := fun cls d _ H => E cls d H) rfl (takes_of rfl rfl rfl rfl) (pmk_nz TN hr2 (by decide) rfl))) pss_nil), ?_⟩
    obtain ⟨p, dx, u, rfl, hp, hu⟩ := id hS
    refine ⟨_, rfl, p, dx, _, rfl, hp, p, dx, _, _, rfl, hp, sfl_many _ _, _, _, rfl, rfl, _, rfl, ?_⟩
    refine ite2 (fun c => ?_) (fun c => ?_)
    · exact kN (of_decide_eq_true c)
    · exact kS (by have : ¬ (40 : Int) < n := fun z => c (decide_eq_true z); omega)
end
end SR

set_option Elab.async false
set_option linter.all false
set_option maxRecDepth 100000
set_option maxHeartbeats 4000000
/-! Rows made: surely_short, filled, row_for. -/
namespace SR
open PySem PySem.Spec PyProof.Rows L2
section
variable {P : Program} {w : World} {K : PySem.W.Frag} {mg : Str → Option Value} {base : Heap} {C N fI : Addr}
def spFilled : Sp := fun vs H Q _ => ∃ (n f : Int) (d : Addr) (kvs : List (Key × V)) (g : Int → Option Int), vs = [.int n, .ref d, .int f] ∧ 0 ≤ n ∧ n ≤ 40 ∧ H d = some (.dK kvs) ∧ (∀ k : Int, valV kvs (Sum.inl k) = (g k).map V.int) ∧
  ∀ H' p, Same H H' → H p = none → H' p = some (.tup ((fillRow g f n.toNat).map V.int)) → Q (.ref p) H'
theorem sc_filled : FnScope ["many", "numbers", "first", "row", "number", "rank"] ["many", "numbers", "first"] (defScope s_filled) := ⟨rfl, rfl, rfl, by decide +kernel, rfl, by decide +kernel, by decide +kernel⟩
theorem ok_filled {f : Addr} {fd : FuncData} (F : Fun K "filled" "filled" s_filled f fd) (mra : mg "range" = none) (mt : mg "tuple" = none) : FnOk P w K mg base CX0 1 f fd ["many", "numbers", "first"] spFilled := by
  refine F.ok sc_filled (fun vs H Q E h => ?_) (fun cdv A outer s H vs Q E hr h => ?_)
  · obtain ⟨n, f0, d, kvs, g, rfl, _⟩ := h
    rfl
  · obtain ⟨n, f0, d, kvs, g, rfl, n0, n40, hd, hg, k⟩ := h
    have nd := sc_filled.nd
    have hu := hu_of hr
    refine ⟨_, pss_cons (ps_set (i := 3) nd rfl (Or.inl rfl) (pe_lst pa_nil))
      (pss_cons (ps_set (i := 4) nd rfl (Or.inl rfl) (pv 2))
      (pss_cons (ps_for PassesOwn.never rfl (pi_range2 (by rfl) mra (pa_cons pe_int (pa_cons (pe_op op_add (pv 0) pe_int) pa_nil))) (pg_name (i := 5) nd rfl (Or.inl rfl))
        (pss_cons (ps_set (i := 4) nd rfl (Or.inl rfl) (pe_dget2 hu (pv 1) (pv 5) (pv 4) ⟨rfl, rfl, rfl, rfl⟩))
        (pss_one (ps_expr (pe_bm PySem.F.plainAttrs_list PySem.F.slot_list_append PySem.F.type_list_append mt_append (pv 3) (pa_cons (pv 4) pa_nil))))))
      (pss_one (ps_ret (pe_callTy call_tuple_of (by rfl) mt (by decide +kernel) (pa_cons (pv 3) pa_nil)))))), ?_⟩
    refine ⟨Nat.zero_le _, fun q nq => ?_⟩
    refine ⟨_, rfl, ?_⟩
    refine ⟨_, rfl, _, _, rfl, rfl, _, _, rfl, ⟨by omega, by omega, by omega, by omega⟩, ?_⟩
    refine for_range (lo := 1) (n := (n + 1 - 1).toNat) (fun i σ H' => ∃ (y5 : Option V), σ = [some (.int n), some (.ref d), some (.int f0), some (.ref q), some (.int (fillN g f0 i)), y5] ∧ Same H H' ∧ H' q = some (.lst ((fillRow g f0 i).map V.int)))
      ⟨none, rfl, Same_new nq, upd_same⟩ ?_ ?_
    · rintro i σ H' hi ⟨y5, rfl, s5, hq⟩
      have hd' := s5 _ _ hd
      refine ⟨_, rfl, d, rfl, .inl ⟨_, .inl hd'⟩, _, rfl, _, rfl, _, DGet.k (k := Sum.inl (1 + (i : Int))) hd', ?_⟩
      have e1 : (valV kvs (Sum.inl (1 + (i : Int)))).getD (.int (fillN g f0 i)) = .int (fillN g f0 (i + 1)) := by
        rw [hg]
        show ((g (1 + (i : Int))).map V.int).getD (.int (fillN g f0 i)) = .int ((g (1 + (i : Int))).getD (fillN g f0 i))
        cases g (1 + (i : Int)) <;> rfl
      rw [e1]
      refine ⟨_, rfl, .inl ⟨rfl, _, SqL.of hq⟩, _, rfl, q, _, _, rfl, rfl, hq, ?_, ?_⟩
      · rw [List.length_map, fillRow_len]
        exact small1000 (by omega)
      · refine ⟨_, rfl, Same_mut s5 nq, ?_⟩
        rw [upd_same, fillRow_succ, List.map_append]
        rfl
    · rintro σ H' ⟨y5, rfl, s5, hq⟩
      rw [show (n + 1 - 1).toNat = n.toNat by omega] at hq
      exact ⟨_, rfl, q, _, rfl, .inl ⟨SqL.of hq, fun r nr => k _ r (Same_new2 s5 nr) (s5.free nr) upd_same⟩⟩
end
end SR

set_option Elab.async false
set_option linter.all false
set_option maxRecDepth 100000
set_option maxHeartbeats 4000000
/-! Rows made: surely_short, filled, row_for. -/
namespace SR
open PySem PySem.Spec PyProof.Rows L2
section
variable {P : Program} {w : World} {K : PySem.W.Frag} {mg : Str → Option Value} {base : Heap} {C N fI : Addr}
theorem sc_surely_short : FnScope ["summary", "tight"] ["summary"] (defScope s_surely_short) := ⟨rfl, rfl, rfl, by decide +kernel, rfl, by decide +kernel, by decide +kernel⟩
theorem ok_surely_short {M f : Addr} {fd : FuncData} (F : Fun K "surely_short" "surely_short" s_surely_short f fd) (DT : DnX P w K mg base "surely_tightened" ["summary"] 9 (spSure C N)) (DC : DnX P w K mg base "check_short" ["summary"] 3 (spCkShort C M)) : FnOk P w K mg base (L2.CX P w) 10 f fd ["summary"] (spShort C N) := by
  refine F.okX sc_surely_short (fun vs H Q E h => ?_) (fun cdv A outer s H vs Q E hr h => ?_)
  · obtain ⟨v, n, es, rfl, _⟩ := h
    rfl
  · obtain ⟨v, n, es, rfl, hS, hv, hn, kN, kS⟩ := h
    have nd := sc_surely_short.nd
    have hr9 : Room 9 _ := hr.mono (by decide)
    have hr3 : Room 3 _ := hr.mono (by decide)
    refine ⟨_, pss_cons (ps_set (i := 1) nd rfl (Or.inl rfl) (pe_dnX (W := fun cls d _ H => E cls d H) DT hr9 (takes_of rfl rfl rfl rfl) (pa_cons (pv 0) pa_nil)))
      (pss_cons (ps_expr (pe_dnX (W := fun cls d _ H => E cls d H) DC hr3 (takes_of rfl rfl rfl rfl) (pa_cons (pv 1) pa_nil)))
      (pss_one (ps_ret (pv 1)))), ?_⟩
    refine ⟨_, rfl, v, n, es, rfl, hS, hv, fun hf H1 s1 => kN hf H1 s1, fun hf H1 p s1 h1 => ?_⟩
    exact ⟨_, rfl, _, n, _, rfl, h1, fun h => absurd hn (by omega), fun _ => ⟨_, rfl, kS hf H1 p s1 h1⟩⟩
/-- the row that is filled in from the nearest ranks, and no other -/
def Row0 (n : Int) (es : List Ent) (R : List Int) : Prop := ∃ f0 : Int, ((tightL n es = [] ∧ f0 = 0) ∨ ((∃ e ∈ tightL n es, e.1 = f0) ∧ ∀ e ∈ tightL n es, f0 ≤ e.1)) ∧ R = fillRow (gE (tightL n es) (tightL n es).length) f0 n.toNat
theorem Row0.uniq {n : Int} {es : List Ent} {R R' : List Int} (h : Row0 n es R) (h' : Row0 n es R') : R = R' := by
  obtain ⟨f, c, rfl⟩ := h
  obtain ⟨f', c', rfl⟩ := h'
  have : f = f' := by
    rcases c with ⟨e, rfl⟩ | ⟨⟨e, he, rfl⟩, hm⟩ <;> rcases c' with ⟨e', rfl⟩ | ⟨⟨e', he', rfl⟩, hm'⟩
    · rfl
    · rw [e] at he'; cases he'
    · rw [e'] at he; cases he
    · exact Int.le_antisymm (hm _ he') (hm' _ he)
  rw [this]
def spRowForX (C N : Addr) : Sp := fun vs H Q E => ∃ (v : V) (n : Int) (es : List Ent), vs = [v] ∧ SumV C H v n es ∧ Valid n es ∧ n ≤ 40 ∧
  (¬ Fits n es → ∀ H', Same H H' → E (.ref N) none H') ∧
  (Fits n es → ∀ H' p row, Same H H' → H p = none → H' p = some (.tup (row.map V.int)) → (row.length : Int) = n → row.Pairwise (· ≤ ·) → Lvs row es → Row0 n es row → Q (.ref p) H')
theorem sc_row_for : FnScope ["summary", "tight", "first", "value", "_", "low"] ["summary"] (defScope s_row_for) := ⟨rfl, rfl, rfl, by decide +kernel, rfl, by decide +kernel, by decide +kernel⟩
theorem ok_row_for {f : Addr} {fd : FuncData} (F : Fun K "row_for" "row_for" s_row_for f fd) (T : SumT K mg C) (DSh : DnX P w K mg base "surely_short" ["summary"] 10 (spShort C N)) (DF : Dn P w K mg base "filled" ["many", "numbers", "first"] 1 spFilled)
    (DE : Pr P w K mg base C "entries" 1 (getSp C "_entries")) (DM : Pr P w K mg base C "many" 1 (getSp C "_many")) (mmin : mg "min" = none) : FnOk P w K mg base (L2.CX P w) 11 f fd ["summary"] (spRowForX C N) := by
  refine F.okX sc_row_for (fun vs H Q E h => ?_) (fun cdv A outer s H vs Q E hr h => ?_)
  · obtain ⟨v, n, es, rfl, _⟩ := h
    rfl
  · obtain ⟨v, n, es, rfl, hS, hv, hn, kN, kS⟩ := h
    have nd := sc_row_for.nd
    have hr10 : Room 10 _ := hr.mono (by decide)
    have hr2 : Room 2 _ := hr.mono (by decide)
    have hr1 : Room 1 _ := hr.mono (by decide)
    refine ⟨_, pss_cons (ps_set (i := 1) nd rfl (Or.inl rfl) (pe_dnX (W := fun cls d _ H => E cls d H) DSh hr10 (takes_of rfl rfl rfl rfl) (pa_cons (pv 0) pa_nil)))
      (pss_cons (ps_set (i := 2) nd rfl (Or.inl rfl) (pe_callBK (cr_minD rfl) (by rfl) mmin (by decide +kernel) (pa_cons (pe_lc (own := [("value", 3), ("_", 4)]) (g := gTup K 3 (gCons (gName 3) (gCons (gName 4) (gCons (gName 4) gNil)))) (tt := tYes) (te := tVar 3)
          rfl nd (pi_tup (pe_pr DE T.ic.cl hr2 (pv 1))) (blkOk_by (own := [("value", 3), ("_", 4)]) (N := ["summary", "tight", "first", "value", "_", "low"]) (sc := defScope s_row_for) (by decide +kernel))
          (fun _ _ _ _ _ => pg_tup rfl (pgs_cons (pg_name (i := 3) nd rfl (Or.inl rfl)) (pgs_cons (pg_name (i := 4) nd rfl (Or.inl rfl)) (pgs_cons (pg_name (i := 4) nd rfl (Or.inl rfl)) pgs_nil)))) (fun _ _ _ _ _ => pts_nil) (fun _ _ _ _ _ => pv 3)) pa_nil) (pk_cons pe_int pk_nil)))
      (pss_one (ps_ret (pe_dn DF hr1 (pa_cons (pe_pr DM T.ic.cl hr2 (pv 1)) (pa_cons (pe_dc (own := [("low", 5), ("value", 3), ("_", 4)]) (g := gTup K 3 (gCons (gName 3) (gCons (gName 5) (gCons (gName 4) gNil)))) (tt := tYes) (tk := tVar 5) (tv := tVar 3)
          rfl nd (pi_tup (pe_pr DE T.ic.cl hr2 (pv 1))) (blkOk_by (own := [("low", 5), ("value", 3), ("_", 4)]) (N := ["summary", "tight", "first", "value", "_", "low"]) (sc := defScope s_row_for) (by decide +kernel))
          (fun _ _ _ _ _ => pg_tup rfl (pgs_cons (pg_name (i := 3) nd rfl (Or.inl rfl)) (pgs_cons (pg_name (i := 5) nd rfl (Or.inl rfl)) (pgs_cons (pg_name (i := 4) nd rfl (Or.inl rfl)) pgs_nil)))) (fun _ _ _ _ _ => pts_nil) (fun _ _ _ _ _ => pv 5) (fun _ _ _ _ _ => pv 3)) (pa_cons (pv 2) pa_nil))))))), ?_⟩
    refine ⟨_, rfl, v, n, es, rfl, hS, hv, hn, fun hf H1 s1 => kN hf H1 s1, fun hf H0 pt s0 hs0 => ?_⟩
    obtain ⟨p, dx, u, e, hp, a, vs, rfl, ha, he⟩ := id hs0
    cases e
    have h12 : (tightL n es).length ≤ 12 := by rw [tight_len]; exact hv.len
    obtain ⟨ts, hts⟩ : ∃ ts, ts = tightL n es := ⟨_, rfl⟩
    rw [← hts] at he h12
    have hl : vs.length = ts.length := he.len
    refine ⟨_, rfl, pt, dx, _, rfl, hp, pt, dx, _, _, rfl, hp, sfl_entries _ _, a, rfl, ⟨_, SqT.of ha⟩, fun D1 nD1 => ?_⟩
    refine lc_tup (K := K) (a := a) (xs := vs) (fun i H' => H' D1 = some (.lst (((ts.take i).map fun e => e.1).map V.int)) ∧ Same H0 H') ⟨upd_same, Same_new nD1⟩ (fun i H' _ ⟨_, s5⟩ => SqT.of (s5 _ _ ha)) ?_ ?_
    · rintro i x H' hx ⟨hD, s5⟩
      obtain ⟨e, hei, t, rfl, ht⟩ := pr_at' he hx
      have hil : i < ts.length := (List.getElem?_eq_some_iff.mp hei).1
      refine ⟨t, _, rfl, SqT.of (s5 _ _ ht), rfl, _, _, rfl, _, _, rfl, _, _, rfl, rfl, rfl, tyes_of ?_⟩
      rw [if_pos rfl]
      refine ⟨_, rfl, _, hD, ?_, ?_, Same_mut s5 nD1⟩
      · rw [List.length_map, List.length_map, List.length_take]
        exact small1000 (by omega)
      · rw [upd_same, List.take_add_one, hei, List.map_append, List.map_append]
        rfl
    rintro H1 ⟨hD1, s1⟩
    rw [hl, List.take_length] at hD1
    have hp1 := s1 _ _ hp
    refine ⟨D1, _, .int 0, rfl, rfl, SqL.of hD1, fun x1 o1 => ?_⟩
    obtain ⟨f0, rfl, hf0, hx0⟩ : ∃ f0 : Int, x1 = .int f0 ∧ (∀ e ∈ ts, f0 ≤ e.1) ∧ ((ts = [] ∧ f0 = 0) ∨ ((∃ e ∈ ts, e.1 = f0) ∧ ∀ e ∈ ts, f0 ≤ e.1)) := by
      rcases o1 with ⟨h1, h2⟩ | ⟨m, h1, h2, h3⟩
      · refine ⟨0, h2, fun e he => ?_, .inl ⟨List.map_eq_nil_iff.mp h1, rfl⟩⟩
        have e0 : ts = [] := List.map_eq_nil_iff.mp h1
        rw [e0] at he
        cases he
      · obtain ⟨e, he, hm⟩ := List.mem_map.mp h2
        exact ⟨m, h1, fun e he => h3 _ (List.mem_map.mpr ⟨e, he, rfl⟩), .inr ⟨⟨e, he, hm⟩, fun e he => h3 _ (List.mem_map.mpr ⟨e, he, rfl⟩)⟩⟩
    refine ⟨_, rfl, pt, dx, _, rfl, hp1, pt, dx, _, _, rfl, hp1, sfl_many _ _, ?_⟩
    refine ⟨_, rfl, pt, dx, _, rfl, hp1, pt, dx, _, _, rfl, hp1, sfl_entries _ _, a, rfl, ⟨_, SqT.of (s1 _ _ ha)⟩, fun D2 nD2 => ?_⟩
    refine dc_tup (K := K) (a := a) (xs := vs) (fun i H' => ∃ kvs, H' D2 = some (.dK kvs) ∧ kvs.length ≤ i ∧ (∀ k : Int, valV kvs (Sum.inl k) = (gE ts i k).map V.int) ∧ Same H1 H') ⟨[], upd_same, Nat.le_refl _, fun k => rfl, Same_new nD2⟩ (fun i H' _ ⟨_, _, _, _, s5⟩ => SqT.of (s5 _ _ (s1 _ _ ha))) ?_ ?_
    · rintro i x H' hx ⟨kvs, hD, hk, hg, s5⟩
      obtain ⟨e, hei, t, rfl, ht⟩ := pr_at' he hx
      have hil : i < ts.length := (List.getElem?_eq_some_iff.mp hei).1
      refine ⟨t, _, rfl, SqT.of (s5 _ _ (s1 _ _ ht)), rfl, _, _, rfl, _, _, rfl, _, _, rfl, rfl, rfl, tyes_of ?_⟩
      rw [if_pos rfl]
      refine ⟨_, rfl, _, rfl, kvs, Sum.inl e.2.1, rfl, hD, small1000 (by omega), _, upd_same, ?_, fun k => ?_, Same_mut s5 nD2⟩
      · have := length_putK kvs (Sum.inl e.2.1) (V.int e.1)
        omega
      · rw [valV_put, hg]
        rw [gE_succ, lo_of hei, vl_of hei]
        by_cases c : k = e.2.1
        · rw [if_pos c, if_pos (by rw [c])]; rfl
        · rw [if_neg c, if_neg (by intro z; injection z with z; exact c z)]
    rintro H2 ⟨kvs, hD2, hk, hg, s2⟩
    rw [hl] at hg
    refine ⟨_, rfl, n, f0, D2, kvs, gE ts ts.length, rfl, by have := hv.n1; omega, hn, hD2, hg, fun H3 r s3 nr hr3 => ?_⟩
    have A : Asc (gE ts ts.length) f0 := by
      refine gE_asc (by rw [hts]; exact tight_up) (by rw [hts]; exact tight_va hv) fun j hj => ?_
      have := hf0 _ (List.getElem_mem hj)
      rw [vl_of (List.getElem?_eq_getElem hj)]
      exact this
    refine kS hf H3 r _ (((s0.trans s1).trans s2).trans s3) (((s0.trans s1).trans s2).free nr) hr3 ?_ (A.row _) (fill_leaves hv hf fun j hj => ?_) ⟨f0, by rw [← hts]; exact hx0, by rw [← hts]⟩
    · rw [fillRow_len]
      have := hv.n1
      omega
    · have h1 := tight_at (n := n) hj
      rw [← hts] at h1
      have h2 := gE_at (ts := ts) (by rw [hts]; exact tight_up) (i := ts.length) (j := j) (Nat.le_refl _) (by rw [hts, tight_len]; exact hj)
      rw [lo_of h1, vl_of h1] at h2
      exact h2
end
end SR

set_option Elab.async false
set_option linter.all false
set_option maxRecDepth 100000
set_option maxHeartbeats 4000000
/-! leaves(row, summary). -/
namespace SR
open PySem PySem.Spec PyProof.Rows L2
section
variable {P : Program} {w : World} {K : PySem.W.Frag} {mg : Str → Option Value} {base : Heap} {C N fI : Addr}
def spCkRow : Sp := fun vs H Q _ => ∃ (v : V) (row : List Int), vs = [v] ∧ WayV H v row ∧ 1 ≤ row.length ∧ row.length ≤ 40 ∧ ∀ H', Same H H' → Q .non H'
theorem sc__check_row : FnScope ["row", "number"] ["row"] (defScope s__check_row) := ⟨rfl, rfl, rfl, by decide +kernel, rfl, by decide +kernel, by decide +kernel⟩
theorem ok__check_row {f : Addr} {fd : FuncData} (F : Fun K "_check_row" "_check_row" s__check_row f fd) (D1 : Dn P w K mg base "is_integer" ["value"] 1 spIsInt) (D2 : Dn P w K mg base "is_between" ["value", "least", "greatest"] 2 spBetween)
    (mi : mg "isinstance" = none) (mt : mg "tuple" = none) (ml : mg "len" = none) (mall : mg "all" = none) {tk : Tok} (gN : mg "MOST_NUMBERS" = some (.int 40 tk)) : FnOk P w K mg base CX0 3 f fd ["row"] spCkRow := by
  refine F.ok sc__check_row (fun vs H Q E h => ?_) (fun cdv A outer s H vs Q E hr h => ?_)
  · obtain ⟨v, row, rfl, _⟩ := h
    rfl
  · obtain ⟨v, row, rfl, ⟨t, rfl, ht⟩, l1, l40, k⟩ := h
    have nd := sc__check_row.nd
    have hr2 : Room 2 _ := hr.mono (by decide)
    have hr1 : Room 1 _ := hr.mono (by decide)
    refine ⟨_, pss_cons (ps_if (PW.pt (pw_or (pt_not (pt_val (pe_callB call_isi (by rfl) mi (by decide +kernel) (pa_cons (pv 0) (pa_cons (pe_bltn (v := .ty "tuple") (by rfl) mt (by decide +kernel) rfl) pa_nil)))))
        (pw_or1 (pt_not (pt_val (pe_dn D2 hr2 (pa_cons (pe_callB call_len_seq (by rfl) ml PySem.boot_len (pa_cons (pv 0) pa_nil)) (pa_cons pe_int (pa_cons (pe_gi gN) pa_nil))))))))) (pss_one ps_never) pss_nil)
      (pss_one (ps_if (pt_not (pt_val (pe_callB (cr_all rfl) (by rfl) mall (by decide +kernel) (pa_cons (pe_lc (own := [("number", 1)]) (g := gName 1) (tt := tYes) (te := tCall spIsInt [] E0 (tCons (tVar 1) tNil)) rfl nd (pi_tup (pv 0))
          (blkOk_by (own := [("number", 1)]) (N := ["row", "number"]) (sc := defScope s__check_row) (by decide +kernel)) (fun _ _ _ _ _ => pg_name (i := 1) nd rfl (Or.inl rfl)) (fun _ _ _ _ _ => pts_nil) (fun _ _ _ _ _ => pe_dn D1 hr1 (pa_cons (pv 1) pa_nil))) pa_nil)))) (pss_one ps_never) pss_nil)), ?_⟩
    refine ⟨_, rfl, _, _, _, _, true, rfl, .ty _, .base (.tup ht), kit_ty (by decide +kernel), true, rfl, iteF ?_⟩
    refine ⟨_, rfl, t, _, rfl, .inr (SqT.of ht), _, _, _, rfl, _, rfl, ?_⟩
    rw [List.length_map, decide_eq_true (show (1 : Int) ≤ (row.length : Int) by omega), decide_eq_true (show (row.length : Int) ≤ 40 by omega)]
    refine iteF ?_
    refine ⟨_, rfl, t, rfl, ⟨_, SqT.of ht⟩, fun D nD => ?_⟩
    refine lc_tup (K := K) (a := t) (xs := row.map V.int) (fun i H' => H' D = some (.lst ((List.replicate i true).map V.bl)) ∧ Same H H') ⟨upd_same, Same_new nD⟩ (fun i H' _ ⟨_, s5⟩ => SqT.of (s5 _ _ ht)) ?_ ?_
    · rintro i x H' hx ⟨hD, s5⟩
      obtain ⟨z, hz, rfl⟩ : ∃ z : Int, row[i]? = some z ∧ x = .int z := by
        rw [List.getElem?_map] at hx
        cases e : row[i]? with
        | none => rw [e] at hx; cases hx
        | some z => rw [e] at hx; exact ⟨z, rfl, (Option.some.inj hx).symm⟩
      have hil : i < row.length := (List.getElem?_eq_some_iff.mp hz).1
      refine ⟨rfl, tyes_of ?_⟩
      rw [if_pos rfl]
      refine ⟨_, rfl, z, rfl, _, hD, ?_, ?_, Same_mut s5 nD⟩
      · rw [List.length_map, List.length_replicate]
        exact small1000 (by omega)
      · rw [upd_same, List.replicate_succ', List.map_append]
        rfl
    · rintro H' ⟨hD, s5⟩
      refine ⟨D, _, rfl, SqL.of hD, _, rfl, ?_⟩
      rw [show (List.replicate (row.map V.int).length true).all id = true by rw [List.all_replicate]; simp]
      exact iteF (k H' s5)
def spHave : Sp := fun vs H Q _ => ∃ (u : V) (l : Addr) (row : List Int) (es : List Ent), vs = [u, .ref l] ∧ TupV H u es ∧ H l = some (.lst (row.map V.int)) ∧ row.length ≤ 900 ∧ es.length ≤ 12 ∧ (∀ j, j < es.length → 1 ≤ lo es j ∧ lo es j ≤ hi es j ∧ hi es j ≤ row.length) ∧
  ∀ b : Bool, (b = true ↔ Lvs row es) → Q (.bl b) H
theorem sc__have_places : FnScope ["entries", "ascending", "rank", "value", "low", "high"] ["entries", "ascending"] (defScope s__have_places) := ⟨rfl, rfl, rfl, by decide +kernel, rfl, by decide +kernel, by decide +kernel⟩
theorem ok__have_places {f : Addr} {fd : FuncData} (F : Fun K "_have_places" "_have_places" s__have_places f fd) (mmax : mg "max" = none) : FnOk P w K mg base CX0 1 f fd ["entries", "ascending"] spHave := by
  refine F.ok sc__have_places (fun vs H Q E h => ?_) (fun cdv A outer s H vs Q E hr h => ?_)
  · obtain ⟨u, l, row, es, rfl, _⟩ := h
    rfl
  · obtain ⟨u, l, row, es, rfl, ⟨a, vs, rfl, ha, he⟩, hlr, hrl, h12, hb, k⟩ := h
    have nd := sc__have_places.nd
    have hl : vs.length = es.length := he.len
    refine ⟨_, pss_cons (ps_set (i := 2) nd rfl (Or.inl rfl) pe_int)
      (pss_cons (ps_for PassesOwn.never rfl (pi_tup (pv 0)) (pg_tup rfl (pgs_cons (pg_name (i := 3) nd rfl (Or.inl rfl)) (pgs_cons (pg_name (i := 4) nd rfl (Or.inl rfl)) (pgs_cons (pg_name (i := 5) nd rfl (Or.inl rfl)) pgs_nil))))
        (pss_cons (ps_set (i := 2) nd rfl (Or.inl rfl) (pe_callB (call_max2 rfl) (by rfl) mmax (by decide +kernel) (pa_cons (pv 4) (pa_cons (pe_op op_add (pv 2) pe_int) pa_nil))))
        (pss_cons (ps_while PassesOwn.never (PW.pt (pw_and (pt_cmpR op_le (pv 2) (pv 5) (nomark _)) (pw_and1 (pt_cmpR op_ne (pe_ix ix_list (pv 1) (pe_op op_sub (pv 2) pe_int) (fun _ _ => rfl)) (pv 3) (nomark _)))))
          (pss_one (ps_aug (i := 2) nd rfl (Or.inl rfl) pe_int ip_add)))
        (pss_one (ps_if (pt_cmpR op_gt (pv 2) (pv 5) (nomark _)) (pss_one (ps_ret pe_bl)) pss_nil)))))
      (pss_one (ps_ret pe_bl))), ?_⟩
    refine ⟨_, rfl, a, rfl, ⟨_, SqT.of ha⟩, for_tup (K := K) (a := a) (xs := vs)
      (fun i σ H' => H' = H ∧ ∃ (L : Int) (y3 y4 y5 : Option V), σ = [some (.ref a), some (.ref l), some (.int L), y3, y4, y5] ∧ 0 ≤ L ∧ L ≤ row.length ∧ (Lvs row es ↔ Lv row (es.drop i) L))
      ⟨rfl, 0, none, none, none, rfl, Int.le_refl _, by omega, Iff.rfl⟩ (fun i σ H' _ ⟨e, _⟩ => by rw [e]; exact SqT.of ha) ?_ ?_⟩
    · rintro i x σ H1 hx ⟨rfl, L, y3, y4, y5, rfl, L0, L1, hiff⟩
      obtain ⟨e, hei, t, rfl, ht⟩ := pr_at' he hx
      have hil : i < es.length := (List.getElem?_eq_some_iff.mp hei).1
      have hb' := hb i hil
      rw [lo_of hei, hi_of hei] at hb'
      have hd : es.drop i = e :: es.drop (i + 1) := by
        have h1 : es[i] = e := (List.getElem?_eq_some_iff.mp hei).2
        rw [← h1]
        exact List.drop_eq_getElem_cons hil
      rw [hd] at hiff
      refine ⟨t, _, rfl, SqT.of ht, rfl, _, _, rfl, _, _, rfl, _, _, rfl, rfl, ?_⟩
      refine ⟨_, rfl, _, rfl, _, _, rfl, rfl, _, _, rfl, ?_⟩
      rw [max_if]
      refine ⟨fun m σ H' => H' = H1 ∧ ∃ r : Int, m = (e.2.2 + 1 - r).toNat ∧ σ = [some (.ref a), some (.ref l), some (.int r), some (.int e.1), some (.int e.2.1), some (.int e.2.2)] ∧ max e.2.1 (L + 1) ≤ r ∧ ∀ x, max e.2.1 (L + 1) ≤ x → x < r → rat row x ≠ e.1,
        ⟨_, rfl, _, rfl, rfl, Int.le_refl _, fun x h1 h2 => by omega⟩, ?_⟩
      rintro m σ H' ⟨rfl, r, rfl, rfl, hr1, hr2⟩
      refine ⟨_, rfl, _, rfl, _, _, rfl, rfl, _, rfl, ?_⟩
      refine ite2 (fun c => ?_) (fun c => ?_)
      · have c' : r ≤ e.2.2 := of_decide_eq_true c
        refine ⟨_, rfl, _, rfl, _, _, rfl, rfl, l, _, _, _, rfl, rfl, SqL.of hlr, at_of (j := (r - 1).toNat) (by omega) (rat_get (by omega) (by omega)), _, rfl, rfl, _, rfl, ?_⟩
        refine ite2 (fun c2 => ?_) (fun c2 => ?_)
        · have c3 : rat row r ≠ e.1 := fun z => by rw [z] at c2; simp at c2
          refine ⟨fun σ' H'' => H'' = H' ∧ σ' = [some (.ref a), some (.ref l), some (.int (r + 1)), some (.int e.1), some (.int e.2.1), some (.int e.2.2)], fun σ' H'' h => ?_, ?_⟩
          · obtain ⟨rfl, rfl⟩ := h
            refine ⟨(e.2.2 + 1 - (r + 1)).toNat, by omega, rfl, r + 1, rfl, rfl, by omega, fun x h1 h2 => ?_⟩
            by_cases hx2 : x = r
            · rw [hx2]; exact c3
            · exact hr2 x h1 (by omega)
          · exact ⟨_, rfl, _, _, rfl, rfl, rfl, rfl⟩
        · have c3 : rat row r = e.1 := by
            by_cases z : rat row r = e.1
            · exact z
            · exact absurd (by simp [z]) c2
          refine ⟨_, rfl, _, rfl, _, _, rfl, rfl, _, rfl, ?_⟩
          rw [decide_eq_false (show ¬ e.2.2 < r by omega)]
          refine iteF ?_
          exact ⟨rfl, r, _, _, _, rfl, by omega, by omega, hiff.trans (Lv.yes hr1 c' c3 hr2)⟩
      · have c' : ¬ r ≤ e.2.2 := fun z => c (decide_eq_true z)
        refine iteF ?_
        refine ⟨_, rfl, _, rfl, _, _, rfl, rfl, _, rfl, ?_⟩
        rw [decide_eq_true (show e.2.2 < r by omega)]
        refine iteT ?_
        exact k false ⟨fun z => Bool.noConfusion z, fun z => absurd (hiff.mp z) (Lv.no fun x h1 h2 => hr2 x h1 (by omega))⟩
    · rintro σ H1 ⟨rfl, L, y3, y4, y5, rfl, L0, L1, hiff⟩
      rw [hl, List.drop_length] at hiff
      exact k true ⟨fun _ => hiff.mpr trivial, fun _ => rfl⟩
/-- leaves(row, summary) -/
def spLeavesP (C : Addr) : Sp := fun vs H Q _ => ∃ (v u : V) (row : List Int) (n : Int) (es : List Ent), vs = [v, u] ∧ WayV H v row ∧ 1 ≤ row.length ∧ row.length ≤ 40 ∧ SumV C H u n es ∧ Valid n es ∧
  ∀ H' (b : Bool), Same H H' → (∀ s : List Int, s.Perm row → s.Pairwise (· ≤ ·) → (b = true ↔ ((s.length : Int) = n ∧ Lvs s es))) → Q (.bl b) H'
theorem sc_leaves : FnScope ["row", "summary"] ["row", "summary"] (defScope s_leaves) := ⟨rfl, rfl, rfl, by decide +kernel, rfl, by decide +kernel, by decide +kernel⟩
theorem ok_leaves {f : Addr} {fd : FuncData} (F : Fun K "leaves" "leaves" s_leaves f fd) (T : SumT K mg C) (DCR : Dn P w K mg base "_check_row" ["row"] 3 spCkRow) (DCk : Dn P w K mg base "check_summary" ["summary"] 1 (spCkSum C)) (DH : Dn P w K mg base "_have_places" ["entries", "ascending"] 1 spHave)
    (DE : Pr P w K mg base C "entries" 1 (getSp C "_entries")) (DM : Pr P w K mg base C "many" 1 (getSp C "_many")) (ml : mg "len" = none) (mso : mg "sorted" = none) : FnOk P w K mg base CX0 4 f fd ["row", "summary"] (spLeavesP C) := by
  refine F.ok sc_leaves (fun vs H Q E h => ?_) (fun cdv A outer s H vs Q E hr h => ?_)
  · obtain ⟨v, u, row, n, es, rfl, _⟩ := h
    rfl
  · obtain ⟨v, u, row, n, es, rfl, hw, l1, l40, hS, hv, k⟩ := h
    have nd := sc_leaves.nd
    have hr3 : Room 3 _ := hr.mono (by decide)
    have hr2 : Room 2 _ := hr.mono (by decide)
    have hr1 : Room 1 _ := hr.mono (by decide)
    refine ⟨_, pss_cons (ps_expr (pe_dn DCR hr3 (pa_cons (pv 0) pa_nil)))
      (pss_cons (ps_expr (pe_dn DCk hr1 (pa_cons (pv 1) pa_nil)))
      (pss_one (ps_ret (pe_and (pe_cmpR op_eq (pe_callB call_len_seq (by rfl) ml PySem.boot_len (pa_cons (pv 0) pa_nil)) (pe_pr DM T.ic.cl hr2 (pv 1)) (nomark _))
        (pe_one (pe_dn DH hr1 (pa_cons (pe_pr DE T.ic.cl hr2 (pv 1)) (pa_cons (pe_callB cr_sortedT (by rfl) mso (by decide +kernel) (pa_cons (pv 0) pa_nil)) pa_nil)))))))), ?_⟩
    refine ⟨_, rfl, v, row, rfl, hw, l1, l40, fun H1 s1 => ?_⟩
    have hS1 := hS.mono s1
    refine ⟨_, rfl, u, n, es, rfl, hS1, ?_⟩
    obtain ⟨t, rfl, ht⟩ := hw
    have ht1 := s1 _ _ ht
    obtain ⟨p, dx, ue, rfl, hp, hue⟩ := id hS1
    refine ⟨_, rfl, t, _, rfl, .inr (SqT.of ht1), _, rfl, p, dx, _, rfl, hp, p, dx, _, _, rfl, hp, sfl_many _ _, rfl, _, rfl, ?_⟩
    rw [List.length_map]
    refine ite2 (fun c => ?_) (fun c => ?_)
    · have e1 : (row.length : Int) = n := V.int.inj (of_decide_eq_true c)
      refine ⟨_, rfl, p, dx, _, rfl, hp, p, dx, _, _, rfl, hp, sfl_entries _ _, ?_⟩
      refine ⟨_, rfl, t, row, rfl, SqT.of ht1, fun ns' q perm asc nq => ?_⟩
      have tq := Same_new (o := .lst (ns'.map V.int)) nq
      have pl := perm.length_eq
      refine ⟨_, q, ns', es, rfl, hue.mono tq, upd_same, by omega, hv.len, fun j hj => ?_, fun b hb => ?_⟩
      · have := hv.ent j hj
        omega
      · refine k _ b (s1.trans tq) fun s2 p2 a2 => ?_
        have e2 : s2 = ns' := List.Perm.eq_of_pairwise (fun a b _ _ h1 h2 => Int.le_antisymm h1 h2) a2 asc (p2.trans perm.symm)
        subst e2
        rw [hb]
        exact ⟨fun h => ⟨by omega, h⟩, fun h => h.2⟩
    · have e1 : ¬ (row.length : Int) = n := fun z => c (decide_eq_true (by rw [z]))
      refine k _ false s1 fun s2 p2 a2 => ⟨fun z => Bool.noConfusion z, fun z => absurd z.1 ?_⟩
      rw [p2.length_eq]
      exact e1
end
end SR

set_option Elab.async false
set_option linter.all false
set_option maxRecDepth 100000
set_option maxHeartbeats 4000000
/-! kept_from(row, ranks). -/
namespace SR
open PySem PySem.Spec PyProof.Rows L2
/-- the entries kept of an ascending row -/
def keptE (s : List Int) (rks : List Int) : List Ent := rks.map fun r => (rat s r, r, r)
/-- ranks of n numbers, ascending -/
structure RksOk (n : Int) (rks : List Int) : Prop where
  l : rks.length ≤ 12
  b : ∀ r ∈ rks, 1 ≤ r ∧ r ≤ n
  up : rks.Pairwise (· < ·)
theorem keptE_at {s rks : List Int} {j : Nat} {r : Int} (h : rks[j]? = some r) : (keptE s rks)[j]? = some (rat s r, r, r) := by
  unfold keptE
  rw [List.getElem?_map, h]
  rfl
theorem keptE_len (s rks : List Int) : (keptE s rks).length = rks.length := List.length_map ..
theorem rks_get {rks : List Int} {j : Nat} (h : j < rks.length) : ∃ r, rks[j]? = some r ∧ r ∈ rks := ⟨rks[j], List.getElem?_eq_getElem h, List.getElem_mem h⟩
theorem keptE_valid {n : Int} {s rks : List Int} (h : RksOk n rks) (n1 : 1 ≤ n) (n40 : n ≤ 40) (hl : (s.length : Int) = n) (hs : s.Pairwise (· ≤ ·)) (hb : ∀ x ∈ s, -10 ^ 30 ≤ x ∧ x ≤ 10 ^ 30) : Valid n (keptE s rks) where
  n1 := n1
  n2 := by omega
  len := by rw [keptE_len]; exact h.l
  ent := fun j hj => by
    rw [keptE_len] at hj
    obtain ⟨r, hr, hm⟩ := rks_get hj
    have e := keptE_at (s := s) hr
    rw [vl_of e, lo_of e, hi_of e]
    have hr' := h.b r hm
    have hx := hb (rat s r) (by
      unfold rat
      rw [List.getD_eq_getElem?_getD, List.getElem?_eq_getElem (show (r - 1).toNat < s.length by omega)]
      exact List.getElem_mem _)
    exact ⟨hx.1, hx.2, hr'.1, Int.le_refl _, hr'.2⟩
  asc := fun j hj => by
    rw [keptE_len] at hj
    obtain ⟨r, hr, hm⟩ := rks_get hj
    obtain ⟨q, hq, hm'⟩ := rks_get (show j < rks.length by omega)
    rw [vl_of (keptE_at (s := s) hr), vl_of (keptE_at (s := s) hq)]
    have hr' := h.b r hm
    have hq' := h.b q hm'
    have lt : q < r := by
      have := List.pairwise_iff_getElem.mp h.up j (j + 1) (by omega) hj (by omega)
      rw [List.getElem?_eq_getElem (show j < rks.length by omega)] at hq
      rw [List.getElem?_eq_getElem hj] at hr
      rw [← Option.some.inj hq, ← Option.some.inj hr]
      exact this
    exact rat_asc hs hq'.1 (by omega) (by omega)
section
variable {P : Program} {w : World} {K : PySem.W.Frag} {mg : Str → Option Value} {base : Heap} {C N fI : Addr}
def spCkRanks : Sp := fun vs H Q _ => ∃ (n : Int) (u : V) (rks : List Int), vs = [.int n, u] ∧ WayV H u rks ∧ RksOk n rks ∧ Q .non H
theorem sc__check_ranks : FnScope ["many", "ranks", "before", "rank"] ["many", "ranks"] (defScope s__check_ranks) := ⟨rfl, rfl, rfl, by decide +kernel, rfl, by decide +kernel, by decide +kernel⟩
theorem ok__check_ranks {f : Addr} {fd : FuncData} (F : Fun K "_check_ranks" "_check_ranks" s__check_ranks f fd) (D2 : Dn P w K mg base "is_between" ["value", "least", "greatest"] 2 spBetween)
    (mi : mg "isinstance" = none) (mt : mg "tuple" = none) (ml : mg "len" = none) {tk : Tok} (gm : mg "MOST_ENTRIES" = some (.int 12 tk)) : FnOk P w K mg base CX0 3 f fd ["many", "ranks"] spCkRanks := by
  refine F.ok sc__check_ranks (fun vs H Q E h => ?_) (fun cdv A outer s H vs Q E hr h => ?_)
  · obtain ⟨n, u, rks, rfl, _⟩ := h
    rfl
  · obtain ⟨n, u, rks, rfl, ⟨t, rfl, ht⟩, hR, k⟩ := h
    have nd := sc__check_ranks.nd
    have hr2 : Room 2 _ := hr.mono (by decide)
    refine ⟨_, pss_cons (ps_if (PW.pt (pw_or (pt_not (pt_val (pe_callB call_isi (by rfl) mi (by decide +kernel) (pa_cons (pv 1) (pa_cons (pe_bltn (v := .ty "tuple") (by rfl) mt (by decide +kernel) rfl) pa_nil)))))
        (pw_or1 (pt_cmpR op_gt (pe_callB call_len_seq (by rfl) ml PySem.boot_len (pa_cons (pv 1) pa_nil)) (pe_gi gm) (nomark _))))) (pss_one ps_never) pss_nil)
      (pss_cons (ps_set (i := 2) nd rfl (Or.inl rfl) pe_int)
      (pss_one (ps_for PassesOwn.never rfl (pi_tup (pv 1)) (pg_name (i := 3) nd rfl (Or.inl rfl))
        (pss_cons (ps_if (pt_not (pt_val (pe_dn D2 hr2 (pa_cons (pv 3) (pa_cons (pe_op op_add (pv 2) pe_int) (pa_cons (pv 0) pa_nil)))))) (pss_one ps_never) pss_nil)
        (pss_one (ps_set (i := 2) nd rfl (Or.inl rfl) (pv 3))))))), ?_⟩
    refine ⟨_, rfl, _, _, _, _, true, rfl, .ty _, .base (.tup ht), kit_ty (by decide +kernel), true, rfl, iteF ?_⟩
    refine ⟨_, rfl, t, _, rfl, .inr (SqT.of ht), _, _, rfl, rfl, _, rfl, ?_⟩
    have h12 := hR.l
    rw [List.length_map, decide_eq_false (show ¬ (12 : Int) < (rks.length : Int) by omega)]
    refine iteF ?_
    refine ⟨_, rfl, t, rfl, ⟨_, SqT.of ht⟩, for_tup (K := K) (a := t) (xs := rks.map V.int)
      (fun i σ H' => H' = H ∧ ∃ (b : Int) (y3 : Option V), σ = [some (.int n), some (.ref t), some (.int b), y3] ∧ (∀ (j : Nat) (r : Int), i ≤ j → rks[j]? = some r → b < r))
      ⟨rfl, 0, none, rfl, fun j r _ hr => by have := hR.b r (List.mem_of_getElem? hr); omega⟩ (fun i σ H' _ ⟨e, _⟩ => by rw [e]; exact SqT.of ht) ?_ ?_⟩
    · rintro i x σ H1 hx ⟨rfl, b, y3, rfl, hb⟩
      obtain ⟨r, hri, rfl⟩ := map_int_at hx
      have hr' := hR.b r (List.mem_of_getElem? hri)
      have hbr := hb i r (Nat.le_refl _) hri
      refine ⟨_, rfl, _, rfl, _, _, rfl, rfl, _, rfl, _, _, _, rfl, _, rfl, ?_⟩
      rw [decide_eq_true (show b + 1 ≤ r by omega), decide_eq_true hr'.2]
      refine iteF ⟨_, rfl, rfl, r, _, rfl, fun j q hj hq => ?_⟩
      obtain ⟨hi1, e1⟩ := List.getElem?_eq_some_iff.mp hri
      obtain ⟨hj1, e2⟩ := List.getElem?_eq_some_iff.mp hq
      rw [← e1, ← e2]
      exact List.pairwise_iff_getElem.mp hR.up i j hi1 hj1 (by omega)
    · rintro σ H1 ⟨rfl, b, y3, rfl, _⟩
      exact k
def spKept (C : Addr) : Sp := fun vs H Q _ => ∃ (v u : V) (row rks : List Int), vs = [v, u] ∧ WayV H v row ∧ WayV H u rks ∧ 1 ≤ row.length ∧ row.length ≤ 40 ∧ (∀ x ∈ row, -10 ^ 30 ≤ x ∧ x ≤ 10 ^ 30) ∧ RksOk row.length rks ∧
  ∀ H' p s, Same H H' → H p = none → s.Perm row → s.Pairwise (· ≤ ·) → Valid row.length (keptE s rks) → SumV C H' (.ref p) row.length (keptE s rks) → Q (.ref p) H'
theorem sc_kept_from : FnScope ["row", "ranks", "ascending", "number", "rank"] ["row", "ranks"] (defScope s_kept_from) := ⟨rfl, rfl, rfl, by decide +kernel, rfl, by decide +kernel, by decide +kernel⟩
set_option maxHeartbeats 8000000 in
theorem ok_kept_from {f : Addr} {fd : FuncData} (F : Fun K "kept_from" "kept_from" s_kept_from f fd) (T : SumT K mg C) (DCR : Dn P w K mg base "_check_row" ["row"] 3 spCkRow) (DV : Dn P w K mg base "is_value" ["thing"] 3 spIsValue)
    (DCK : Dn P w K mg base "_check_ranks" ["many", "ranks"] 3 spCkRanks) (DS : DnMk P w K mg base C) (ml : mg "len" = none) (mall : mg "all" = none) (mso : mg "sorted" = none) (mt : mg "tuple" = none) : FnOk P w K mg base CX0 8 f fd ["row", "ranks"] (spKept C) := by
  refine F.ok sc_kept_from (fun vs H Q E h => ?_) (fun cdv A outer s H vs Q E hr h => ?_)
  · obtain ⟨v, u, row, rks, rfl, _⟩ := h
    rfl
  · obtain ⟨v, u, row, rks, rfl, hw, hu, l1, l40, hb, hR, k⟩ := h
    have nd := sc_kept_from.nd
    have hr3 : Room 3 _ := hr.mono (by decide)
    have hr7 : Room 7 _ := hr.mono (by decide)
    refine ⟨_, pss_cons (ps_expr (pe_dn DCR hr3 (pa_cons (pv 0) pa_nil)))
      (pss_cons (ps_if (pt_not (pt_val (pe_callB (cr_all rfl) (by rfl) mall (by decide +kernel) (pa_cons (pe_lc (own := [("number", 3)]) (g := gName 3) (tt := tYes) (te := tCall spIsValue [] E0 (tCons (tVar 3) tNil)) rfl nd (pi_tup (pv 0))
          (blkOk_by (own := [("number", 3)]) (N := ["row", "ranks", "ascending", "number", "rank"]) (sc := defScope s_kept_from) (by decide +kernel)) (fun _ _ _ _ _ => pg_name (i := 3) nd rfl (Or.inl rfl)) (fun _ _ _ _ _ => pts_nil) (fun _ _ _ _ _ => pe_dn DV hr3 (pa_cons (pv 3) pa_nil))) pa_nil)))) (pss_one ps_never) pss_nil)
      (pss_cons (ps_expr (pe_dn DCK hr3 (pa_cons (pe_callB call_len_seq (by rfl) ml PySem.boot_len (pa_cons (pv 0) pa_nil)) (pa_cons (pv 1) pa_nil))))
      (pss_cons (ps_set (i := 2) nd rfl (Or.inr rfl) (pe_callB cr_sortedT (by rfl) mso (by decide +kernel) (pa_cons (pv 0) pa_nil)))
      (pss_one (ps_ret (pe_mkS DS T hr7 (pa_cons (pe_callB call_len_seq (by rfl) ml PySem.boot_len (pa_cons (pv 0) pa_nil)) (pa_cons (pe_callTy call_tupK (by rfl) mt (by decide +kernel) (pa_cons
        (pe_lc (own := [("rank", 4)]) (g := gName 4) (tt := tYes) (te := tTup (tCons (tOp (rIxL K) (tVar 2) (tOp (rI0 fun i j => .int (i - j)) (tVar 4) (tC (.int 1)))) (tCons (tVar 4) (tCons (tVar 4) tNil)))) rfl nd (pi_tup (pv 1))
          (blkOk_by (own := [("rank", 4)]) (N := ["row", "ranks", "ascending", "number", "rank"]) (sc := defScope s_kept_from) (by decide +kernel)) (fun _ _ _ _ _ => pg_name (i := 4) nd rfl (Or.inl rfl)) (fun _ _ _ _ _ => pts_nil)
          (fun _ _ _ _ _ => pe_tup (pa_cons (pe_ix ix_list (pv 2) (pe_op op_sub (pv 4) pe_int) (fun _ _ => rfl)) (pa_cons (pv 4) (pa_cons (pv 4) pa_nil))))) pa_nil)) pa_nil)))))))), ?_⟩
    refine ⟨_, rfl, v, row, rfl, hw, l1, l40, fun H1 s1 => ?_⟩
    obtain ⟨t, rfl, ht⟩ := hw
    obtain ⟨tu, rfl, htu⟩ := hu
    have ht1 := s1 _ _ ht
    -- all values
    refine ⟨_, rfl, t, rfl, ⟨_, SqT.of ht1⟩, fun D nD => ?_⟩
    refine lc_tup (K := K) (a := t) (xs := row.map V.int) (fun i H' => H' D = some (.lst ((List.replicate i true).map V.bl)) ∧ Same H1 H') ⟨upd_same, Same_new nD⟩ (fun i H' _ ⟨_, s5⟩ => SqT.of (s5 _ _ ht1)) ?_ ?_
    · rintro i x H' hx ⟨hD, s5⟩
      obtain ⟨z, hz, rfl⟩ := map_int_at hx
      have hil : i < row.length := (List.getElem?_eq_some_iff.mp hz).1
      have hzb := hb z (List.mem_of_getElem? hz)
      refine ⟨rfl, tyes_of ?_⟩
      rw [if_pos rfl]
      refine ⟨_, rfl, z, rfl, ?_⟩
      rw [decide_eq_true hzb.1, decide_eq_true hzb.2]
      refine ⟨_, hD, ?_, ?_, Same_mut s5 nD⟩
      · rw [List.length_map, List.length_replicate]
        exact small1000 (by omega)
      · rw [upd_same, List.replicate_succ', List.map_append]
        rfl
    rintro H2 ⟨hD2, s2⟩
    refine ⟨D, _, rfl, SqL.of hD2, _, rfl, ?_⟩
    rw [show (List.replicate (row.map V.int).length true).all id = true by rw [List.all_replicate]; simp]
    refine iteF ?_
    have ht2 := s2 _ _ ht1
    have htu2 := s2 _ _ (s1 _ _ htu)
    refine ⟨_, rfl, t, _, rfl, .inr (SqT.of ht2), _, rfl, ((row.map V.int).length : Int), .ref tu, rks, rfl, ⟨tu, rfl, htu2⟩, by rw [List.length_map]; exact hR, ?_⟩
    refine ⟨_, rfl, t, row, rfl, SqT.of ht2, fun ns q perm asc nq => ?_⟩
    have tq := Same_new (o := .lst (ns.map V.int)) nq
    have pl := perm.length_eq
    have s12 := s1.trans s2
    refine ⟨_, rfl, t, _, rfl, .inr (SqT.of (tq _ _ ht2)), ?_⟩
    refine ⟨_, rfl, tu, rfl, ⟨_, SqT.of (tq _ _ htu2)⟩, fun D3 nD3 => ?_⟩
    refine lc_tup (K := K) (a := tu) (xs := rks.map V.int) (fun i H' => ∃ us, H' D3 = some (.lst us) ∧ EntsV H' us ((keptE ns rks).take i) ∧ Same (upd H2 q (.lst (ns.map V.int))) H') ⟨[], upd_same, .nil, Same_new nD3⟩ (fun i H' _ ⟨_, _, _, s5⟩ => SqT.of (s5 _ _ (tq _ _ htu2))) ?_ ?_
    · rintro i x H' hx ⟨us, hD, hus, s5⟩
      obtain ⟨r, hri, rfl⟩ := map_int_at hx
      have hil : i < rks.length := (List.getElem?_eq_some_iff.mp hri).1
      have hr' := hR.b r (List.mem_of_getElem? hri)
      have h12 := hR.l
      refine ⟨rfl, tyes_of ?_⟩
      rw [if_pos rfl]
      refine ⟨_, rfl, _, rfl, _, _, rfl, rfl, q, _, _, _, rfl, rfl, SqL.of (s5 _ _ upd_same), at_of (j := (r - 1).toNat) (by omega) (rat_get hr'.1 (by omega)), _, rfl, _, rfl, (by show 3 ≤ sizeLine; decide), fun z nz => ?_⟩
      have tz := Same_new (o := .tup [.int (rat ns r), .int r, .int r]) nz
      refine ⟨us, tz _ _ hD, ?_, us ++ [.ref z], upd_same, ?_, Same_mut (s5.trans tz) nD3⟩
      · rw [hus.len, List.length_take]
        exact small1000 (by omega)
      · rw [List.take_add_one, keptE_at hri]
        have hDz := tz _ _ hD
        refine pr_app (Paired.mapP hus fun v e' ⟨t', ev, et⟩ => ⟨t', ev, ?_⟩) (.cons ⟨z, rfl, ?_⟩ .nil)
        · rw [upd_ne (ne_of (tz _ _ et) hDz (by intro z; cases z))]
          exact tz _ _ et
        · rw [upd_ne (ne_of (show upd H' z (.tup [.int (rat ns r), .int r, .int r]) z = _ from upd_same) hDz (by intro z; cases z)), upd_same]
    · rintro H5 ⟨us, hD5, hus, s5⟩
      rw [List.length_map, List.take_of_length_le (by rw [keptE_len]; exact Nat.le_refl _)] at hus
      refine ⟨D3, _, rfl, .inl ⟨SqL.of hD5, fun r nr => ?_⟩⟩
      have s8 := Same_new (o := .tup us) nr
      have hval : Valid ((row.map V.int).length : Int) (keptE ns rks) := by
        rw [List.length_map]
        refine keptE_valid hR (by omega) (by omega) (by omega) asc fun x hx => hb x (perm.mem_iff.mp hx)
      exact sum_made ⟨r, us, rfl, upd_same, hus.mono s8⟩ hval fun x H9 nx s9 hs9 => by
        rw [List.length_map] at hval hs9
        have st := ((s12.trans tq).trans s5).trans s8
        exact k H9 x ns (st.trans s9) (st.free nx) perm asc hval hs9
end
end SR

set_option Elab.async false
set_option linter.all false
set_option maxRecDepth 100000
set_option maxHeartbeats 4000000
namespace SR
open PySem PySem.Spec PyProof.Rows L2
section
variable {P : Program} {w : World} {K : PySem.W.Frag} {mg : Str → Option Value} {base : Heap} {C N fI : Addr}
def spInt : Sp := fun vs H Q _ => ∃ i : Int, vs = [.int i] ∧ Q .non H
theorem sc__check_value : FnScope ["value"] ["value"] (defScope s__check_value) := ⟨rfl, rfl, rfl, by decide +kernel, rfl, by decide +kernel, by decide +kernel⟩
theorem ok__check_value {f : Addr} {fd : FuncData} (F : Fun K "_check_value" "_check_value" s__check_value f fd) (D1 : Dn P w K mg base "is_integer" ["value"] 1 spIsInt) : FnOk P w K mg base CX0 2 f fd ["value"] spInt := by
  refine F.ok sc__check_value (fun vs H Q E h => ?_) (fun cdv A outer s H vs Q E hr h => ?_)
  · obtain ⟨i, rfl, _⟩ := h
    rfl
  · obtain ⟨i, rfl, k⟩ := h
    have hr1 : Room 1 _ := hr.mono (by decide)
    refine ⟨_, pss_one (ps_if (pt_not (pt_val (pe_dn D1 hr1 (pa_cons (pv 0) pa_nil)))) (pss_one ps_never) pss_nil), ?_⟩
    exact ⟨_, rfl, _, rfl, _, rfl, iteF k⟩
def spBel (C : Addr) : Sp := fun vs H Q _ => ∃ (v : V) (n z : Int) (es : List Ent), vs = [v, .int z] ∧ SumV C H v n es ∧ es.length ≤ 12 ∧
  ∀ H' p x y, Same H H' → H' p = some (.tup [x, y]) → OptMax (pick (fun e => decide (e.1 < z)) (fun e => e.2.1) es) (.int 0) x → OptMin (pick (fun e => decide (z ≤ e.1)) (fun e => e.2.2 - 1) es) (.int n) y → Q (.ref p) H'
theorem sc__many_below : FnScope ["tight", "value", "least", "greatest", "kept", "low", "_", "high"] ["tight", "value"] (defScope s__many_below) := ⟨rfl, rfl, rfl, by decide +kernel, rfl, by decide +kernel, by decide +kernel⟩
theorem ok__many_below {f : Addr} {fd : FuncData} (F : Fun K "_many_below" "_many_below" s__many_below f fd) (T : SumT K mg C) (DE : Pr P w K mg base C "entries" 1 (getSp C "_entries")) (DM : Pr P w K mg base C "many" 1 (getSp C "_many")) (mmax : mg "max" = none) (mmin : mg "min" = none) :
    FnOk P w K mg base CX0 3 f fd ["tight", "value"] (spBel C) := by
  refine F.ok sc__many_below (fun vs H Q E h => ?_) (fun cdv A outer s H vs Q E hr h => ?_)
  · obtain ⟨v, n, z, es, rfl, _⟩ := h
    rfl
  · obtain ⟨v, n, z, es, rfl, ⟨p, dx, u, rfl, hp, a, vs, rfl, ha, he⟩, h12, k⟩ := h
    have nd := sc__many_below.nd
    have hr2 : Room 2 _ := hr.mono (by decide)
    have hl : vs.length = es.length := he.len
    refine ⟨_, pss_cons (ps_set (i := 2) nd rfl (Or.inl rfl) (pe_callBK (cr_maxD rfl) (by rfl) mmax (by decide +kernel) (pa_cons (pe_lc (own := [("kept", 4), ("low", 5), ("_", 6)]) (g := gTup K 3 (gCons (gName 4) (gCons (gName 5) (gCons (gName 6) gNil)))) (tt := tTest (tOp (rI0 fun i j => .bl (decide (i < j))) (tVar 4) (tVar 1))) (te := tVar 5)
          rfl nd (pi_tup (pe_pr DE T.ic.cl hr2 (pv 0))) (blkOk_by (own := [("kept", 4), ("low", 5), ("_", 6)]) (N := ["tight", "value", "least", "greatest", "kept", "low", "_", "high"]) (sc := defScope s__many_below) (by decide +kernel))
          (fun _ _ _ _ _ => pg_tup rfl (pgs_cons (pg_name (i := 4) nd rfl (Or.inl rfl)) (pgs_cons (pg_name (i := 5) nd rfl (Or.inl rfl)) (pgs_cons (pg_name (i := 6) nd rfl (Or.inl rfl)) pgs_nil)))) (fun _ _ _ _ _ => pts_one (pt_cmpR op_lt (pv 4) (pv 1) (nomark _))) (fun _ _ _ _ _ => pv 5)) pa_nil) (pk_cons pe_int pk_nil)))
      (pss_cons (ps_set (i := 3) nd rfl (Or.inl rfl) (pe_callBK (cr_minD rfl) (by rfl) mmin (by decide +kernel) (pa_cons (pe_lc (own := [("kept", 4), ("_", 6), ("high", 7)]) (g := gTup K 3 (gCons (gName 4) (gCons (gName 6) (gCons (gName 7) gNil)))) (tt := tTest (tOp (rI0 fun i j => .bl (decide (j ≤ i))) (tVar 4) (tVar 1))) (te := tOp (rI0 fun i j => .int (i - j)) (tVar 7) (tC (.int 1)))
          rfl nd (pi_tup (pe_pr DE T.ic.cl hr2 (pv 0))) (blkOk_by (own := [("kept", 4), ("_", 6), ("high", 7)]) (N := ["tight", "value", "least", "greatest", "kept", "low", "_", "high"]) (sc := defScope s__many_below) (by decide +kernel))
          (fun _ _ _ _ _ => pg_tup rfl (pgs_cons (pg_name (i := 4) nd rfl (Or.inl rfl)) (pgs_cons (pg_name (i := 6) nd rfl (Or.inl rfl)) (pgs_cons (pg_name (i := 7) nd rfl (Or.inl rfl)) pgs_nil)))) (fun _ _ _ _ _ => pts_one (pt_cmpR op_ge (pv 4) (pv 1) (nomark _))) (fun _ _ _ _ _ => pe_op op_sub (pv 7) pe_int)) pa_nil) (pk_cons (pe_pr DM T.ic.cl hr2 (pv 0)) pk_nil)))
      (pss_one (ps_ret (pe_tup (pa_cons (pv 2) (pa_cons (pv 3) pa_nil)))))), ?_⟩
    -- least
    refine ⟨_, rfl, p, dx, _, rfl, hp, p, dx, _, _, rfl, hp, sfl_entries _ _, a, rfl, ⟨_, SqT.of ha⟩, fun D1 nD1 => ?_⟩
    refine lc_tup (K := K) (a := a) (xs := vs) (fun i H' => H' D1 = some (.lst ((pick (fun e => decide (e.1 < z)) (fun e => e.2.1) (es.take i)).map V.int)) ∧ Same H H') ⟨upd_same, Same_new nD1⟩ (fun i H' _ ⟨_, s5⟩ => SqT.of (s5 _ _ ha)) ?_ ?_
    · rintro i x H' hx ⟨hD, s5⟩
      obtain ⟨e, hei, t, rfl, ht⟩ := pr_at' he hx
      have hil : i < es.length := (List.getElem?_eq_some_iff.mp hei).1
      refine ⟨t, _, rfl, SqT.of (s5 _ _ ht), rfl, _, _, rfl, _, _, rfl, _, _, rfl, rfl, rfl, ?_⟩
      refine ⟨_, rfl, _, rfl, _, _, rfl, rfl, _, rfl, ?_⟩
      have pm := pick_more (p := fun e => decide (e.1 < z)) (f := fun e => e.2.1) hei
      refine ite2 (fun c => ?_) (fun c => ?_)
      · refine ⟨_, rfl, _, hD, ?_, ?_, Same_mut s5 nD1⟩
        · have := pick_len (p := fun e => decide (e.1 < z)) (f := fun e => e.2.1) (es := es.take i)
          rw [List.length_take] at this
          rw [List.length_map]
          exact small1000 (by omega)
        · rw [upd_same, pm, if_pos c, List.map_append]; rfl
      · rw [pm, if_neg c, List.append_nil]
        exact ⟨hD, s5⟩
    rintro H1 ⟨hD1, s1⟩
    rw [hl, List.take_length] at hD1
    have hp1 := s1 _ _ hp
    refine ⟨D1, _, .int 0, rfl, rfl, SqL.of hD1, fun x1 o1 => ?_⟩
    -- greatest
    refine ⟨_, rfl, p, dx, _, rfl, hp1, p, dx, _, _, rfl, hp1, sfl_entries _ _, a, rfl, ⟨_, SqT.of (s1 _ _ ha)⟩, fun D2 nD2 => ?_⟩
    refine lc_tup (K := K) (a := a) (xs := vs) (fun i H' => H' D2 = some (.lst ((pick (fun e => decide (z ≤ e.1)) (fun e => e.2.2 - 1) (es.take i)).map V.int)) ∧ Same H1 H') ⟨upd_same, Same_new nD2⟩ (fun i H' _ ⟨_, s5⟩ => SqT.of (s5 _ _ (s1 _ _ ha))) ?_ ?_
    · rintro i x H' hx ⟨hD, s5⟩
      obtain ⟨e, hei, t, rfl, ht⟩ := pr_at' he hx
      have hil : i < es.length := (List.getElem?_eq_some_iff.mp hei).1
      refine ⟨t, _, rfl, SqT.of (s5 _ _ (s1 _ _ ht)), rfl, _, _, rfl, _, _, rfl, _, _, rfl, rfl, rfl, ?_⟩
      refine ⟨_, rfl, _, rfl, _, _, rfl, rfl, _, rfl, ?_⟩
      have pm := pick_more (p := fun e => decide (z ≤ e.1)) (f := fun e => e.2.2 - 1) hei
      refine ite2 (fun c => ?_) (fun c => ?_)
      · refine ⟨_, rfl, _, _, rfl, rfl, _, hD, ?_, ?_, Same_mut s5 nD2⟩
        · have := pick_len (p := fun e => decide (z ≤ e.1)) (f := fun e => e.2.2 - 1) (es := es.take i)
          rw [List.length_take] at this
          rw [List.length_map]
          exact small1000 (by omega)
        · rw [upd_same, pm, if_pos c, List.map_append]; rfl
      · rw [pm, if_neg c, List.append_nil]
        exact ⟨hD, s5⟩
    rintro H2 ⟨hD2, s2⟩
    rw [hl, List.take_length] at hD2
    have hp2 := s2 _ _ hp1
    refine ⟨_, rfl, p, dx, _, rfl, hp2, p, dx, _, _, rfl, hp2, sfl_many _ _, D2, _, .int n, rfl, rfl, SqL.of hD2, fun x2 o2 => ?_⟩
    refine ⟨_, rfl, _, rfl, (by show 2 ≤ sizeLine; decide), fun r nr => ?_⟩
    exact k _ r x1 x2 (Same_new2 (s1.trans s2) nr) upd_same o1 o2
end
end SR

set_option Elab.async false
set_option linter.all false
set_option maxRecDepth 100000
set_option maxHeartbeats 4000000
namespace SR
open PySem PySem.Spec PyProof.Rows L2
section
variable {P : Program} {w : World} {K : PySem.W.Frag} {mg : Str → Option Value} {base : Heap} {C N fI : Addr}
def spBelow (C : Addr) (d : Int) : Sp := fun vs H Q _ => ∃ (v : V) (n z : Int) (es : List Ent), vs = [v, .int z] ∧ SumV C H v n es ∧ Valid n es ∧ Fits n es ∧
  ∀ H' p x y, Same H H' → H' p = some (.tup [x, y]) → OptMax (pick (fun e => decide (e.1 < z + d)) (fun e => e.2.1) (tightL n es)) (.int 0) x → OptMin (pick (fun e => decide (z + d ≤ e.1)) (fun e => e.2.2 - 1) (tightL n es)) (.int n) y → Q (.ref p) H'
theorem sc_below : FnScope ["summary", "value", "tight"] ["summary", "value"] (defScope s_below) := ⟨rfl, rfl, rfl, by decide +kernel, rfl, by decide +kernel, by decide +kernel⟩
theorem ok_below {f : Addr} {fd : FuncData} (F : Fun K "below" "below" s_below f fd) (DS : DnX P w K mg base "surely_tightened" ["summary"] 9 (spSure C N)) (DC : Dn P w K mg base "_check_value" ["value"] 2 spInt) (DB : Dn P w K mg base "_many_below" ["tight", "value"] 3 (spBel C)) :
    FnOk P w K mg base CX0 10 f fd ["summary", "value"] (spBelow C 0) := by
  refine F.ok sc_below (fun vs H Q E h => ?_) (fun cdv A outer s H vs Q E hr h => ?_)
  · obtain ⟨v, n, z, es, rfl, _⟩ := h
    rfl
  · obtain ⟨v, n, z, es, rfl, hS, hv, hF, k⟩ := h
    have nd := sc_below.nd
    have hr8 : Room 9 _ := hr.mono (by decide)
    have hr3 : Room 3 _ := hr.mono (by decide)
    have hr2 : Room 2 _ := hr.mono (by decide)
    refine ⟨_, pss_cons (ps_set (i := 2) nd rfl (Or.inl rfl) (pe_dn0 DS hr8 (pa_cons (pv 0) pa_nil))) (pss_cons (ps_expr (pe_dn DC hr2 (pa_cons (pv 1) pa_nil))) (pss_one (ps_ret (pe_dn DB hr3 (pa_cons (pv 2) (pa_cons (pv 1) pa_nil)))))), ?_⟩
    refine ⟨_, rfl, v, n, es, rfl, hS, hv, fun hf => absurd hF hf, fun _ H1 p s1 hs1 => ?_⟩
    refine ⟨_, rfl, z, rfl, ?_⟩
    refine ⟨_, rfl, _, rfl, _, n, z, _, rfl, hs1, by rw [tight_len]; exact hv.len, fun H' q x y s' hq ox oy => ?_⟩
    rw [Int.add_zero] at k
    exact k H' q x y (s1.trans s') hq ox oy
theorem sc_up_to : FnScope ["summary", "value", "tight"] ["summary", "value"] (defScope s_up_to) := ⟨rfl, rfl, rfl, by decide +kernel, rfl, by decide +kernel, by decide +kernel⟩
theorem ok_up_to {f : Addr} {fd : FuncData} (F : Fun K "up_to" "up_to" s_up_to f fd) (DS : DnX P w K mg base "surely_tightened" ["summary"] 9 (spSure C N)) (DC : Dn P w K mg base "_check_value" ["value"] 2 spInt) (DB : Dn P w K mg base "_many_below" ["tight", "value"] 3 (spBel C)) :
    FnOk P w K mg base CX0 10 f fd ["summary", "value"] (spBelow C 1) := by
  refine F.ok sc_up_to (fun vs H Q E h => ?_) (fun cdv A outer s H vs Q E hr h => ?_)
  · obtain ⟨v, n, z, es, rfl, _⟩ := h
    rfl
  · obtain ⟨v, n, z, es, rfl, hS, hv, hF, k⟩ := h
    have nd := sc_up_to.nd
    have hr8 : Room 9 _ := hr.mono (by decide)
    have hr3 : Room 3 _ := hr.mono (by decide)
    have hr2 : Room 2 _ := hr.mono (by decide)
    refine ⟨_, pss_cons (ps_set (i := 2) nd rfl (Or.inl rfl) (pe_dn0 DS hr8 (pa_cons (pv 0) pa_nil))) (pss_cons (ps_expr (pe_dn DC hr2 (pa_cons (pv 1) pa_nil))) (pss_one (ps_ret (pe_dn DB hr3 (pa_cons (pv 2) (pa_cons (pe_op op_add (pv 1) pe_int) pa_nil)))))), ?_⟩
    refine ⟨_, rfl, v, n, es, rfl, hS, hv, fun hf => absurd hF hf, fun _ H1 p s1 hs1 => ?_⟩
    refine ⟨_, rfl, z, rfl, ?_⟩
    refine ⟨_, rfl, _, rfl, _, _, rfl, rfl, _, n, z + 1, _, rfl, hs1, by rw [tight_len]; exact hv.len, fun H' q x y s' hq ox oy => ?_⟩
    exact k H' q x y (s1.trans s') hq ox oy
end
end SR

set_option Elab.async false
set_option linter.all false
set_option maxRecDepth 100000
set_option maxHeartbeats 4000000
namespace SR
open PySem PySem.Spec PyProof.Rows L2
section
variable {P : Program} {w : World} {K : PySem.W.Frag} {mg : Str → Option Value} {base : Heap} {C N fI : Addr}
def spValues (C : Addr) : Sp := fun vs H Q _ => ∃ (v : V) (n r : Int) (es : List Ent), vs = [v, .int r] ∧ SumV C H v n es ∧ Valid n es ∧ Fits n es ∧ 1 ≤ r ∧ r ≤ n ∧
  ∀ H' p x y, Same H H' → H' p = some (.tup [x, y]) → OptMax (pick (fun e => decide (e.2.2 ≤ r)) (fun e => e.1) (tightL n es)) .non x → OptMin (pick (fun e => decide (r ≤ e.2.1)) (fun e => e.1) (tightL n es)) .non y → Q (.ref p) H'
theorem sc_values_at : FnScope ["summary", "rank", "tight", "least", "greatest", "value", "_", "high", "low"] ["summary", "rank"] (defScope s_values_at) := ⟨rfl, rfl, rfl, by decide +kernel, rfl, by decide +kernel, by decide +kernel⟩
theorem ok_values_at {f : Addr} {fd : FuncData} (F : Fun K "values_at" "values_at" s_values_at f fd) (T : SumT K mg C) (DE : Pr P w K mg base C "entries" 1 (getSp C "_entries")) (DS : DnX P w K mg base "surely_tightened" ["summary"] 9 (spSure C N)) (DM : Pr P w K mg base C "many" 1 (getSp C "_many")) (DC : Dn P w K mg base "check_rank" ["many", "rank"] 3 spRank) (mmax : mg "max" = none) (mmin : mg "min" = none) :
    FnOk P w K mg base CX0 10 f fd ["summary", "rank"] (spValues C) := by
  refine F.ok sc_values_at (fun vs H Q E h => ?_) (fun cdv A outer s H vs Q E hr h => ?_)
  · obtain ⟨v, n, r, es, rfl, _⟩ := h
    rfl
  · obtain ⟨v, n, r, es, rfl, hS, hv, hF, r1, r2, k⟩ := h
    have nd := sc_values_at.nd
    have hr8 : Room 9 _ := hr.mono (by decide)
    have hr3 : Room 3 _ := hr.mono (by decide)
    have hr2 : Room 2 _ := hr.mono (by decide)
    refine ⟨_, pss_cons (ps_set (i := 2) nd rfl (Or.inl rfl) (pe_dn0 DS hr8 (pa_cons (pv 0) pa_nil)))
      (pss_cons (ps_expr (pe_dn DC hr3 (pa_cons (pe_pr DM T.ic.cl hr2 (pv 2)) (pa_cons (pv 1) pa_nil))))
      (pss_cons (ps_set (i := 3) nd rfl (Or.inl rfl) (pe_callBK (cr_maxD rfl) (by rfl) mmax (by decide +kernel) (pa_cons (pe_lc (own := [("value", 5), ("_", 6), ("high", 7)]) (g := gTup K 3 (gCons (gName 5) (gCons (gName 6) (gCons (gName 7) gNil)))) (tt := tTest (tOp (rI0 fun i j => .bl (decide (i ≤ j))) (tVar 7) (tVar 1))) (te := tVar 5)
          rfl nd (pi_tup (pe_pr DE T.ic.cl hr2 (pv 2))) (blkOk_by (own := [("value", 5), ("_", 6), ("high", 7)]) (N := ["summary", "rank", "tight", "least", "greatest", "value", "_", "high", "low"]) (sc := defScope s_values_at) (by decide +kernel))
          (fun _ _ _ _ _ => pg_tup rfl (pgs_cons (pg_name (i := 5) nd rfl (Or.inl rfl)) (pgs_cons (pg_name (i := 6) nd rfl (Or.inl rfl)) (pgs_cons (pg_name (i := 7) nd rfl (Or.inl rfl)) pgs_nil)))) (fun _ _ _ _ _ => pts_one (pt_cmpR op_le (pv 7) (pv 1) (nomark _))) (fun _ _ _ _ _ => pv 5)) pa_nil) (pk_cons pe_non pk_nil)))
      (pss_cons (ps_set (i := 4) nd rfl (Or.inl rfl) (pe_callBK (cr_minD rfl) (by rfl) mmin (by decide +kernel) (pa_cons (pe_lc (own := [("value", 5), ("low", 8), ("_", 6)]) (g := gTup K 3 (gCons (gName 5) (gCons (gName 8) (gCons (gName 6) gNil)))) (tt := tTest (tOp (rI0 fun i j => .bl (decide (j ≤ i))) (tVar 8) (tVar 1))) (te := tVar 5)
          rfl nd (pi_tup (pe_pr DE T.ic.cl hr2 (pv 2))) (blkOk_by (own := [("value", 5), ("low", 8), ("_", 6)]) (N := ["summary", "rank", "tight", "least", "greatest", "value", "_", "high", "low"]) (sc := defScope s_values_at) (by decide +kernel))
          (fun _ _ _ _ _ => pg_tup rfl (pgs_cons (pg_name (i := 5) nd rfl (Or.inl rfl)) (pgs_cons (pg_name (i := 8) nd rfl (Or.inl rfl)) (pgs_cons (pg_name (i := 6) nd rfl (Or.inl rfl)) pgs_nil)))) (fun _ _ _ _ _ => pts_one (pt_cmpR op_ge (pv 8) (pv 1) (nomark _))) (fun _ _ _ _ _ => pv 5)) pa_nil) (pk_cons pe_non pk_nil)))
      (pss_one (ps_ret (pe_tup (pa_cons (pv 3) (pa_cons (pv 4) pa_nil)))))))), ?_⟩
    refine ⟨_, rfl, v, n, es, rfl, hS, hv, fun hf => absurd hF hf, fun _ H0 pt s0 hs0 => ?_⟩
    obtain ⟨p, dx, u, e, hp, a, vs, rfl, ha, he⟩ := id hs0
    cases e
    refine ⟨_, rfl, pt, dx, _, rfl, hp, pt, dx, _, _, rfl, hp, sfl_many _ _, _, rfl, n, r, rfl, r1, r2, ?_⟩
    have h12 : (tightL n es).length ≤ 12 := by rw [tight_len]; exact hv.len
    obtain ⟨ts, hts⟩ : ∃ ts, ts = tightL n es := ⟨_, rfl⟩
    rw [← hts] at he h12 k
    have hl : vs.length = ts.length := he.len
    refine ⟨_, rfl, pt, dx, _, rfl, hp, pt, dx, _, _, rfl, hp, sfl_entries _ _, a, rfl, ⟨_, SqT.of ha⟩, fun D1 nD1 => ?_⟩
    refine lc_tup (K := K) (a := a) (xs := vs) (fun i H' => H' D1 = some (.lst ((pick (fun e => decide (e.2.2 ≤ r)) (fun e => e.1) (ts.take i)).map V.int)) ∧ Same H0 H') ⟨upd_same, Same_new nD1⟩ (fun i H' _ ⟨_, s5⟩ => SqT.of (s5 _ _ ha)) ?_ ?_
    · rintro i x H' hx ⟨hD, s5⟩
      obtain ⟨e, hei, t, rfl, ht⟩ := pr_at' he hx
      have hil : i < ts.length := (List.getElem?_eq_some_iff.mp hei).1
      refine ⟨t, _, rfl, SqT.of (s5 _ _ ht), rfl, _, _, rfl, _, _, rfl, _, _, rfl, rfl, rfl, ?_⟩
      refine ⟨_, rfl, _, rfl, _, _, rfl, rfl, _, rfl, ?_⟩
      have pm := pick_more (p := fun e => decide (e.2.2 ≤ r)) (f := fun e => e.1) hei
      refine ite2 (fun c => ?_) (fun c => ?_)
      · refine ⟨_, rfl, _, hD, ?_, ?_, Same_mut s5 nD1⟩
        · have := pick_len (p := fun e => decide (e.2.2 ≤ r)) (f := fun e => e.1) (es := ts.take i)
          rw [List.length_take] at this
          rw [List.length_map]
          exact small1000 (by omega)
        · rw [upd_same, pm, if_pos c, List.map_append]; rfl
      · rw [pm, if_neg c, List.append_nil]
        exact ⟨hD, s5⟩
    rintro H1 ⟨hD1, s1⟩
    rw [hl, List.take_length] at hD1
    have hp1 := s1 _ _ hp
    refine ⟨D1, _, .non, rfl, rfl, SqL.of hD1, fun x1 o1 => ?_⟩
    refine ⟨_, rfl, pt, dx, _, rfl, hp1, pt, dx, _, _, rfl, hp1, sfl_entries _ _, a, rfl, ⟨_, SqT.of (s1 _ _ ha)⟩, fun D2 nD2 => ?_⟩
    refine lc_tup (K := K) (a := a) (xs := vs) (fun i H' => H' D2 = some (.lst ((pick (fun e => decide (r ≤ e.2.1)) (fun e => e.1) (ts.take i)).map V.int)) ∧ Same H1 H') ⟨upd_same, Same_new nD2⟩ (fun i H' _ ⟨_, s5⟩ => SqT.of (s5 _ _ (s1 _ _ ha))) ?_ ?_
    · rintro i x H' hx ⟨hD, s5⟩
      obtain ⟨e, hei, t, rfl, ht⟩ := pr_at' he hx
      have hil : i < ts.length := (List.getElem?_eq_some_iff.mp hei).1
      refine ⟨t, _, rfl, SqT.of (s5 _ _ (s1 _ _ ht)), rfl, _, _, rfl, _, _, rfl, _, _, rfl, rfl, rfl, ?_⟩
      refine ⟨_, rfl, _, rfl, _, _, rfl, rfl, _, rfl, ?_⟩
      have pm := pick_more (p := fun e => decide (r ≤ e.2.1)) (f := fun e => e.1) hei
      refine ite2 (fun c => ?_) (fun c => ?_)
      · refine ⟨_, rfl, _, hD, ?_, ?_, Same_mut s5 nD2⟩
        · have := pick_len (p := fun e => decide (r ≤ e.2.1)) (f := fun e => e.1) (es := ts.take i)
          rw [List.length_take] at this
          rw [List.length_map]
          exact small1000 (by omega)
        · rw [upd_same, pm, if_pos c, List.map_append]; rfl
      · rw [pm, if_neg c, List.append_nil]
        exact ⟨hD, s5⟩
    rintro H2 ⟨hD2, s2⟩
    rw [hl, List.take_length] at hD2
    refine ⟨D2, _, .non, rfl, rfl, SqL.of hD2, fun x2 o2 => ?_⟩
    refine ⟨_, rfl, _, rfl, (by show 2 ≤ sizeLine; decide), fun q nq => ?_⟩
    exact k _ q x1 x2 (Same_new2 ((s0.trans s1).trans s2) nq) upd_same o1 o2
end
end SR

set_option Elab.async false
set_option linter.all false
set_option maxRecDepth 100000
set_option maxHeartbeats 4000000
/-! Plain mathematics of the fewest entries: ranks covered, lots of entries in their order. -/
namespace SR
open PySem PySem.Spec PyProof.Rows L2
open CB (cmb mem_cmb)
/-- the entry at index j answers rank r with an error of at most e -/
def Cov (ts : List Ent) (e r : Int) (j : Nat) : Prop := hi ts j - e ≤ r ∧ r ≤ lo ts j + e
def keepsW (ts : List Ent) (e n : Int) : List Nat → Int → Bool
  | [], reached => decide (n ≤ reached)
  | j :: r, reached => if hi ts j - e > reached + 1 then false else keepsW ts e n r (max reached (lo ts j + e))
theorem keepsW_iff {ts : List Ent} {e n : Int} (he : 0 ≤ e) (up : ∀ i j, i < j → j < ts.length → hi ts i ≤ hi ts j) (top : ∀ j, j < ts.length → hi ts j ≤ n) : ∀ (idx : List Nat) (reached : Int), idx.Pairwise (· < ·) → (∀ j ∈ idx, j < ts.length) →
    (keepsW ts e n idx reached = true ↔ ∀ r, reached < r → r ≤ n → ∃ j ∈ idx, Cov ts e r j)
  | [], reached, _, _ => by
    unfold keepsW
    rw [decide_eq_true_eq]
    constructor
    · intro h r h1 h2; omega
    · intro h
      by_cases c : n ≤ reached
      · exact c
      · obtain ⟨j, hj, _⟩ := h (reached + 1) (by omega) (by omega)
        cases hj
  | j :: rest, reached, hp, hb => by
    rw [List.pairwise_cons] at hp
    have hj := hb j (List.mem_cons_self ..)
    unfold keepsW
    by_cases c : hi ts j - e > reached + 1
    · rw [if_pos c]
      constructor
      · intro h; cases h
      · intro h
        have := top j hj
        obtain ⟨i, hi', h1, h2⟩ := h (reached + 1) (by omega) (by omega)
        rcases List.mem_cons.mp hi' with e1 | e1
        · subst e1; omega
        · have := up j i (hp.1 i e1) (hb i (List.mem_cons_of_mem _ e1))
          omega
    · rw [if_neg c, keepsW_iff he up top rest _ hp.2 fun i h => hb i (List.mem_cons_of_mem _ h)]
      constructor
      · intro h r h1 h2
        by_cases q : max reached (lo ts j + e) < r
        · obtain ⟨i, hi', h3⟩ := h r q h2
          exact ⟨i, List.mem_cons_of_mem _ hi', h3⟩
        · exact ⟨j, List.mem_cons_self .., by omega, by omega⟩
      · intro h r h1 h2
        obtain ⟨i, hi', h3, h4⟩ := h r (by omega) h2
        rcases List.mem_cons.mp hi' with e1 | e1
        · subst e1; omega
        · exact ⟨i, e1, h3, h4⟩
/-! lots in their order -/
def asI (l : List Nat) : List Int := l.map fun (j : Nat) => (j : Int)
theorem nats_asI (l : List Nat) : CB.nats l = (asI l).map V.int := by
  unfold CB.nats asI
  rw [List.map_map]
  rfl
theorem asI_inj : ∀ {a b : List Nat}, asI a = asI b → a = b
  | [], [], _ => rfl
  | [], _ :: _, h => by cases h
  | _ :: _, [], h => by cases h
  | x :: a, y :: b, h => by
    have h' : ((x : Int) :: asI a) = ((y : Int) :: asI b) := h
    injection h' with h1 h2
    rw [asI_inj h2, show x = y by omega]
def ltLot (a b : List Int) : Prop := a.length < b.length ∨ (a.length = b.length ∧ a < b)
instance (a b : List Int) : Decidable (ltLot a b) := by unfold ltLot; infer_instance
theorem eqvAll_ints : ∀ a b : List Int, PyData.eqvAll (a.map PyData.int) (b.map PyData.int) = decide (a = b)
  | [], [] => rfl
  | [], _ :: _ => rfl
  | _ :: _, [] => rfl
  | x :: a, y :: b => by
    show (PyData.eqv (.int x) (.int y) && PyData.eqvAll (a.map PyData.int) (b.map PyData.int)) = _
    rw [eqv_int, eqvAll_ints a b, ← Bool.decide_and]
    exact decide_eq_decide.mpr ⟨fun ⟨x, y⟩ => by rw [x, y], fun h => by injection h with h1 h2; exact ⟨h1, h2⟩⟩
theorem alike_ints : ∀ a b : List Int, PySem.W.alikeAll (a.map PyData.int) (b.map PyData.int) = true
  | [], _ => by simp [PySem.W.alikeAll]
  | _ :: _, [] => by simp [PySem.W.alikeAll]
  | x :: a, y :: b => by
    show (PySem.W.alike (.int x) (.int y) && PySem.W.alikeAll (a.map PyData.int) (b.map PyData.int)) = true
    rw [alike_ints a b]
    rfl
theorem alike_key (a b : List Int) : PySem.W.alike (lenKey a) (lenKey b) = true := by
  show (PySem.W.alike (.int a.length) (.int b.length) && (PySem.W.alike (.tuple (a.map PyData.int)) (.tuple (b.map PyData.int)) && true)) = true
  rw [show PySem.W.alike (.tuple (a.map PyData.int)) (.tuple (b.map PyData.int)) = true from alike_ints a b]
  rfl
theorem lt_key (a b : List Int) : PySem.W.dataLt (lenKey a) (lenKey b) = decide (ltLot a b) := by
  unfold lenKey
  rw [PySem.W.dataLt_pair (by rfl) (by exact alike_ints a b), PySem.W.dataLt_int, PySem.W.dataLt_tuple]
  rw [show PyProof.Rows.lexLt itemOrd (PySem.W.keyToksAll (a.map PyData.int)) (PySem.W.keyToksAll (b.map PyData.int)) = decide (a < b) from PySem.W.dataLt_ints a b]
  unfold ltLot
  by_cases h : a.length = b.length
  · rw [eqv_int, decide_eq_true (show (a.length : Int) = (b.length : Int) by omega), if_pos rfl]
    rw [show PyData.eqv (.tuple (a.map PyData.int)) (.tuple (b.map PyData.int)) = decide (a = b) from eqvAll_ints a b]
    by_cases q : a = b
    · subst q
      rw [decide_eq_true rfl, if_pos rfl]
      simp [List.lt_irrefl]
    · rw [decide_eq_false q, if_neg (by simp)]
      simp [h]
  · rw [eqv_int, decide_eq_false (show ¬ (a.length : Int) = (b.length : Int) by omega), if_neg (by simp)]
    simp [h]
theorem le_lot : PySem.W.dataLe false lenKey = fun a b => !decide (ltLot b a) := by
  funext a b
  show (!PySem.W.dataLt (lenKey b) (lenKey a)) = _
  rw [lt_key]
theorem lot_total (a b : List Int) : ¬ ltLot b a ∨ ¬ ltLot a b := by
  unfold ltLot
  by_cases h : a.length = b.length
  · by_cases q : a < b
    · left
      rintro (h1 | ⟨_, h2⟩)
      · omega
      · exact List.lt_irrefl a (List.lt_trans q h2)
    · right
      rintro (h1 | ⟨_, h2⟩)
      · omega
      · exact q h2
  · by_cases q : a.length < b.length
    · left
      rintro (h1 | ⟨h1, _⟩) <;> omega
    · right
      rintro (h1 | ⟨h1, _⟩) <;> omega
theorem lot_antisymm {a b : List Int} (h1 : ¬ ltLot b a) (h2 : ¬ ltLot a b) : a = b := by
  unfold ltLot at h1 h2
  have hl : a.length = b.length := by
    by_cases c : a.length < b.length
    · exact absurd (.inl c) h2
    · by_cases c2 : b.length < a.length
      · exact absurd (.inl c2) h1
      · omega
  have q1 : ¬ b < a := fun z => h1 (.inr ⟨hl.symm, z⟩)
  have q2 : ¬ a < b := fun z => h2 (.inr ⟨hl, z⟩)
  exact List.le_antisymm q1 q2
theorem lot_trans {a b c : List Int} (h1 : ¬ ltLot b a) (h2 : ¬ ltLot c b) : ¬ ltLot c a := by
  unfold ltLot at *
  rintro (h | ⟨h, q⟩)
  · have : ¬ b.length < a.length := fun z => h1 (.inl z)
    have : ¬ c.length < b.length := fun z => h2 (.inl z)
    omega
  · have n1 : ¬ b.length < a.length := fun z => h1 (.inl z)
    have n2 : ¬ c.length < b.length := fun z => h2 (.inl z)
    have e1 : b.length = a.length := by omega
    have e2 : c.length = b.length := by omega
    have q1 : a ≤ b := fun z => h1 (.inr ⟨e1, z⟩)
    have q2 : b ≤ c := fun z => h2 (.inr ⟨e2, z⟩)
    exact (List.le_trans q1 q2) q
/-- all lots of the first m indexes -/
def lots : Nat → List (List Nat)
  | 0 => [[]]
  | m + 1 => lots m ++ (lots m).map fun x => x ++ [m]
theorem mem_lots : ∀ {m : Nat} {x : List Nat}, x ∈ lots m ↔ x.Pairwise (· < ·) ∧ ∀ a ∈ x, a < m
  | 0, x => by
    constructor
    · intro h
      have e : x = [] := by simpa [lots] using h
      subst e
      exact ⟨.nil, fun a ha => (nomatch ha)⟩
    · rintro ⟨_, h⟩
      cases x with
      | nil => simp [lots]
      | cons a r => have := h a (List.mem_cons_self ..); omega
  | m + 1, x => by
    unfold lots
    rw [List.mem_append, mem_lots, List.mem_map]
    constructor
    · rintro (⟨h1, h2⟩ | ⟨y, hy, rfl⟩)
      · exact ⟨h1, fun a ha => by have := h2 a ha; omega⟩
      · obtain ⟨h1, h2⟩ := mem_lots.mp hy
        refine ⟨List.pairwise_append.mpr ⟨h1, List.pairwise_singleton _ _, fun a ha b hb => by rw [List.mem_singleton.mp hb]; exact h2 a ha⟩, fun a ha => ?_⟩
        rcases List.mem_append.mp ha with q | q
        · have := h2 a q; omega
        · rw [List.mem_singleton.mp q]; omega
    · rintro ⟨h1, h2⟩
      by_cases c : x = []
      · left; subst c; exact ⟨.nil, fun a ha => (nomatch ha)⟩
      · have e := (List.dropLast_concat_getLast c).symm
        have hm := h2 _ (List.getLast_mem c)
        have h1' := h1
        rw [e, List.pairwise_append] at h1'
        by_cases q : x.getLast c = m
        · right
          refine ⟨x.dropLast, mem_lots.mpr ⟨h1'.1, fun a ha => ?_⟩, by rw [← q]; exact e.symm⟩
          have := h1'.2.2 a ha (x.getLast c) (List.mem_singleton.mpr rfl)
          omega
        · left
          refine ⟨h1, fun a ha => ?_⟩
          rw [e] at ha
          rcases List.mem_append.mp ha with g | g
          · have := h1'.2.2 a g (x.getLast c) (List.mem_singleton.mpr rfl)
            omega
          · rw [List.mem_singleton.mp g]; omega
theorem lots_nodup : ∀ m, (lots m).Nodup
  | 0 => by simp [lots]
  | m + 1 => by
    unfold lots
    refine List.nodup_append.mpr ⟨lots_nodup m, ?_, fun a ha b hb e => ?_⟩
    · unfold List.Nodup
      rw [List.pairwise_map]
      exact (lots_nodup m).imp fun h z => h (List.append_cancel_right z)
    · obtain ⟨y, hy, rfl⟩ := List.mem_map.mp hb
      have := (mem_lots.mp ha).2 m (by rw [e]; simp)
      omega
theorem lots_len : ∀ m, (lots m).length = 2 ^ m
  | 0 => rfl
  | m + 1 => by
    unfold lots
    rw [List.length_append, List.length_map, lots_len m, Nat.pow_succ]
    omega
/-- the lots of each size in their order -/
def canon (m : Nat) : Nat → List (List Nat)
  | 0 => []
  | s + 1 => canon m s ++ cmb m s m 0
theorem mem_canon {m : Nat} {x : List Nat} : ∀ {s : Nat}, x ∈ canon m s ↔ x.length < s ∧ x.Pairwise (· < ·) ∧ ∀ a ∈ x, a < m
  | 0 => by simp [canon]
  | s + 1 => by
    unfold canon
    rw [List.mem_append, mem_canon, mem_cmb (by omega)]
    constructor
    · rintro (⟨a, b, c⟩ | ⟨a, b, c⟩)
      · exact ⟨by omega, b, c⟩
      · exact ⟨by omega, b, fun z hz => (c z hz).2⟩
    · rintro ⟨a, b, c⟩
      by_cases q : x.length = s
      · exact .inr ⟨q, b, fun z hz => ⟨Nat.zero_le _, c z hz⟩⟩
      · exact .inl ⟨by omega, b, c⟩
theorem cmb_asc {n : Nat} : ∀ (k f lo : Nat), n ≤ lo + f → (cmb n k f lo).Pairwise fun a b => asI a < asI b
  | 0, f, lo, _ => by simp [cmb]
  | k + 1, 0, lo, _ => by simp [cmb]
  | k + 1, f + 1, lo, hf => by
    unfold cmb
    split
    · refine List.pairwise_append.mpr ⟨?_, cmb_asc (k + 1) f (lo + 1) (by omega), fun a ha b hb => ?_⟩
      · rw [List.pairwise_map]
        refine (cmb_asc k f (lo + 1) (by omega)).imp fun h => ?_
        exact List.cons_lt_cons_iff.mpr (.inr ⟨rfl, h⟩)
      · obtain ⟨y, hy, rfl⟩ := List.mem_map.mp ha
        obtain ⟨h1, h2, h3⟩ := (mem_cmb (by omega)).mp hb
        cases b with
        | nil => cases h1
        | cons c r =>
          have := h3 c (List.mem_cons_self ..)
          exact List.cons_lt_cons_iff.mpr (.inl (show (lo : Int) < (c : Int) by omega))
    · exact .nil
theorem asI_len (a : List Nat) : (asI a).length = a.length := List.length_map ..
theorem canon_asc (m : Nat) : ∀ s, (canon m s).Pairwise fun a b => ltLot (asI a) (asI b)
  | 0 => .nil
  | s + 1 => by
    unfold canon
    refine List.pairwise_append.mpr ⟨canon_asc m s, ?_, fun a ha b hb => ?_⟩
    · refine List.Pairwise.imp_of_mem ?_ (cmb_asc s m 0 (by omega))
      intro a b ha hb h
      exact .inr ⟨by rw [asI_len, asI_len, CB.cmb_len ha, CB.cmb_len hb], h⟩
    · have := (mem_canon.mp ha).1
      exact .inl (by rw [asI_len, asI_len, CB.cmb_len hb]; exact this)
theorem rise_len : ∀ {x : List Nat} {m : Nat}, x.Pairwise (· < ·) → (∀ a ∈ x, a < m) → x.length ≤ m
  | [], _, _, _ => Nat.zero_le _
  | a :: r, m, hp, hb => by
    have key : ∀ (r : List Nat) (a m : Nat), (a :: r).Pairwise (· < ·) → (∀ b ∈ a :: r, b < m) → a + (a :: r).length ≤ m := by
      intro r
      induction r with
      | nil => intro a m _ h; have := h a (List.mem_cons_self ..); show a + 1 ≤ m; omega
      | cons b r ih =>
        intro a m hp h
        rw [List.pairwise_cons] at hp
        have h1 := hp.1 b (List.mem_cons_self ..)
        have h2 := ih b m hp.2 fun c hc => h c (List.mem_cons_of_mem _ hc)
        rw [List.length_cons] at h2 ⊢
        rw [List.length_cons]
        omega
    have := key r a m hp hb
    omega
/-- sorted by size, then in their order: these are they -/
theorem lots_sorted (m : Nat) : ((lots m).mergeSort fun a b => !decide (ltLot (asI b) (asI a))) = canon m (m + 1) := by
  have trans : ∀ a b c : List Nat, (!decide (ltLot (asI b) (asI a))) = true → (!decide (ltLot (asI c) (asI b))) = true → (!decide (ltLot (asI c) (asI a))) = true := fun a b c h1 h2 => by
    simp only [Bool.not_eq_true', decide_eq_false_iff_not] at *
    exact lot_trans h1 h2
  have total : ∀ a b : List Nat, ((!decide (ltLot (asI b) (asI a))) || !decide (ltLot (asI a) (asI b))) = true := fun a b => by
    simp only [Bool.or_eq_true, Bool.not_eq_true', decide_eq_false_iff_not]
    exact lot_total _ _
  have hs := List.pairwise_mergeSort trans total (lots m)
  have hc : (canon m (m + 1)).Pairwise fun a b => (!decide (ltLot (asI b) (asI a))) = true := (canon_asc m (m + 1)).imp fun {a b} h => by
    simp only [Bool.not_eq_true', decide_eq_false_iff_not]
    intro z
    unfold ltLot at h z
    rcases h with h | ⟨h, q⟩
    · rcases z with z | ⟨z, _⟩ <;> omega
    · rcases z with z | ⟨_, z⟩
      · omega
      · exact List.lt_irrefl _ (List.lt_trans q z)
  have nd : (canon m (m + 1)).Nodup := (canon_asc m (m + 1)).imp fun {a b} h e => by
    subst e
    rcases h with h | ⟨_, h⟩
    · omega
    · exact List.lt_irrefl _ h
  have perm : (lots m).Perm (canon m (m + 1)) := (List.perm_ext_iff_of_nodup (lots_nodup m) nd).mpr fun a => by
    rw [mem_lots, mem_canon]
    constructor
    · rintro ⟨h1, h2⟩
      exact ⟨Nat.lt_succ_of_le (rise_len h1 h2), h1, h2⟩
    · rintro ⟨_, h1, h2⟩
      exact ⟨h1, h2⟩
  refine List.Perm.eq_of_pairwise (fun a b _ _ h1 h2 => ?_) hs hc ((List.mergeSort_perm _ _).trans perm)
  simp only [Bool.not_eq_true', decide_eq_false_iff_not] at h1 h2
  exact asI_inj (lot_antisymm h1 h2)
end SR

set_option Elab.async false
set_option linter.all false
set_option maxRecDepth 100000
set_option maxHeartbeats 4000000
/-! The first lot that keeps the error; the law's own look says the same of a lot. -/
namespace SR
open PySem PySem.Spec PyProof.Rows L2
open CB (nats cmb mem_cmb)
def canonT (m : Nat) : Nat → List (List Nat)
  | 0 => []
  | s + 1 => canonT m s ++ cmb m (s + 1) m 0
theorem canon_tail (m : Nat) : ∀ s, canon m (s + 1) = [] :: canonT m s
  | 0 => by
    show canon m 0 ++ cmb m 0 m 0 = _
    simp [canon, cmb, canonT]
  | s + 1 => by
    show canon m (s + 1) ++ cmb m (s + 1) m 0 = _
    rw [canon_tail m s]
    rfl
theorem canonT_pre (m : Nat) {i : Nat} : ∀ {s : Nat}, i ≤ s → ∃ r, canonT m s = canonT m i ++ r
  | 0, h => ⟨[], by rw [show i = 0 by omega]; rfl⟩
  | s + 1, h => by
    by_cases e : i = s + 1
    · exact ⟨[], by rw [e, List.append_nil]⟩
    · obtain ⟨r, hr⟩ := canonT_pre m (s := s) (show i ≤ s by omega)
      exact ⟨r ++ cmb m (s + 1) m 0, by rw [← List.append_assoc, ← hr]; rfl⟩
theorem mem_canonT {m : Nat} {x : List Nat} (h : x ∈ canonT m m) : x ≠ [] ∧ x.length ≤ m ∧ x.Pairwise (· < ·) ∧ ∀ a ∈ x, a < m := by
  have h1 : x ∈ canon m (m + 1) := by rw [canon_tail]; exact List.mem_cons_of_mem _ h
  obtain ⟨a, b, c⟩ := mem_canon.mp h1
  refine ⟨fun e => ?_, by omega, b, c⟩
  subst e
  have h2 := canon_asc m (m + 1)
  rw [canon_tail, List.pairwise_cons] at h2
  rcases h2.1 _ h with q | ⟨_, q⟩
  · simp [asI] at q
  · exact List.lt_irrefl _ q
theorem find_hit {α : Type} {p : α → Bool} {l : List α} {i : Nat} {x : α} (h : (l.take i).find? p = none) (hx : l[i]? = some x) (hp : p x = true) : l.find? p = some x := by
  have hl : i < l.length := (List.getElem?_eq_some_iff.mp hx).1
  have e : l = l.take i ++ x :: l.drop (i + 1) := by
    have h1 : l[i] = x := (List.getElem?_eq_some_iff.mp hx).2
    rw [← h1, ← List.drop_eq_getElem_cons hl, List.take_append_drop]
  rw [e, List.find?_append, h]
  simp [hp]
theorem find_miss {α : Type} {p : α → Bool} {l : List α} {i : Nat} {x : α} (h : (l.take i).find? p = none) (hx : l[i]? = some x) (hp : p x = false) : (l.take (i + 1)).find? p = none := by
  rw [List.take_add_one, hx, List.find?_append, h]
  simp [hp]
theorem few_hit {p : List Nat → Bool} {m i j : Nat} {x : List Nat} (h1 : (canonT m i).find? p = none) (h2 : ((cmb m (i + 1) m 0).take j).find? p = none) (hx : (cmb m (i + 1) m 0)[j]? = some x) (hp : p x = true) (hi : i + 1 ≤ m) : (canonT m m).find? p = some x := by
  obtain ⟨r, hr⟩ := canonT_pre m hi
  rw [hr, List.find?_append]
  show (List.find? p (canonT m i ++ cmb m (i + 1) m 0)).or _ = _
  rw [List.find?_append, h1, find_hit h2 hx hp]
  rfl
theorem few_miss {p : List Nat → Bool} {m i : Nat} (h1 : (canonT m i).find? p = none) (h2 : (cmb m (i + 1) m 0).find? p = none) : (canonT m (i + 1)).find? p = none := by
  show List.find? p (canonT m i ++ cmb m (i + 1) m 0) = _
  rw [List.find?_append, h1, h2]
  rfl
theorem nats_at {idx : List Nat} {i : Nat} {x : V} (h : (nats idx)[i]? = some x) : ∃ j, idx[i]? = some j ∧ x = .int (j : Int) := by
  unfold nats at h
  rw [List.getElem?_map] at h
  cases e : idx[i]? with
  | none => rw [e] at h; cases h
  | some z => rw [e] at h; exact ⟨z, rfl, (Option.some.inj h).symm⟩
theorem nats_len (idx : List Nat) : (nats idx).length = idx.length := List.length_map ..
theorem keepsW_cons (ts : List Ent) (e n : Int) (j : Nat) (r : List Nat) (R : Int) : keepsW ts e n (j :: r) R = if hi ts j - e > R + 1 then false else keepsW ts e n r (max R (lo ts j + e)) := rfl
theorem keepsW_nil (ts : List Ent) (e n R : Int) : keepsW ts e n [] R = decide (n ≤ R) := rfl
def FewV (H : Hp) (x : V) : Option (List Nat) → Prop
  | none => x = .non
  | some idx => ∃ t, x = .ref t ∧ H t = some (.tup (nats idx))
end SR

set_option Elab.async false
set_option linter.all false
set_option maxRecDepth 100000
set_option maxHeartbeats 4000000
/-! without, fewest. -/
namespace SR
open PySem PySem.Spec PyProof.Rows L2
open CB (nats cmb mem_cmb ItC pi_comb for_comb iComb)

section
variable {P : Program} {w : World} {K : PySem.W.Frag} {mg : Str → Option Value} {base : Heap} {C C_NoRow C_BadIndex fI : Addr}
def spKeeps (C : Addr) : Sp := fun vs H Q _ => ∃ (v : V) (n e : Int) (es : List Ent) (t : Addr) (idx : List Nat), vs = [v, .ref t, .int e] ∧ SumV C H v n es ∧ H t = some (.tup (nats idx)) ∧ (∀ j ∈ idx, j < es.length) ∧ Q (.bl (keepsW es e n idx 0)) H
theorem sc__keeps : FnScope ["tight", "indexes", "error", "reached", "index", "_", "low", "high"] ["tight", "indexes", "error"] (defScope s__keeps) := ⟨rfl, rfl, rfl, by decide +kernel, rfl, by decide +kernel, by decide +kernel⟩
theorem ok__keeps {f : Addr} {fd : FuncData} (F : Fun K "_keeps" "_keeps" s__keeps f fd)  (T : SumT K mg C) (DE : Pr P w K mg base C "entries" 1 (getSp C "_entries")) (m_max : mg "max" = none) (DM : Pr P w K mg base C "many" 1 (getSp C "_many"))  : FnOk P w K mg base CX0 3 f fd ["tight", "indexes", "error"] (spKeeps C) := by
  refine F.ok sc__keeps (fun vs H Q E h => ?_) (fun cdv A outer s H vs Q E hr h => ?_)
  · obtain ⟨v, n, e, es, t, idx, rfl, _⟩ := h
    rfl
  · obtain ⟨v, n, e, es, t, idx, rfl, hS, ht, hb, k⟩ := h
    have nd := sc__keeps.nd
    have hr2 : Room 2 _ := hr.mono (by decide)
    refine ⟨_, pss_cons (ps_set (i := 3) nd rfl (Or.inl rfl) pe_int)
        (pss_cons (ps_for PassesOwn.never rfl (pi_tup (pv 1)) (pg_name (i := 4) nd rfl (Or.inl rfl))
        (pss_cons (ps_asg (pe_ix ix_tup (pe_pr DE T.ic.cl hr2 (pv 0)) (pv 4) (fun _ _ => rfl)) (pg_tup rfl (pgs_cons (pg_name (i := 5) nd rfl (Or.inl rfl)) (pgs_cons (pg_name (i := 6) nd rfl (Or.inl rfl)) (pgs_cons (pg_name (i := 7) nd rfl (Or.inl rfl)) pgs_nil)))))
        (pss_cons (ps_if (pt_cmpR op_gt (pe_op op_sub (pv 7) (pv 2)) (pe_op op_add (pv 3) pe_int) (nomark _)) (pss_one (ps_ret pe_bl)) pss_nil)
        (pss_one (ps_set (i := 3) nd rfl (Or.inl rfl) (pe_callB (call_max2 rfl) (by rfl) m_max (by decide +kernel) (pa_cons (pv 3) (pa_cons (pe_op op_add (pv 6) (pv 2)) pa_nil))))))))
        (pss_one (ps_ret (pe_cmpR op_ge (pv 3) (pe_pr DM T.ic.cl hr2 (pv 0)) (nomark _))))), ?_⟩
    obtain ⟨p, dx, u, rfl, hp, a, vs, rfl, ha, he⟩ := id hS
    refine ⟨_, rfl, t, rfl, ⟨_, SqT.of ht⟩, for_tup (K := K) (a := t) (xs := nats idx)
      (fun i σ H' => H' = H ∧ ∃ (R : Int) (y4 y5 y6 y7 : Option V), σ = [some (.ref p), some (.ref t), some (.int e), some (.int R), y4, y5, y6, y7] ∧ keepsW es e n idx 0 = keepsW es e n (idx.drop i) R)
      ⟨rfl, 0, none, none, none, none, rfl, rfl⟩ (fun i σ H' _ ⟨e', _⟩ => by rw [e']; exact SqT.of ht) ?_ ?_⟩
    · rintro i x σ H1 hx ⟨rfl, R, y4, y5, y6, y7, rfl, hk⟩
      obtain ⟨j, hj, rfl⟩ := nats_at hx
      have hil : i < idx.length := (List.getElem?_eq_some_iff.mp hj).1
      have hjl := hb j (List.mem_of_getElem? hj)
      have hvl : j < vs.length := by rw [he.len]; exact hjl
      have hvj : vs[j]? = some vs[j] := List.getElem?_eq_getElem hvl
      obtain ⟨ent, hent, t2, ht2e, ht2⟩ := pr_at' he hvj
      rw [ht2e] at hvj
      have hd : idx.drop i = j :: idx.drop (i + 1) := by
        have h1 : idx[i] = j := (List.getElem?_eq_some_iff.mp hj).2
        rw [← h1]
        exact List.drop_eq_getElem_cons hil
      rw [hd] at hk
      rw [keepsW_cons, lo_of hent, hi_of hent] at hk
      refine ⟨_, rfl, p, dx, _, rfl, hp, p, dx, _, _, rfl, hp, sfl_entries _ _, _, rfl, a, _, _, _, rfl, rfl, SqT.of ha, at_of (j := j) rfl hvj, t2, _, rfl, SqT.of ht2, rfl, _, _, rfl, _, _, rfl, _, _, rfl, rfl, ?_⟩
      refine ⟨_, rfl, _, rfl, _, _, rfl, rfl, _, rfl, _, _, rfl, rfl, _, _, rfl, rfl, _, rfl, ite2 (fun c => ?_) (fun c => ?_)⟩
      · have c' : ent.2.2 - e > R + 1 := of_decide_eq_true c
        rw [if_pos c'] at hk
        rw [hk] at k
        exact k
      · have c' : ¬ ent.2.2 - e > R + 1 := fun z => c (decide_eq_true z)
        rw [if_neg c'] at hk
        refine ⟨_, rfl, _, rfl, _, rfl, _, _, rfl, rfl, _, _, rfl, ?_⟩
        rw [max_if]
        exact ⟨rfl, _, _, _, _, _, rfl, hk⟩
    · rintro σ H1 ⟨rfl, R, y4, y5, y6, y7, rfl, hk⟩
      rw [show (nats idx).length = idx.length from List.length_map .., List.drop_length] at hk
      rw [keepsW_nil] at hk
      refine ⟨_, rfl, _, rfl, p, dx, _, rfl, hp, p, dx, _, _, rfl, hp, sfl_many _ _, _, _, rfl, rfl, ?_⟩
      rw [hk] at k
      exact k
-- @prem _keeps _keeps  : T DE m_max DM
def spFew (C N : Addr) : Sp := fun vs H Q E => ∃ (v : V) (n e : Int) (es : List Ent), vs = [v, .int e] ∧ SumV C H v n es ∧ Valid n es ∧ 0 ≤ e ∧ (¬ Fits n es → ∀ H', Same H H' → E (.ref N) none H') ∧
  (Fits n es → ∀ H' x, Same H H' → FewV H' x ((canonT es.length es.length).find? fun idx => keepsW (tightL n es) e n idx 0) → Q x H')
theorem sc_fewest : FnScope ["summary", "error", "tight", "size", "indexes"] ["summary", "error"] (defScope s_fewest) := ⟨rfl, rfl, rfl, by decide +kernel, rfl, by decide +kernel, by decide +kernel⟩
theorem ok_fewest {f : Addr} {fd : FuncData} (F : Fun K "fewest" "fewest" s_fewest f fd)  (D_surely_tightened : DnX P w K mg base "surely_tightened" ["summary"] 9 (spSure C C_NoRow)) (D_is_integer : Dn P w K mg base "is_integer" ["value"] 1 (spIsInt)) (m_range : mg "range" = none) (m_len : mg "len" = none) (DL : DLen P w K mg base C) (D__keeps : Dn P w K mg base "_keeps" ["tight", "indexes", "error"] 3 (spKeeps C)) (g_comb : mg "combinations" = some (.type "itertools.combinations")) : FnOk P w K mg base (L2.CX P w) 10 f fd ["summary", "error"] (spFew C C_NoRow) := by
  obtain ⟨fL, fdL, GL, hsL, hfL, bL⟩ := DL
  refine F.okX sc_fewest (fun vs H Q E h => ?_) (fun cdv A outer s H vs Q E hr h => ?_)
  · obtain ⟨v, n, e, es, rfl, _⟩ := h
    rfl
  · obtain ⟨v, n, e, es, rfl, hS, hv, he0, kN, kS⟩ := h
    have nd := sc_fewest.nd
    have hr1 : Room 1 _ := hr.mono (by decide)
    have hr2 : Room 2 _ := hr.mono (by decide)
    have hr3 : Room 3 _ := hr.mono (by decide)
    have hr9 : Room 9 _ := hr.mono (by decide)
    refine ⟨_, pss_cons (ps_set (i := 2) nd rfl (Or.inl rfl) (pe_dnX (W := fun cls d _ H => E cls d H) D_surely_tightened hr9 (takes_of rfl rfl rfl rfl) (pa_cons (pv 0) pa_nil)))
        (pss_cons (ps_if (PW.pt (pw_or (pt_not (pt_val (pe_dn D_is_integer hr1 (pa_cons (pv 1) pa_nil)))) (pw_or1 (pt_cmpR op_lt (pv 1) pe_int (nomark _))))) (pss_one ps_never) pss_nil)
        (pss_cons (ps_for (passes_of rfl) rfl (pi_range2 (by rfl) m_range (pa_cons pe_int (pa_cons (pe_op op_add (pe_callB (call_lenO GL hr2 hsL hfL bL pass0) (by rfl) m_len PySem.boot_len (pa_cons (pv 2) pa_nil)) pe_int) pa_nil))) (pg_name (i := 3) nd rfl (Or.inl rfl))
        (pss_one (ps_for (passes_of rfl) rfl (pi_comb g_comb m_range rfl (pe_callB (call_lenO GL hr2 hsL hfL bL pass0) (by rfl) m_len PySem.boot_len (pa_cons (pv 2) pa_nil)) (pv 3)) (pg_name (i := 4) nd rfl (Or.inl rfl))
        (pss_one (ps_if (pt_val (pe_dn D__keeps hr3 (pa_cons (pv 2) (pa_cons (pv 4) (pa_cons (pv 1) pa_nil))))) (pss_one (ps_ret (pv 4))) pss_nil)))))
        (pss_one (ps_ret pe_non)))), ?_⟩
    have h12 := hv.len
    refine ⟨_, rfl, v, n, es, rfl, hS, hv, kN, fun hF H1 p s1 hp1 => ?_⟩
    have kS' := kS hF
    have tl := tight_len n es
    obtain ⟨p1, dx1, u1, e1, hq1, hu1⟩ := id hp1
    cases e1
    refine ⟨_, rfl, e, rfl, true, rfl, iteF ?_⟩
    refine ⟨_, rfl, _, _, rfl, rfl, _, rfl, ?_⟩
    rw [decide_eq_false (show ¬ e < 0 by omega)]
    refine iteF ?_
    refine ⟨_, rfl, p, dx1, _, rfl, hq1, _, n, _, rfl, hp1, _, rfl, by omega, by rw [tl]; omega, _, _, rfl, rfl, _, _, rfl, ⟨by omega, by omega, by rw [tl]; omega, by rw [tl]; omega⟩, ?_⟩
    obtain ⟨ts, hts⟩ : ∃ ts, ts = tightL n es := ⟨_, rfl⟩
    rw [← hts] at hp1 kS' tl ⊢
    rw [← tl] at kS' h12
    refine for_range (lo := 1) (n := ((ts.length : Int) + 1 - 1).toNat) (fun i σ H' => ∃ (y3 y4 : Option V), σ = [some v, some (.int e), some (.ref p), y3, y4] ∧ Same H H' ∧ SumV C H' (.ref p) n ts ∧ (canonT ts.length i).find? (fun idx => keepsW ts e n idx 0) = none)
      ⟨none, none, rfl, s1, hp1, rfl⟩ ?_ ?_
    · rintro i σ H2 hi ⟨y3, y4, rfl, s2, hp2, hn⟩
      obtain ⟨p2, dx2, u2, e2, hq2, hu2⟩ := id hp2
      cases e2
      have him : i + 1 ≤ ts.length := by omega
      refine ⟨_, rfl, p, dx2, _, rfl, hq2, _, n, _, rfl, hp2, _, rfl, by omega, by omega, ts.length, rfl, _, rfl, i + 1, by rw [show 1 + (i : Int) = ((i + 1 : Nat) : Int) by omega], him, by omega, ?_⟩
      refine for_comb (n := ts.length) (k := i + 1) (fun j σ H' => ∃ (y4 : Option V), σ = [some v, some (.int e), some (.ref p), some (.int (1 + (i : Int))), y4] ∧ Same H H' ∧ SumV C H' (.ref p) n ts ∧ ((cmb ts.length (i + 1) ts.length 0).take j).find? (fun idx => keepsW ts e n idx 0) = none)
        ⟨y4, rfl, s2, hp2, rfl⟩ ?_ ?_
      · rintro j idx r σ H3 hx ⟨y4, rfl, s3, hp3, hm⟩ nr
        have tr := Same_new (o := .tup (nats idx)) nr
        have hb := ((mem_cmb (n := ts.length) (k := i + 1) (f := ts.length) (lo := 0) (by omega)).mp (List.mem_of_getElem? hx)).2.2
        refine ⟨_, rfl, _, rfl, _, rfl, .ref p, n, e, ts, r, idx, rfl, hp3.mono tr, upd_same, fun a ha => (hb a ha).2, ?_⟩
        cases hk : keepsW ts e n idx 0 with
        | true => exact ⟨true, rfl, iteT ⟨_, rfl, kS' _ _ (s3.trans tr) (by rw [few_hit hn hm hx hk him]; exact ⟨r, rfl, upd_same⟩)⟩⟩
        | false => exact ⟨false, rfl, iteF ⟨_, rfl, s3.trans tr, hp3.mono tr, find_miss hm hx hk⟩⟩
      · rintro σ H3 ⟨y4, rfl, s3, hp3, hm⟩
        rw [List.take_length] at hm
        exact ⟨_, _, rfl, s3, hp3, few_miss hn hm⟩
    · rintro σ H2 ⟨y3, y4, rfl, s2, hp2, hn⟩
      rw [show ((ts.length : Int) + 1 - 1).toNat = ts.length by omega] at hn
      exact kS' _ _ s2 (by rw [hn]; rfl)
-- @prem fewest fewest X : D_surely_tightened D_is_integer m_range m_len DL D__keeps
end
end SR

set_option Elab.async false
set_option linter.all false
set_option maxRecDepth 100000
set_option maxHeartbeats 4000000
/-! without, the law's own words about errors. -/
namespace SR
open PySem PySem.Spec PyProof.Rows L2
open CB (nats cmb mem_cmb ItC pi_comb for_comb iComb)

section
variable {P : Program} {w : World} {K : PySem.W.Frag} {mg : Str → Option Value} {base : Heap} {C C_NoRow C_BadIndex fI : Addr}
def spWithout (C B : Addr) : Sp := fun vs H Q E => ∃ (v : V) (n : Int) (k : Nat) (es : List Ent), vs = [v, .int k] ∧ SumV C H v n es ∧ Valid n es ∧ (es.length ≤ k → E (.ref B) none H) ∧
  (k < es.length → ∀ H' p, Same H H' → SumV C H' (.ref p) n (es.take k ++ es.drop (k + 1)) → Q (.ref p) H')
theorem sc_without : FnScope ["summary", "index", "entries"] ["summary", "index"] (defScope s_without) := ⟨rfl, rfl, rfl, by decide +kernel, rfl, by decide +kernel, by decide +kernel⟩
theorem ok_without {f : Addr} {fd : FuncData} (F : Fun K "without" "without" s_without f fd)  (D_check_summary : Dn P w K mg base "check_summary" ["summary"] 1 (spCkSum C)) (D_is_between : Dn P w K mg base "is_between" ["value", "least", "greatest"] 2 (spBetween)) (m_len : mg "len" = none) (DL : DLen P w K mg base C) (T_BadIndex : NzTxt K mg "BadIndex" C_BadIndex fI) (T : SumT K mg C) (DE : Pr P w K mg base C "entries" 1 (getSp C "_entries")) (DS : DnMk P w K mg base C) (DM : Pr P w K mg base C "many" 1 (getSp C "_many"))  : FnOk P w K mg base (L2.CX P w) 8 f fd ["summary", "index"] (spWithout C C_BadIndex) := by
  obtain ⟨fL, fdL, GL, hsL, hfL, bL⟩ := DL
  refine F.okX sc_without (fun vs H Q E h => ?_) (fun cdv A outer s H vs Q E hr h => ?_)
  · obtain ⟨v, n, k, es, rfl, _⟩ := h
    rfl
  · obtain ⟨v, n, k, es, rfl, hS, hv, kE, kS⟩ := h
    have nd := sc_without.nd
    have hr1 : Room 1 _ := hr.mono (by decide)
    have hr2 : Room 2 _ := hr.mono (by decide)
    have hr7 : Room 7 _ := hr.mono (by decide)
    refine ⟨_, pss_cons (ps_expr (pe_dn D_check_summary hr1 (pa_cons (pv 0) pa_nil)))
        (pss_cons (ps_if (pt_not (pt_val (pe_dn D_is_between hr2 (pa_cons (pv 1) (pa_cons pe_int (pa_cons (pe_op op_sub (pe_callB (call_lenO GL hr2 hsL hfL bL pass0) (by rfl) m_len PySem.boot_len (pa_cons (pv 0) pa_nil)) pe_int) pa_nil)))))) (pss_one (ps_raise (W := fun cls d _ H => E cls d H) rfl (takes_of rfl rfl rfl rfl) (pmk_nz T_BadIndex hr1 (by decide) rfl))) pss_nil)
        (pss_cons (ps_set (i := 2) nd rfl (Or.inl rfl) (pe_pr DE T.ic.cl hr2 (pv 0)))
        (pss_one (ps_ret (pe_mkS DS T hr7 (pa_cons (pe_pr DM T.ic.cl hr2 (pv 0)) (pa_cons (pe_op op_catA (pe_slice sl_tupA (pv 2) po_none (po_some (pv 1))) (pe_slice sl_tupA (pv 2) (po_some (pe_op op_add (pv 1) pe_int)) po_none)) pa_nil))))))), ?_⟩
    have h12 := hv.len
    obtain ⟨p, dx, u, rfl, hp, hu⟩ := id hS
    refine ⟨_, rfl, _, n, es, rfl, hS, ?_⟩
    refine ⟨_, rfl, _, rfl, p, dx, _, rfl, hp, _, n, _, rfl, hS, _, rfl, by omega, by omega, _, _, rfl, rfl, _, _, _, rfl, ?_⟩
    by_cases hk : k < es.length
    · rw [decide_eq_true (show (0 : Int) ≤ (k : Int) by omega), decide_eq_true (show (k : Int) ≤ (es.length : Int) - 1 by omega)]
      refine ⟨true, rfl, iteF ?_⟩
      refine ⟨_, rfl, p, dx, _, rfl, hp, p, dx, _, _, rfl, hp, sfl_entries _ _, ?_⟩
      refine ⟨_, rfl, p, dx, _, rfl, hp, p, dx, _, _, rfl, hp, sfl_many _ _, ?_⟩
      refine ⟨_, rfl, _, rfl, (k : Int), rfl, ?_⟩
      dsimp only
      refine sl_toE hu (by omega) fun x1 H1 s1 y1 => ?_
      refine ⟨_, rfl, _, rfl, _, _, rfl, rfl, ((k + 1 : Nat) : Int), by show V.int ((k : Int) + 1) = _; rw [show (k : Int) + 1 = ((k + 1 : Nat) : Int) by omega], ?_⟩
      dsimp only [tNoPart]
      refine sl_fromE (hu.mono s1) (by omega) fun x2 H2 s2 y2 => ?_
      refine cat_E (y1.mono s2) y2 (by rw [List.length_take, List.length_drop]; omega) fun x3 H3 s3 y3 => ?_
      have s13 := (s1.trans s2).trans s3
      exact fun x dx' nx nd' ne => sum_mk y3 (valid_part hv (cut_out es k)) nx nd' ne fun H4 s4 hs4 => kS hk H4 x (s13.trans s4) hs4
    · have e0 : (decide ((0 : Int) ≤ (k : Int)) && decide ((k : Int) ≤ (es.length : Int) - 1)) = false := by
        rw [decide_eq_false (show ¬ (k : Int) ≤ (es.length : Int) - 1 by omega), Bool.and_false]
      rw [e0]
      exact ⟨false, rfl, iteT (kE (by omega))⟩
-- @prem without without X : D_check_summary D_is_between m_len DL T_BadIndex T DE DS DM
end
end SR

set_option Elab.async false
set_option linter.all false
set_option maxRecDepth 100000
set_option maxHeartbeats 4000000
/-! A number put among entries. -/
namespace SR
open PySem PySem.Spec PyProof.Rows L2

section
variable {P : Program} {w : World} {K : PySem.W.Frag} {mg : Str → Option Value} {base : Heap} {fI : Addr}
def spRaised : Sp := fun vs H Q _ => ∃ (v r : V) (t : Addr) (e : Ent) (a b : Int), vs = [v, r] ∧ EntV H v e ∧ r = .ref t ∧ H t = some (.tup [.int a, .int b]) ∧ ∀ H' p, Same H H' → H p = none → H' p = some (.tup [.int e.1, .int (e.2.1 + a), .int (e.2.2 + b)]) → Q (.ref p) H'
theorem sc__raised : FnScope ["entry", "ranks", "value", "low", "high"] ["entry", "ranks"] (defScope s__raised) := ⟨rfl, rfl, rfl, by decide +kernel, rfl, by decide +kernel, by decide +kernel⟩
theorem ok__raised {f : Addr} {fd : FuncData} (F : Fun K "_raised" "_raised" s__raised f fd)    : FnOk P w K mg base CX0 1 f fd ["entry", "ranks"] (spRaised) := by
  refine F.ok sc__raised (fun vs H Q E h => ?_) (fun cdv A outer s H vs Q E hr h => ?_)
  · obtain ⟨v, r, t, e, a, b, rfl, _⟩ := h
    rfl
  · obtain ⟨v, r, t, e, a, b, rfl, ⟨p, rfl, hp⟩, rfl, ht, k⟩ := h
    have nd := sc__raised.nd
    refine ⟨_, pss_cons (ps_asg (pv 0) (pg_tup rfl (pgs_cons (pg_name (i := 2) nd rfl (Or.inl rfl)) (pgs_cons (pg_name (i := 3) nd rfl (Or.inl rfl)) (pgs_cons (pg_name (i := 4) nd rfl (Or.inl rfl)) pgs_nil)))))
        (pss_one (ps_ret (pe_tup (pa_cons (pv 2) (pa_cons (pe_op op_add (pv 3) (pe_ix ix_tup (pv 1) pe_int (fun _ _ => rfl))) (pa_cons (pe_op op_add (pv 4) (pe_ix ix_tup (pv 1) pe_int (fun _ _ => rfl))) pa_nil)))))), ?_⟩
    refine ⟨_, rfl, p, _, rfl, SqT.of hp, rfl, _, _, rfl, _, _, rfl, _, _, rfl, rfl, ?_⟩
    refine ⟨_, rfl, _, rfl, _, rfl, t, _, _, _, rfl, rfl, SqT.of ht, rfl, _, _, rfl, rfl, _, rfl, _, rfl, t, _, _, _, rfl, rfl, SqT.of ht, rfl, _, _, rfl, rfl, (by show 3 ≤ sizeLine; decide), fun z nz => k _ z (Same_new nz) nz upd_same⟩
-- @prem _raised _raised  : 
def spEw : Sp := fun vs H Q _ => ∃ (u : V) (n z : Int) (ts : List Ent), vs = [.int n, u, .int z] ∧ TupV H u ts ∧ ts.length ≤ 60 ∧ ∀ H' u, Same H H' → TupV H' u (ewL n ts z) → Q u H'
theorem last_lo {l : List Ent} {vs : List V} {H : Hp} (he : EntsV H vs l) (h : l.length ≠ 0) : ∃ (t : Addr) (e : Ent), atI vs (-1) = some (.ref t) ∧ H t = some (.tup [.int e.1, .int e.2.1, .int e.2.2]) ∧ e.2.1 = lo l (l.length - 1) := by
  have hl := he.len
  have hx : vs[vs.length - 1]? = some (vs[vs.length - 1]'(by omega)) := List.getElem?_eq_getElem (by omega)
  obtain ⟨e, hee, t, ht, hte⟩ := pr_at' he hx
  have hne : vs ≠ [] := fun z => by rw [z] at hl; exact h hl.symm
  have ev : vs = vs.dropLast ++ [V.ref t] := by
    rw [← ht, ← List.getLast_eq_getElem hne]
    exact (List.dropLast_concat_getLast hne).symm
  refine ⟨t, e, ?_, hte, ?_⟩
  · rw [ev]
    exact atI_last _ _
  · rw [← hl, lo_of hee]
theorem first_hi {l : List Ent} {vs : List V} {H : Hp} (he : EntsV H vs l) (h : l.length ≠ 0) : ∃ (t : Addr) (e : Ent), vs[0]? = some (.ref t) ∧ H t = some (.tup [.int e.1, .int e.2.1, .int e.2.2]) ∧ e.2.2 = hi l 0 := by
  have hl := he.len
  have hx : vs[0]? = some (vs[0]'(by omega)) := List.getElem?_eq_getElem (by omega)
  obtain ⟨e, hee, t, ht, hte⟩ := pr_at' he hx
  rw [ht] at hx
  exact ⟨t, e, hx, hte, by rw [hi_of hee]⟩
theorem ents_emp {H : Hp} {vs : List V} {l : List Ent} (h : EntsV H vs l) : (!vs.isEmpty) = !decide (l.length = 0) := by
  have := h.len
  cases vs with
  | nil => rw [decide_eq_true (show l.length = 0 by rw [← this]; rfl)]; rfl
  | cons x r => rw [decide_eq_false (show ¬ l.length = 0 by rw [← this]; simp)]; rfl
theorem sc_entries_with : FnScope ["many", "entries", "value", "before", "behind", "low", "high", "entry"] ["many", "entries", "value"] (defScope s_entries_with) := ⟨rfl, rfl, rfl, by decide +kernel, rfl, by decide +kernel, by decide +kernel⟩
set_option maxHeartbeats 16000000 in
theorem ok_entries_with {f : Addr} {fd : FuncData} (F : Fun K "entries_with" "entries_with" s_entries_with f fd)  (m_tuple : mg "tuple" = none) (D__raised : Dn P w K mg base "_raised" ["entry", "ranks"] 1 (spRaised))  : FnOk P w K mg base CX0 2 f fd ["many", "entries", "value"] (spEw) := by
  refine F.ok sc_entries_with (fun vs H Q E h => ?_) (fun cdv A outer s H vs Q E hr h => ?_)
  · obtain ⟨u, n, z, ts, rfl, _⟩ := h
    rfl
  · obtain ⟨u, n, z, ts, rfl, hu, h60, k⟩ := h
    have nd := sc_entries_with.nd
    have hr1 : Room 1 _ := hr.mono (by decide)
    refine ⟨_, pss_cons (ps_setLc (i := 3) (own := [("entry", 7)]) (g := gName 7) (tt := tTest (tOp (rI0 fun i j => .bl (decide (i ≤ j))) (tOp (rIxT K) (tVar 7) (tC (.int 0))) (tVar 2))) (te := tVar 7) rfl nd rfl rfl (sw_true rfl rfl rfl (by decide +kernel)) (pi_tup (pv 1)) (blkOk_by (own := [("entry", 7)]) (N := ["many", "entries", "value", "before", "behind", "low", "high", "entry"]) (sc := defScope s_entries_with) (by decide +kernel)) (fun _ _ _ _ _ => (pg_name (i := 7) nd rfl (Or.inl rfl))) (fun _ _ _ _ _ => (pts_one (pt_cmpR op_le (pe_ix ix_tup (pv 7) pe_int (fun _ _ => rfl)) (pv 2) (nomark _)))) (fun _ _ _ _ _ => (pv 7)))
        (pss_cons (ps_setLc (i := 4) (own := [("entry", 7)]) (g := gName 7) (tt := tTest (tOp (rI0 fun i j => .bl (decide (j < i))) (tOp (rIxT K) (tVar 7) (tC (.int 0))) (tVar 2))) (te := tVar 7) rfl nd rfl rfl (sw_true rfl rfl rfl (by decide +kernel)) (pi_tup (pv 1)) (blkOk_by (own := [("entry", 7)]) (N := ["many", "entries", "value", "before", "behind", "low", "high", "entry"]) (sc := defScope s_entries_with) (by decide +kernel)) (fun _ _ _ _ _ => (pg_name (i := 7) nd rfl (Or.inl rfl))) (fun _ _ _ _ _ => (pts_one (pt_cmpR op_gt (pe_ix ix_tup (pv 7) pe_int (fun _ _ => rfl)) (pv 2) (nomark _)))) (fun _ _ _ _ _ => (pv 7)))
        (pss_cons (ps_set (i := 5) nd rfl (Or.inl rfl) (pe_ifExp (pt_truth (pv 3) (by intro _; rfl)) (pe_op op_add (pe_ix ix_tup (pe_ix ix_list (pv 3) (pe_un un_neg pe_int) (fun _ _ => rfl)) pe_int (fun _ _ => rfl)) pe_int) pe_int))
        (pss_cons (ps_set (i := 6) nd rfl (Or.inl rfl) (pe_ifExp (pt_truth (pv 4) (by intro _; rfl)) (pe_ix ix_tup (pe_ix ix_list (pv 4) pe_int (fun _ _ => rfl)) pe_int (fun _ _ => rfl)) (pe_op op_add (pv 0) pe_int)))
        (pss_one (ps_ret (pe_callTy (T := "tuple") call_tupK (by rfl) m_tuple (by decide +kernel) (pa_cons (pe_op op_cat (pe_op op_cat (pv 3) (pe_lst (pa_cons (pe_tup (pa_cons (pv 2) (pa_cons (pv 5) (pa_cons (pv 6) pa_nil)))) pa_nil))) (pe_lc (own := [("entry", 7)]) (g := gName 7) (tt := tYes) (te := tCall (spRaised) [] E0 (tCons (tVar 7) (tCons (tTup ((tCons (tC (.int 1)) (tCons (tC (.int 1)) tNil)))) tNil))) rfl nd (pi_list (pv 4)) (blkOk_by (own := [("entry", 7)]) (N := ["many", "entries", "value", "before", "behind", "low", "high", "entry"]) (sc := defScope s_entries_with) (by decide +kernel)) (fun _ _ _ _ _ => (pg_name (i := 7) nd rfl (Or.inl rfl))) (fun _ _ _ _ _ => pts_nil) (fun _ _ _ _ _ => (pe_dn D__raised hr1 (pa_cons (pv 7) (pa_cons (pe_tup (pa_cons pe_int (pa_cons pe_int pa_nil))) pa_nil)))))) pa_nil))))))), ?_⟩
    obtain ⟨a, vs, rfl, ha, he⟩ := id hu
    have hl : vs.length = ts.length := he.len
    -- before
    refine ⟨_, rfl, a, rfl, ⟨_, SqT.of ha⟩, fun D nD => ?_⟩
    refine lc_tup (K := K) (a := a) (xs := vs) (fun i H' => ∃ us, H' D = some (.lst us) ∧ EntsV H' us ((ts.take i).filter fun e => decide (e.1 ≤ z)) ∧ Same H H') ⟨[], upd_same, .nil, Same_new nD⟩ (fun i H' _ ⟨_, _, _, s5⟩ => SqT.of (s5 _ _ ha)) ?_ ?_
    · rintro i x H' hx ⟨us, hD, hus, s5⟩
      obtain ⟨e, hei, t, rfl, ht⟩ := pr_at' he hx
      have ht' := s5 _ _ ((Same.refl H) _ _ ht)
      have et : (ts.take (i + 1)).filter (fun e => decide (e.1 ≤ z)) = (ts.take i).filter (fun e => decide (e.1 ≤ z)) ++ [e].filter (fun e => decide (e.1 ≤ z)) := by
        rw [List.take_add_one, hei, List.filter_append]; rfl
      refine ⟨rfl, ?_⟩
      refine ⟨_, rfl, t, _, _, _, rfl, rfl, SqT.of ht', rfl, _, rfl, _, _, rfl, rfl, _, rfl, ite2 (fun c => ?_) (fun c => ?_)⟩
      · refine ⟨_, rfl, us, hD, ?_, us ++ [.ref t], upd_same, ?_, Same_mut s5 nD⟩
        · rw [hus.len]
          have := List.length_filter_le (fun e : Ent => decide (e.1 ≤ z)) (ts.take i)
          rw [List.length_take] at this
          exact small1000 (by omega)
        · rw [et, List.filter_cons_of_pos (p := fun e : Ent => decide (e.1 ≤ z)) c]
          refine pr_app (Paired.mapP hus fun v w' ⟨t2, ev, et2⟩ => ⟨t2, ev, ?_⟩) (.cons ⟨t, rfl, ?_⟩ .nil)
          · rw [upd_ne (ne_of et2 hD (by intro z; cases z))]; exact et2
          · rw [upd_ne (ne_of ht' hD (by intro z; cases z))]; exact ht'
      · refine ⟨us, hD, ?_, s5⟩
        rw [et, List.filter_cons_of_neg (p := fun e : Ent => decide (e.1 ≤ z)) c, List.filter_nil, List.append_nil]
        exact hus
    rintro H1 ⟨usb, hD, husb, sb⟩
    rw [hl, List.take_length] at husb
    -- behind
    refine ⟨_, rfl, a, rfl, ⟨_, SqT.of (sb _ _ ha)⟩, fun G nG => ?_⟩
    refine lc_tup (K := K) (a := a) (xs := vs) (fun i H' => ∃ us, H' G = some (.lst us) ∧ EntsV H' us ((ts.take i).filter fun e => decide (z < e.1)) ∧ Same H1 H') ⟨[], upd_same, .nil, Same_new nG⟩ (fun i H' _ ⟨_, _, _, s5⟩ => SqT.of (s5 _ _ (sb _ _ ha))) ?_ ?_
    · rintro i x H' hx ⟨us, hD, hus, s5⟩
      obtain ⟨e, hei, t, rfl, ht⟩ := pr_at' he hx
      have ht' := s5 _ _ (sb _ _ ht)
      have et : (ts.take (i + 1)).filter (fun e => decide (z < e.1)) = (ts.take i).filter (fun e => decide (z < e.1)) ++ [e].filter (fun e => decide (z < e.1)) := by
        rw [List.take_add_one, hei, List.filter_append]; rfl
      refine ⟨rfl, ?_⟩
      refine ⟨_, rfl, t, _, _, _, rfl, rfl, SqT.of ht', rfl, _, rfl, _, _, rfl, rfl, _, rfl, ite2 (fun c => ?_) (fun c => ?_)⟩
      · refine ⟨_, rfl, us, hD, ?_, us ++ [.ref t], upd_same, ?_, Same_mut s5 nG⟩
        · rw [hus.len]
          have := List.length_filter_le (fun e : Ent => decide (z < e.1)) (ts.take i)
          rw [List.length_take] at this
          exact small1000 (by omega)
        · rw [et, List.filter_cons_of_pos (p := fun e : Ent => decide (z < e.1)) c]
          refine pr_app (Paired.mapP hus fun v w' ⟨t2, ev, et2⟩ => ⟨t2, ev, ?_⟩) (.cons ⟨t, rfl, ?_⟩ .nil)
          · rw [upd_ne (ne_of et2 hD (by intro z; cases z))]; exact et2
          · rw [upd_ne (ne_of ht' hD (by intro z; cases z))]; exact ht'
      · refine ⟨us, hD, ?_, s5⟩
        rw [et, List.filter_cons_of_neg (p := fun e : Ent => decide (z < e.1)) c, List.filter_nil, List.append_nil]
        exact hus
    rintro H2 ⟨usg, hG, husg, sg⟩
    rw [hl, List.take_length] at husg
    have s2 := sb.trans sg
    have hD2 := sg _ _ hD
    have husb2 := husb.mono sg
    obtain ⟨B, hB⟩ : ∃ B, B = ts.filter fun e => decide (e.1 ≤ z) := ⟨_, rfl⟩
    obtain ⟨A, hA⟩ : ∃ A, A = ts.filter fun e => decide (z < e.1) := ⟨_, rfl⟩
    rw [← hB] at husb husb2
    rw [← hA] at husg
    have lB : B.length ≤ 60 := by rw [hB]; exact Nat.le_trans (List.length_filter_le _ _) h60
    have lA : A.length ≤ 60 := by rw [hA]; exact Nat.le_trans (List.length_filter_le _ _) h60
    have k' : ∀ H' u, Same H H' → TupV H' u (B ++ [(z, lowOf B, highOf n A)] ++ A.map fun e => rse e 1 1) → Q u H' := fun H' u s hu => k H' u s (by unfold ewL; rw [← hA, ← hB]; exact hu)
    clear k
    dsimp only [gName]
    refine st_eq (σ' := [some (.int n), some (.ref a), some (.int z), some (.ref D), some (.ref G), none, none, none]) rfl ?_
    -- low
    refine ⟨_, rfl, !(usb.isEmpty), .inl ⟨usb, SqL.of hD2, rfl⟩, ?_⟩
    rw [ents_emp husb]
    refine two_ways (fun v H' => v = .int (lowOf B) ∧ H2 = H') (fun c Q' kq => ?_) (fun c Q' kq => ?_) ?_
    · have c0 : ¬ B.length = 0 := fun q => by rw [decide_eq_true q] at c; cases c
      obtain ⟨t, e, e1, e2, e3⟩ := last_lo husb2 c0
      refine ⟨_, rfl, _, rfl, D, _, _, _, rfl, rfl, SqL.of hD2, e1, t, _, _, _, rfl, rfl, SqT.of e2, rfl, _, _, rfl, rfl, kq _ _ ⟨?_, rfl⟩⟩
      rw [e3]
      unfold lowOf
      rw [if_neg c0]
    · have c0 : B.length = 0 := by
        by_cases q : B.length = 0
        · exact q
        · rw [decide_eq_false q] at c; cases c
      refine kq _ _ ⟨?_, rfl⟩
      unfold lowOf
      rw [if_pos c0]
    rintro v H2' ⟨rfl, rfl⟩
    -- high
    refine ⟨_, rfl, !(usg.isEmpty), .inl ⟨usg, SqL.of hG, rfl⟩, ?_⟩
    rw [ents_emp husg]
    refine two_ways (fun v H' => v = .int (highOf n A) ∧ H2 = H') (fun c Q' kq => ?_) (fun c Q' kq => ?_) ?_
    · have c0 : ¬ A.length = 0 := fun q => by rw [decide_eq_true q] at c; cases c
      obtain ⟨t, e, e1, e2, e3⟩ := first_hi husg c0
      refine ⟨_, rfl, G, _, _, _, rfl, rfl, SqL.of hG, at_of (j := 0) rfl e1, t, _, _, _, rfl, rfl, SqT.of e2, rfl, kq _ _ ⟨?_, rfl⟩⟩
      rw [e3]
      unfold highOf
      rw [if_neg c0]
    · have c0 : A.length = 0 := by
        by_cases q : A.length = 0
        · exact q
        · rw [decide_eq_false q] at c; cases c
      refine ⟨_, rfl, _, _, rfl, rfl, kq _ _ ⟨?_, rfl⟩⟩
      unfold highOf
      rw [if_pos c0]
    rintro v H2' ⟨rfl, rfl⟩
    -- put together
    refine ⟨_, rfl, _, rfl, _, rfl, _, rfl, (by show 3 ≤ sizeLine; decide), fun z1 nz1 => ⟨(by show 1 ≤ sizeLine; decide), fun z2 nz2 => ?_⟩⟩
    have t1 := Same_new (o := .tup [.int z, .int (lowOf B), .int (highOf n A)]) nz1
    have t2 := Same_new2 (o := .lst [.ref z1]) t1 nz2
    have z12 : z1 ≠ z2 := ne_of_none (show upd H2 z1 (.tup [.int z, .int (lowOf B), .int (highOf n A)]) z1 = _ from upd_same) nz2
    refine ⟨D, z2, usb, _, rfl, rfl, t2 _ _ hD2, upd_same, (by rw [husb.len]; show B.length + 1 ≤ sizeLine; exact Nat.le_of_lt (small1000 (by omega))), fun L1 nL1 => ?_⟩
    have t3 := Same_new2 (o := .lst (usb ++ [.ref z1])) t2 nL1
    have hz1 : (upd (upd (upd H2 z1 (.tup [.int z, .int (lowOf B), .int (highOf n A)])) z2 (.lst [.ref z1])) L1 (.lst (usb ++ [.ref z1]))) z1 = some (.tup [.int z, .int (lowOf B), .int (highOf n A)]) := Same_new2 (o := .lst (usb ++ [.ref z1])) (Same_new nz2) nL1 _ _ upd_same
    obtain ⟨H3, e3⟩ : ∃ H3, H3 = upd (upd (upd H2 z1 (.tup [.int z, .int (lowOf B), .int (highOf n A)])) z2 (.lst [.ref z1])) L1 (.lst (usb ++ [.ref z1])) := ⟨_, rfl⟩
    have hL1 : H3 L1 = some (.lst (usb ++ [.ref z1])) := by rw [e3]; exact upd_same
    rw [← e3] at t3 hz1 ⊢
    refine ⟨_, rfl, G, rfl, ⟨_, SqL.of (t3 _ _ hG)⟩, fun M nM => ?_⟩
    refine lc_list (K := K) (a := G) (xs := usg) (fun i H' => ∃ us, H' M = some (.lst us) ∧ EntsV H' us ((A.take i).map fun e => rse e 1 1) ∧ Same H3 H') ⟨[], upd_same, .nil, Same_new nM⟩ (fun i H' _ ⟨_, _, _, s5⟩ => SqL.of (s5 _ _ (t3 _ _ hG))) ?_ ?_
    · rintro i x H' hx ⟨us, hM, hus, s5⟩
      obtain ⟨e, hei, t, rfl, ht⟩ := pr_at' husg hx
      have hil : i < A.length := (List.getElem?_eq_some_iff.mp hei).1
      have ht' := s5 _ _ (t3 _ _ ht)
      refine ⟨rfl, tyes_of ?_⟩
      rw [if_pos rfl]
      refine ⟨_, rfl, (by show 2 ≤ sizeLine; decide), fun z3 nz3 => ?_⟩
      have t4 := Same_new (o := .tup [.int 1, .int 1]) nz3
      refine ⟨_, _, z3, e, 1, 1, rfl, ⟨t, rfl, t4 _ _ ht'⟩, rfl, upd_same, fun H5 q s6 nq hq => ?_⟩
      have s56 := t4.trans s6
      have hM5 := s56 _ _ hM
      refine ⟨us, hM5, ?_, us ++ [.ref q], upd_same, ?_, Same_mut (s5.trans s56) nM⟩
      · rw [hus.len, List.length_map, List.length_take]
        exact small1000 (by omega)
      · rw [List.take_add_one, hei, List.map_append]
        refine pr_app (Paired.mapP hus fun v w' ⟨t2', ev, et2⟩ => ⟨t2', ev, ?_⟩) (.cons ⟨q, rfl, ?_⟩ .nil)
        · rw [upd_ne (ne_of (s56 _ _ et2) hM5 (by intro z; cases z))]; exact s56 _ _ et2
        · rw [upd_ne (ne_of hq hM5 (by intro z; cases z))]; exact hq
    rintro H4 ⟨us4, hM4, hus4, s4⟩
    rw [husg.len, List.take_length] at hus4
    refine ⟨L1, M, _, us4, rfl, rfl, s4 _ _ hL1, hM4, ?_, fun L2 nL2 => ?_⟩
    · rw [List.length_append, husb.len, hus4.len, List.length_map]
      exact Nat.le_of_lt (small1000 (by show B.length + 1 + A.length ≤ 1000; omega))
    have t6 := Same_new (o := .lst (usb ++ [.ref z1] ++ us4)) nL2
    refine ⟨L2, _, rfl, .inl ⟨SqL.of upd_same, fun r nr => ?_⟩⟩
    have t7 := Same_new2 (o := .tup (usb ++ [.ref z1] ++ us4)) t6 nr
    have s34 := s4.trans t7
    refine k' _ _ ((s2.trans t3).trans s34) ⟨r, _, rfl, upd_same, ?_⟩
    exact pr_app (pr_app (husb2.mono (t3.trans s34)) (.cons ⟨z1, rfl, s34 _ _ hz1⟩ .nil)) (hus4.mono t7)
-- @prem entries_with entries_with  : m_tuple D__raised
end
end SR

set_option Elab.async false
set_option linter.all false
set_option maxRecDepth 100000
set_option maxHeartbeats 4000000
/-! put_in's parts. -/
namespace SR
open PySem PySem.Spec PyProof.Rows L2

section
variable {P : Program} {w : World} {K : PySem.W.Frag} {mg : Str → Option Value} {base : Heap} {C C_Full fI : Addr}
def spRoom (N : Addr) : Sp := fun vs H Q E => ∃ l : Int, vs = [.int l] ∧ (12 < l → E (.ref N) none H) ∧ (l ≤ 12 → Q .non H)
theorem sc__check_room : FnScope ["length"] ["length"] (defScope s__check_room) := ⟨rfl, rfl, rfl, by decide +kernel, rfl, by decide +kernel, by decide +kernel⟩
theorem ok__check_room {f : Addr} {fd : FuncData} (F : Fun K "_check_room" "_check_room" s__check_room f fd) {tk_MOST_ENTRIES : Tok} (m_MOST_ENTRIES : mg "MOST_ENTRIES" = some (.int (12) tk_MOST_ENTRIES)) (T_Full : NzTxt K mg "Full" C_Full fI)  : FnOk P w K mg base (L2.CX P w) 2 f fd ["length"] (spRoom C_Full) := by
  refine F.okX sc__check_room (fun vs H Q E h => ?_) (fun cdv A outer s H vs Q E hr h => ?_)
  · obtain ⟨l, rfl, _⟩ := h
    rfl
  · obtain ⟨l, rfl, kE, kN⟩ := h
    have nd := sc__check_room.nd
    have hr1 : Room 1 _ := hr.mono (by decide)
    refine ⟨_, pss_one (ps_if (pt_cmpR op_gt (pv 0) (pe_gi m_MOST_ENTRIES) (nomark _)) (pss_one (ps_raise (W := fun cls d _ H => E cls d H) rfl (takes_of rfl rfl rfl rfl) (pmk_nz T_Full hr1 (by decide) rfl))) pss_nil), ?_⟩
    refine ⟨_, rfl, _, _, rfl, rfl, _, rfl, ite2 (fun c => ?_) (fun c => ?_)⟩
    · exact kE (of_decide_eq_true c)
    · exact kN (by
        by_cases h : 12 < l
        · exact absurd (decide_eq_true h) c
        · omega)
-- @prem _check_room _check_room X : m_MOST_ENTRIES T_Full
end
end SR

set_option Elab.async false
set_option linter.all false
set_option maxRecDepth 100000
set_option maxHeartbeats 4000000
/-! Summary(..) whose count may be too great. -/
namespace SR
open PySem PySem.Spec PyProof.Rows L2
section
variable {P : Program} {w : World} {K : PySem.W.Frag} {mg : Str → Option Value} {base : Heap} {C B fI : Addr}
def spSumInitX (C B : Addr) : Sp := fun vs H Q E => ∃ (p dx : Addr) (n : Int) (u : V) (es : List Ent), vs = [.ref p, .int n, u] ∧ H p = some (.ins C dx []) ∧ TupV H u es ∧ 1 ≤ n ∧ (10 ^ 30 < n → E (.ref B) none H) ∧
  (n ≤ 10 ^ 30 → Valid n es ∧ ∀ H', H' p = some (.ins C dx (sfl n u)) → (∀ b o, H b = some o → b ≠ p → H' b = some o) → Q .non H')
theorem ok_Summary_initX {f : Addr} {fd : FuncData} (F : Fun K "__init__" "Summary.__init__" s_Summary_init f fd) (T : SumT K mg C) (D2 : Dn P w K mg base "is_between" ["value", "least", "greatest"] 2 spBetween) (D4 : Dn P w K mg base "_check_entries" ["many", "entries"] 5 spCheck)
    {tk : Tok} (gc : mg "GREATEST_COUNT" = some (.int (10 ^ 30) tk)) (TB : NzTxt K mg "BadCount" B fI) : FnOk P w K mg base (L2.CX P w) 6 f fd ["self", "many", "entries"] (spSumInitX C B) := by
  refine F.okX sc_Summary_init (fun vs H Q E h => ?_) (fun cdv A outer s H vs Q E hr h => ?_)
  · obtain ⟨p, dx, n, u, es, rfl, _⟩ := h
    rfl
  · obtain ⟨p, dx, n, u, es, rfl, hp, hu, h1, kE, kS⟩ := h
    have hr1 : Room 1 _ := hr.mono (by decide)
    have hr2 : Room 2 _ := hr.mono (by decide)
    have hr4 : Room 5 _ := hr.mono (by decide)
    refine ⟨_, pss_cons (ps_if (pt_not (pt_val (pe_dn D2 hr2 (pa_cons (pv 1) (pa_cons pe_int (pa_cons (pe_gi gc) pa_nil)))))) (pss_one (ps_raise (W := fun cls d _ H => E cls d H) rfl (takes_of rfl rfl rfl rfl) (pmk_nz TB hr1 (by decide) rfl))) pss_nil)
      (pss_cons (ps_expr (pe_dn D4 hr4 (pa_cons (pv 1) (pa_cons (pv 2) pa_nil))))
      (pss_cons (ps_fld (pv 0) (pv 1) rfl) (pss_one (ps_fld (pv 0) (pv 2) rfl)))), ?_⟩
    refine ⟨_, rfl, _, _, _, rfl, _, rfl, ?_⟩
    rw [decide_eq_true h1]
    by_cases c : n ≤ 10 ^ 30
    · obtain ⟨hv, k⟩ := kS c
      rw [decide_eq_true c]
      refine iteF ?_
      refine ⟨_, rfl, _, rfl, n, u, es, rfl, hu, hv, fun H1 s1 => ?_⟩
      refine ⟨_, rfl, _, rfl, p, C, dx, [], rfl, s1 _ _ hp, T.ic.cl, T.nM, (by show 0 < 1000; decide), _, rfl, _, rfl, p, C, dx, _, rfl, upd_same, T.ic.cl, T.nE, (by show 1 < 1000; decide), ?_⟩
      refine k _ upd_same fun b o e hb => ?_
      rw [upd_ne hb, upd_ne hb]
      exact s1 _ _ e
    · rw [decide_eq_false c]
      exact iteT (kE (by omega))
def DnMkX (P : Program) (w : World) (K : PySem.W.Frag) (mg : Str → Option Value) (base : Heap) (C B : Addr) : Prop := ∃ fI fd, Mk K C fI ∧ FnOk P w K mg base (L2.CX P w) 6 fI fd ["self", "many", "entries"] (spSumInitX C B) ∧ Binds K fd ["self", "many", "entries"] []
theorem pe_mkSX {X : Cx} {e : Expr} {es : List Expr} {t : TA} {p pos : Pos} {E : XK} (D : DnMkX X.prog X.w X.K X.mg X.base C B) (T : SumT X.K X.mg C) (hr : Room 7 X.A) (tk : Takes X (fun cls d _ H => E cls d H)) (ha : PA X (e :: es) t) (hg : Gl X "Summary" := by rfl)
    (he : starEach (e :: es) X.env = (false, eval e X.env) :: starEach es X.env := by rfl) (hpl : (backTo pos (starEach es X.env)).any (·.1) = false := by rfl) :
    PE X (.Call (.Name "Summary" p) (e :: es) [] pos) (tMake C (spSumInitX C B) [] E t) := by
  obtain ⟨fI, fd, M, F, b⟩ := D
  exact pe_make M F hr hg T.g b .nil (passes_call tk fun _ _ _ _ h => h) ha (by decide) he hpl
theorem sum_mkX {H1 : Hp} {n : Int} {u : V} {es : List Ent} {x dx : Addr} {R : Hp → Prop} {E : XK} (hu : TupV H1 u es) (h1 : 1 ≤ n) (nx : H1 x = none) (nd : H1 dx = none) (ne : dx ≠ x) (kE : 10 ^ 30 < n → ∀ H', Same H1 H' → E (.ref B) none H')
    (k : n ≤ 10 ^ 30 → Valid n es ∧ ∀ H', Same H1 H' → SumV C H' (.ref x) n es → R H') :
    spSumInitX C B (.ref x :: ([.int n, u] ++ [])) (upd (upd H1 dx (.own x)) x (.ins C dx [])) (fun v H2 => v = .non ∧ R H2) E := by
  have s0 : Same H1 (upd (upd H1 dx (.own x)) x (.ins C dx [])) := fun b o e => by
    rw [upd_ne (ne_of_none e nx), upd_ne (ne_of_none e nd)]
    exact e
  refine ⟨x, dx, n, u, es, rfl, upd_same, hu.mono s0, h1, fun c => kE c _ s0, fun c => ⟨(k c).1, fun H' hx kp => ⟨rfl, ?_⟩⟩⟩
  have s1 : Same H1 H' := fun b o e => kp b o (s0 b o e) (ne_of_none e nx)
  exact (k c).2 H' s1 ⟨x, dx, u, rfl, hx, hu.mono s1⟩
end
end SR

set_option Elab.async false
set_option linter.all false
set_option maxRecDepth 100000
set_option maxHeartbeats 4000000
/-! Where a value stands among rising ones; the told bounds by that spot; one number put in. -/
namespace SR
theorem asc_split {z : Int} : ∀ {l : List Ent}, (l.Pairwise fun a b => a.1 ≤ b.1) → l = l.filter (fun e => decide (e.1 < z)) ++ l.filter (fun e => decide (z ≤ e.1))
  | [], _ => rfl
  | e :: l, h => by
    rw [List.pairwise_cons] at h
    by_cases c : e.1 < z
    · rw [List.filter_cons_of_pos (by simpa using c), List.filter_cons_of_neg (by simpa using c), List.cons_append, ← asc_split h.2]
    · have n1 : ∀ a ∈ l, ¬ a.1 < z := fun a ha => by have := h.1 a ha; omega
      rw [List.filter_cons_of_neg (by simpa using c), List.filter_cons_of_pos (by simpa using c)]
      have e1 : l.filter (fun e => decide (e.1 < z)) = [] := List.filter_eq_nil_iff.mpr fun a ha => by simpa using n1 a ha
      have e2 : l.filter (fun e => decide (z ≤ e.1)) = l := List.filter_eq_self.mpr fun a ha => by have := n1 a ha; simp; omega
      rw [e1, e2]; rfl
def spotL (l : List Ent) (z : Int) : Nat := (l.filter fun e => decide (e.1 < z)).length
theorem spot_take {l : List Ent} (h : l.Pairwise fun a b => a.1 ≤ b.1) (z : Int) : l.filter (fun e => decide (e.1 < z)) = l.take (spotL l z) ∧ l.filter (fun e => decide (z ≤ e.1)) = l.drop (spotL l z) := by
  have g : ∀ A B : List Ent, l = A ++ B → A = l.take A.length ∧ B = l.drop A.length := fun A B e => by
    rw [e, List.take_left, List.drop_left]
    exact ⟨rfl, rfl⟩
  exact g _ _ (asc_split h)
theorem spot_le (l : List Ent) (z : Int) : spotL l z ≤ l.length := List.length_filter_le _ _
theorem spot_iff {l : List Ent} (h : l.Pairwise fun a b => a.1 ≤ b.1) {z : Int} {j : Nat} (hj : j < l.length) : vl l j < z ↔ j < spotL l z := by
  obtain ⟨e1, e2⟩ := spot_take h z
  have hg : l[j]? = some l[j] := List.getElem?_eq_getElem hj
  constructor
  · intro hv
    by_cases c : j < spotL l z
    · exact c
    · exfalso
      have hm : l[j] ∈ l.drop (spotL l z) := List.mem_iff_getElem?.mpr ⟨j - spotL l z, by rw [List.getElem?_drop, show spotL l z + (j - spotL l z) = j by omega]; exact hg⟩
      rw [← e2, List.mem_filter] at hm
      have := of_decide_eq_true hm.2
      rw [vl_of hg] at hv
      omega
  · intro c
    have hm : l[j] ∈ l.take (spotL l z) := List.mem_iff_getElem?.mpr ⟨j, by rw [List.getElem?_take_of_lt c]; exact hg⟩
    rw [← e1, List.mem_filter] at hm
    have := of_decide_eq_true hm.2
    rw [vl_of hg]
    exact this
theorem tight_asc {n : Int} {es : List Ent} (v : Valid n es) : (tightL n es).Pairwise fun a b => a.1 ≤ b.1 := by
  rw [List.pairwise_iff_getElem]
  intro i j hi hj hij
  have := tight_va v i j (by omega) hj
  rw [vl_of (List.getElem?_eq_getElem hi), vl_of (List.getElem?_eq_getElem hj)] at this
  exact this
theorem top_spot {n : Int} {es : List Ent} (v : Valid n es) (z : Int) : topD 0 (belLow es z) = if spotL (tightL n es) z = 0 then 0 else lo (tightL n es) (spotL (tightL n es) z - 1) := by
  have hs := spot_le (tightL n es) z
  rw [tight_len] at hs
  have hv : ∀ j, j < es.length → (vl es j < z ↔ j < spotL (tightL n es) z) := fun j hj => by
    have := spot_iff (tight_asc v) (z := z) (j := j) (by rw [tight_len]; exact hj)
    rw [vl_of (tight_at hj)] at this
    exact this
  obtain ⟨s, es'⟩ : ∃ s, s = spotL (tightL n es) z := ⟨_, rfl⟩
  rw [← es'] at hs hv ⊢
  by_cases c : s = 0
  · rw [if_pos c]
    have e : belLow es z = [] := List.eq_nil_iff_forall_not_mem.mpr fun x hx => by
      obtain ⟨j, hj, h1, _⟩ := mem_belLow.mp hx
      have := (hv j hj).mp h1
      omega
    rw [e]; rfl
  · rw [if_neg c, lo_of (tight_at (n := n) (show s - 1 < es.length by omega))]
    have hm : tlo es (s - 1) ∈ belLow es z := mem_belLow.mpr ⟨s - 1, by omega, (hv _ (by omega)).mpr (by omega), rfl⟩
    have h1 := (topD_ge (belLow es z) 0).2 _ hm
    have h2 := tlo_pos es (s - 1)
    show topD 0 (belLow es z) = tlo es (s - 1)
    rcases topD_in (belLow es z) 0 with e | e
    · omega
    · obtain ⟨j, hj, a, b⟩ := mem_belLow.mp e
      have := (hv j hj).mp a
      by_cases q : j = s - 1
      · rw [← b, q]
      · have := tlo_lt (es := es) (show j < s - 1 by omega)
        omega
theorem bot_spot {n : Int} {es : List Ent} (v : Valid n es) (z : Int) : botD n (belHigh n es z) = if spotL (tightL n es) z < es.length then hi (tightL n es) (spotL (tightL n es) z) - 1 else n := by
  have hv : ∀ j, j < es.length → (vl es j < z ↔ j < spotL (tightL n es) z) := fun j hj => by
    have := spot_iff (tight_asc v) (z := z) (j := j) (by rw [tight_len]; exact hj)
    rw [vl_of (tight_at hj)] at this
    exact this
  obtain ⟨s, es'⟩ : ∃ s, s = spotL (tightL n es) z := ⟨_, rfl⟩
  rw [← es'] at hv ⊢
  by_cases c : s < es.length
  · rw [if_pos c, hi_of (tight_at (n := n) c)]
    have hm : thi n es s - 1 ∈ belHigh n es z := mem_belHigh.mpr ⟨s, c, by have := (hv s c); omega, rfl⟩
    have h1 := (botD_le (belHigh n es z) n).2 _ hm
    have h2 := thi_le (n := n) (es := es) c
    show botD n (belHigh n es z) = thi n es s - 1
    rcases botD_in (belHigh n es z) n with e | e
    · omega
    · obtain ⟨j, hj, a, b⟩ := mem_belHigh.mp e
      have := hv j hj
      by_cases q : j = s
      · rw [← b, q]
      · have := thi_lt (n := n) (es := es) (show s < j by omega) hj
        omega
  · rw [if_neg c]
    have e : belHigh n es z = [] := List.eq_nil_iff_forall_not_mem.mpr fun x hx => by
      obtain ⟨j, hj, h1, _⟩ := mem_belHigh.mp hx
      have := hv j hj
      omega
    rw [e]; rfl
/-- the bounds are bounds -/
theorem bel_le {n : Int} {es : List Ent} (v : Valid n es) (hF : Fits n es) (z : Int) : 0 ≤ topD 0 (belLow es z) ∧ topD 0 (belLow es z) ≤ botD n (belHigh n es z) ∧ botD n (belHigh n es z) ≤ n := by
  have hb : ∀ j, j < es.length → -10 ^ 30 ≤ vl es j := fun j hj => (v.ent j hj).1
  have h1 := rowL_leaves v hF hb
  have n0 : 0 ≤ n := by have := v.n1; omega
  have a := below_least v h1 (rowL_asc _) (rowL_len _ n0) z
  have b := below_most v h1 (rowL_asc _) (rowL_len _ n0) z
  exact ⟨(topD_ge _ 0).1, by omega, (botD_le _ n).1⟩
/-- one number more -/
theorem one_valid {v : Int} (h1 : -10 ^ 30 ≤ v) (h2 : v ≤ 10 ^ 30) : Valid 1 [(v, 1, 1)] where
  n1 := Int.le_refl _
  n2 := by decide
  len := (by show 1 ≤ 12; decide)
  ent := fun j hj => by
    have e : j = 0 := by simp at hj; omega
    subst e
    exact ⟨h1, h2, Int.le_refl _, Int.le_refl _, Int.le_refl _⟩
  asc := fun j hj => by simp at hj
theorem one_tight (v : Int) : tightL 1 [(v, 1, 1)] = [(v, 1, 1)] := rfl
theorem one_fits (v : Int) : Fits 1 [(v, 1, 1)] := fun j hj => by
  have e : j = 0 := by simp at hj; omega
  subst e
  show (1 : Int) ≤ 1
  decide
theorem one_low (v z : Int) : topD 0 (belLow [(v, 1, 1)] z) = if v < z then 1 else 0 := by
  unfold belLow
  show topD 0 (((List.range 1).filter fun j => decide (vl [(v, 1, 1)] j < z)).map (tlo [(v, 1, 1)])) = _
  rw [show List.range 1 = [0] from rfl, List.filter_cons]
  by_cases c : v < z
  · rw [if_pos (show decide (vl [(v, 1, 1)] 0 < z) = true from decide_eq_true c), if_pos c]; rfl
  · rw [if_neg (show ¬ decide (vl [(v, 1, 1)] 0 < z) = true from fun h => c (of_decide_eq_true h)), if_neg c]; rfl
theorem one_high (v z : Int) : botD 1 (belHigh 1 [(v, 1, 1)] z) = if v < z then 1 else 0 := by
  unfold belHigh
  show botD 1 (((List.range 1).filter fun j => decide (z ≤ vl [(v, 1, 1)] j)).map fun j => thi 1 [(v, 1, 1)] j - 1) = _
  rw [show List.range 1 = [0] from rfl, List.filter_cons]
  by_cases c : v < z
  · rw [if_neg (show ¬ decide (z ≤ vl [(v, 1, 1)] 0) = true from fun h => by have : z ≤ v := of_decide_eq_true h; omega), if_pos c]; rfl
  · rw [if_pos (show decide (z ≤ vl [(v, 1, 1)] 0) = true from decide_eq_true (by show z ≤ v; omega)), if_neg c]; rfl
/-- what put_in tells: those of no greater value, the new one, the others one rank up -/
def putE (n : Int) (es : List Ent) (v : Int) : List Ent :=
  (tightL n es).take (spotL (tightL n es) (v + 1)) ++ [(v, 1 + topD 0 (belLow es (v + 1)), 1 + botD n (belHigh n es (v + 1)))] ++ ((tightL n es).drop (spotL (tightL n es) (v + 1))).map fun e => rse e 1 1
theorem merge_one {y : Ent} : ∀ {A B : List Ent}, (∀ a ∈ A, a.1 ≤ y.1) → (∀ b ∈ B, ¬ b.1 ≤ y.1) → List.merge (A ++ B) [y] leV = A ++ [y] ++ B
  | [], [], _, _ => by simp
  | [], b :: B, _, hb => by
    rw [List.nil_append, List.cons_merge_cons, if_neg (show ¬ leV b y = true from fun h => hb b (List.mem_cons_self ..) (of_decide_eq_true h))]
    simp
  | a :: A, B, ha, hb => by
    rw [List.cons_append, List.cons_merge_cons, if_pos (show leV a y = true from decide_eq_true (ha a (List.mem_cons_self ..))), merge_one (fun x hx => ha x (List.mem_cons_of_mem _ hx)) hb]
    simp
theorem put_join {n v : Int} {es : List Ent} (hv : Valid n es) : joinE n es 1 [(v, 1, 1)] = putE n es v := by
  unfold joinE putE
  have e2 : joinL 1 [(v, 1, 1)] n es 1 = [(v, 1 + topD 0 (belLow es (v + 1)), 1 + botD n (belHigh n es (v + 1)))] := by
    unfold joinL
    rw [one_tight]
    rfl
  have e1 : joinL n es 1 [(v, 1, 1)] 0 = (tightL n es).take (spotL (tightL n es) (v + 1)) ++ ((tightL n es).drop (spotL (tightL n es) (v + 1))).map fun e => rse e 1 1 := by
    unfold joinL
    obtain ⟨t1, t2⟩ := spot_take (tight_asc hv) (v + 1)
    have g : ∀ e : Ent, rse e (topD 0 (belLow [(v, 1, 1)] (e.1 + 0))) (botD 1 (belHigh 1 [(v, 1, 1)] (e.1 + 0))) = if v < e.1 then rse e 1 1 else e := fun e => by
      rw [one_low, one_high, Int.add_zero]
      by_cases c : v < e.1
      · rw [if_pos c, if_pos c]
      · rw [if_neg c, if_neg c]
        show (e.1, e.2.1 + 0, e.2.2 + 0) = e
        rw [Int.add_zero, Int.add_zero]
    conv => lhs; rw [asc_split (z := v + 1) (tight_asc hv)]
    rw [List.map_append, t1, t2]
    congr 1
    · rw [← t1]
      have : ∀ e ∈ (tightL n es).filter (fun e => decide (e.1 < v + 1)), rse e (topD 0 (belLow [(v, 1, 1)] (e.1 + 0))) (botD 1 (belHigh 1 [(v, 1, 1)] (e.1 + 0))) = id e := fun e he => by
        have := of_decide_eq_true (List.mem_filter.mp he).2
        rw [g, if_neg (by omega)]; rfl
      rw [List.map_congr_left this, List.map_id]
    · rw [← t2]
      refine List.map_congr_left fun e he => ?_
      have := of_decide_eq_true (List.mem_filter.mp he).2
      rw [g, if_pos (by omega)]
  rw [e1, e2]
  obtain ⟨t1, t2⟩ := spot_take (tight_asc hv) (v + 1)
  refine merge_one (fun a ha => ?_) fun b hb => ?_
  · rw [← t1] at ha
    have := of_decide_eq_true (List.mem_filter.mp ha).2
    show a.1 ≤ v
    omega
  · obtain ⟨e, he, rfl⟩ := List.mem_map.mp hb
    rw [← t2] at he
    have := of_decide_eq_true (List.mem_filter.mp he).2
    show ¬ e.1 ≤ v
    omega
end SR

set_option Elab.async false
set_option linter.all false
set_option maxRecDepth 100000
set_option maxHeartbeats 4000000
/-! Entries put together are entries of the greater count. -/
namespace SR
theorem valid_mk {n : Int} {es : List Ent} (n1 : 1 ≤ n) (n2 : n ≤ 10 ^ 30) (l : es.length ≤ 12) (ok : ∀ e ∈ es, -10 ^ 30 ≤ e.1 ∧ e.1 ≤ 10 ^ 30 ∧ 1 ≤ e.2.1 ∧ e.2.1 ≤ e.2.2 ∧ e.2.2 ≤ n) (asc : es.Pairwise fun a b => a.1 ≤ b.1) : Valid n es where
  n1 := n1
  n2 := n2
  len := l
  ent := fun j hj => by
    have e := List.getElem?_eq_getElem hj
    rw [vl_of e, lo_of e, hi_of e]
    exact ok _ (List.getElem_mem hj)
  asc := fun j hj => by
    have e := List.getElem?_eq_getElem (show j < es.length by omega)
    have e2 := List.getElem?_eq_getElem hj
    rw [vl_of e, vl_of e2]
    exact List.pairwise_iff_getElem.mp asc j (j + 1) _ hj (by omega)
theorem joinL_len (n1 : Int) (es1 : List Ent) (n2 : Int) (es2 : List Ent) (d : Int) : (joinL n1 es1 n2 es2 d).length = es1.length := by
  unfold joinL
  rw [List.length_map, tight_len]
theorem joinL_asc {n1 n2 d : Int} {es1 es2 : List Ent} (v1 : Valid n1 es1) : (joinL n1 es1 n2 es2 d).Pairwise fun a b => a.1 ≤ b.1 := by
  unfold joinL
  rw [List.pairwise_map]
  exact tight_asc v1
theorem joinL_ok {n1 n2 d : Int} {es1 es2 : List Ent} (v1 : Valid n1 es1) (f1 : Fits n1 es1) (v2 : Valid n2 es2) (f2 : Fits n2 es2) : ∀ e ∈ joinL n1 es1 n2 es2 d, -10 ^ 30 ≤ e.1 ∧ e.1 ≤ 10 ^ 30 ∧ 1 ≤ e.2.1 ∧ e.2.1 ≤ e.2.2 ∧ e.2.2 ≤ n1 + n2 := fun e he => by
  obtain ⟨x, hx, rfl⟩ := List.mem_map.mp he
  obtain ⟨j, hj, rfl⟩ := List.mem_iff_getElem.mp hx
  have hj' : j < es1.length := by rw [tight_len] at hj; exact hj
  have ex := tight_at (n := n1) hj'
  rw [List.getElem?_eq_getElem hj] at ex
  rw [Option.some.inj ex]
  have a := v1.ent j hj'
  have b := bel_le v2 f2 (vl es1 j + d)
  have c := f1 j hj'
  have d1 := tlo_pos es1 j
  have d2 := thi_le (n := n1) hj'
  show -10 ^ 30 ≤ vl es1 j ∧ vl es1 j ≤ 10 ^ 30 ∧ 1 ≤ tlo es1 j + topD 0 (belLow es2 (vl es1 j + d)) ∧ tlo es1 j + topD 0 (belLow es2 (vl es1 j + d)) ≤ thi n1 es1 j + botD n2 (belHigh n2 es2 (vl es1 j + d)) ∧ thi n1 es1 j + botD n2 (belHigh n2 es2 (vl es1 j + d)) ≤ n1 + n2
  exact ⟨a.1, a.2.1, by omega, by omega, by omega⟩
theorem joinE_len (n1 : Int) (es1 : List Ent) (n2 : Int) (es2 : List Ent) : (joinE n1 es1 n2 es2).length = es1.length + es2.length := by
  unfold joinE
  rw [List.length_merge, joinL_len, joinL_len]
theorem leV_trans (a b c : Ent) (h : leV a b = true) (g : leV b c = true) : leV a c = true := by
  have := of_decide_eq_true h
  have := of_decide_eq_true g
  exact decide_eq_true (by omega)
theorem leV_total (a b : Ent) : (leV a b || leV b a) = true := by
  unfold leV
  by_cases c : a.1 ≤ b.1
  · rw [decide_eq_true c]; rfl
  · rw [decide_eq_true (show b.1 ≤ a.1 by omega), Bool.or_true]
theorem leV_pw {l : List Ent} (h : l.Pairwise fun a b => a.1 ≤ b.1) : l.Pairwise fun a b => leV a b = true := h.imp fun h => decide_eq_true h
theorem join_valid {n1 n2 : Int} {es1 es2 : List Ent} (v1 : Valid n1 es1) (f1 : Fits n1 es1) (v2 : Valid n2 es2) (f2 : Fits n2 es2) (hl : es1.length + es2.length ≤ 12) (hn : n1 + n2 ≤ 10 ^ 30) : Valid (n1 + n2) (joinE n1 es1 n2 es2) := by
  have a := v1.n1
  have b := v2.n1
  refine valid_mk (by omega) hn (by rw [joinE_len]; exact hl) (fun e he => ?_) ?_
  · rcases List.mem_merge.mp he with h | h
    · exact joinL_ok v1 f1 v2 f2 e h
    · have := joinL_ok v2 f2 v1 f1 e h
      rw [Int.add_comm n1 n2]
      exact this
  · exact (List.pairwise_merge leV_trans leV_total _ _ (leV_pw (joinL_asc v1)) (leV_pw (joinL_asc v2))).imp fun h => of_decide_eq_true h
/-- the sort of both by their values -/
theorem join_sort {n1 n2 : Int} {es1 es2 : List Ent} (v1 : Valid n1 es1) (v2 : Valid n2 es2) : (joinL n1 es1 n2 es2 0 ++ joinL n2 es2 n1 es1 1).mergeSort leV = joinE n1 es1 n2 es2 :=
  msort_append leV_trans leV_total (leV_pw (joinL_asc v1)) (leV_pw (joinL_asc v2))
theorem put_valid {n v : Int} {es : List Ent} (hv : Valid n es) (hF : Fits n es) (h1 : -10 ^ 30 ≤ v) (h2 : v ≤ 10 ^ 30) (hl : es.length + 1 ≤ 12) (hn : n + 1 ≤ 10 ^ 30) : Valid (n + 1) (putE n es v) := by
  rw [← put_join hv]
  exact join_valid hv hF (one_valid h1 h2) (one_fits v) hl hn
theorem one_lvs (v : Int) : Lvs [v] [(v, 1, 1)] := ⟨1, Int.zero_lt_one, Int.le_refl _, Int.le_refl _, rfl, trivial⟩
theorem put_leaves {n v : Int} {es : List Ent} {r s : List Int} (hv : Valid n es) (h : Lvs r es) (hr : r.Pairwise (· ≤ ·)) (hl : (r.length : Int) = n) (h1 : -10 ^ 30 ≤ v) (h2 : v ≤ 10 ^ 30) (hs : s.Pairwise (· ≤ ·)) (hp : s.Perm (r ++ [v])) : Lvs s (putE n es v) := by
  rw [← put_join hv]
  exact join_leaves hv (one_valid h1 h2) h (one_lvs v) hr (List.pairwise_singleton _ _) hl rfl hs hp
end SR

set_option Elab.async false
set_option linter.all false
set_option maxRecDepth 100000
set_option maxHeartbeats 4000000
/-! A def whose code object is known; things that stay where only tables change; a sort of entries by their values. -/
namespace SR
open PySem PySem.Spec PyProof.Rows L2
open LamX (Tabs ExtN TabB CodeO)
theorem pr_unzip {A B : Type} {F : A → B → Prop} : ∀ {l : List (A × B)}, (∀ p ∈ l, F p.1 p.2) → Paired F (l.map (·.1)) (l.map (·.2))
  | [], _ => .nil
  | p :: l, h => .cons (h p (List.mem_cons_self ..)) (pr_unzip fun q hq => h q (List.mem_cons_of_mem _ hq))
theorem pr_zip {A B : Type} {F : A → B → Prop} : ∀ {l : List A} {m : List B}, Paired F l m → (l.zip m).map (·.1) = l ∧ (l.zip m).map (·.2) = m ∧ ∀ p ∈ l.zip m, F p.1 p.2
  | _, _, .nil => ⟨rfl, rfl, fun p hp => nomatch hp⟩
  | _, _, .cons (a := a) (b := b) r t => by
    obtain ⟨h1, h2, h3⟩ := pr_zip t
    refine ⟨by simp only [List.zip_cons_cons, List.map_cons, h1], by simp only [List.zip_cons_cons, List.map_cons, h2], fun p hp => ?_⟩
    rw [List.zip_cons_cons] at hp
    rcases List.mem_cons.mp hp with e | e
    · rw [e]; exact r
    · exact h3 p e
structure FunC (K : PySem.W.Frag) (x qual : Str) (st : Stmt) (f c : Addr) (fd : FuncData) : Prop where
  ex : ∃ (o1 kd dc pr ty : Value) (d1 a1 : Option Addr) (sl : Array (Option Value)), fd = PySem.W.fnOf x qual (defArgs st) (defBody st) (defScope st) .none kd dc pr a1 (.ref c) ty ∧ K.lookup f = some ⟨o1, d1, .func fd, sl⟩ ∧ PySem.W.codeIn K (.ref c) qual = true
theorem FunC.okX {P : Program} {w : World} {K : PySem.W.Frag} {mg : Str → Option Value} {base : Heap} {x qual : Str} {st : Stmt} {f c : Addr} {fd : FuncData} {N ps : List Str} {n : Nat} {sp : Sp} (F : FunC K x qual st f c fd)
    (sc : FnScope N ps (defScope st)) (hl : ∀ vs H Q E, sp vs H Q E → vs.length = ps.length)
    (body : ∀ (A : Around) (outer : List Env) (s : Shared) (H : Hp) (vs : List V) (Q : VK) (E : XK), Room n (A.deeper (envOfC qual (defScope st) s.heap.objs.size f (.ref c))) → sp vs H Q E →
      ∃ tm, PSs (cxOf (L2.CX P w) P w K mg base N qual (defScope st) f (.ref c) A outer s H E) (defBody st) tm ∧ tm { nx := fun _ H' => Q .non H', rt := Q } (start N vs) H) : FnOk P w K mg base (L2.CX P w) (n + 1) f fd ps sp := by
  obtain ⟨o1, kd, dc, pr, ty, d1, a1, sl, rfl, lk, cd⟩ := F.ex
  exact fn_of lk cd sc hl body
theorem tabs_draw {T : List (Addr × Str)} {H H' : Hp} {p c : Addr} (t : Tabs T H) (s : SameD p c H H') (d : DrawAt H p c) : Tabs T H' := fun q hq => by
  obtain ⟨ps, h1, h2, h3⟩ := t q hq
  refine ⟨ps, s.keep d h1 (fun xs z => nomatch z), h2, fun pos cv hc => ?_⟩
  obtain ⟨c', e1, e2⟩ := h3 pos cv hc
  exact ⟨c', e1, s.keep d e2 (fun xs z => by unfold CodeO at z; cases z)⟩
theorem EntV.ext {H H' : Hp} {v : V} {e : Ent} (s : ExtN H H') (h : EntV H v e) : EntV H' v e := let ⟨t, a, b⟩ := h; ⟨t, a, s _ _ b (fun _ z => nomatch z)⟩
theorem EntsV.ext {H H' : Hp} {vs : List V} {es : List Ent} (s : ExtN H H') (h : EntsV H vs es) : EntsV H' vs es := Paired.mapP h fun _ _ x => EntV.ext s x
theorem TupV.ext {H H' : Hp} {v : V} {es : List Ent} (s : ExtN H H') (h : TupV H v es) : TupV H' v es := let ⟨a, vs, e, b, c⟩ := h; ⟨a, vs, e, s _ _ b (fun _ z => nomatch z), EntsV.ext s c⟩
theorem SumV.ext {C : Addr} {H H' : Hp} {v : V} {n : Int} {es : List Ent} (s : ExtN H H') (h : SumV C H v n es) : SumV C H' v n es := let ⟨p, dx, u, e, b, c⟩ := h; ⟨p, dx, u, e, s _ _ b (fun _ z => nomatch z), TupV.ext s c⟩
theorem DrawAt.ext {H H' : Hp} {p c : Addr} (s : ExtN H H') (d : DrawAt H p c) : DrawAt H' p c := let ⟨s', i, cs, h1, h2, r⟩ := d; ⟨s', i, cs, s _ _ h1 (fun _ z => nomatch z), s _ _ h2 (fun _ z => nomatch z), r⟩
/-- entries sorted by their values -/
theorem ents_sort {H : Hp} {us : List V} {es : List Ent} (h : EntsV H us es) : ∃ l : List (V × Int), l.map (·.1) = us ∧ (∀ p ∈ l, FirstI H p.1 p.2) ∧ ∀ H2, ExtN H H2 → EntsV H2 (sortedBy (fun a b : Int => decide (a ≤ b)) l) (es.mergeSort fun a b => decide (a.1 ≤ b.1)) := by
  obtain ⟨h1, h2, h3⟩ := pr_zip h
  refine ⟨(us.zip es).map fun p => (p.1, p.2.1), ?_, fun p hp => ?_, fun H2 e => ?_⟩
  · rw [List.map_map]
    exact h1
  · obtain ⟨q, hq, rfl⟩ := List.mem_map.mp hp
    obtain ⟨t, a, b⟩ := h3 q hq
    exact ⟨t, _, a, b⟩
  · have q := pr_unzip (F := EntV H2) (l := (us.zip es).mergeSort fun a b => decide (a.2.1 ≤ b.2.1)) fun p hp => EntV.ext e (h3 p (List.mem_mergeSort.mp hp))
    have e2 : ((us.zip es).mergeSort fun a b => decide (a.2.1 ≤ b.2.1)).map (·.2) = es.mergeSort fun a b => decide (a.1 ≤ b.1) := by
      rw [List.map_mergeSort (s := fun a b : Ent => decide (a.1 ≤ b.1)) (f := Prod.snd) (fun a _ b _ => rfl), h2]
    have e1 : sortedBy (fun a b : Int => decide (a ≤ b)) ((us.zip es).map fun p => (p.1, p.2.1)) = ((us.zip es).mergeSort fun a b => decide (a.2.1 ≤ b.2.1)).map (·.1) := by
      unfold sortedBy
      rw [← List.map_mergeSort (r := fun a b : V × Ent => decide (a.2.1 ≤ b.2.1)) (s := fun a b : V × Int => decide (a.2 ≤ b.2)) (f := fun p : V × Ent => (p.1, p.2.1)) (fun a _ b _ => rfl), List.map_map]
      rfl
    rw [e1, ← e2]
    exact q
end SR

set_option Elab.async false
set_option linter.all false
set_option maxRecDepth 100000
set_option maxHeartbeats 4000000
/-! What below and up_to tell of a tightened summary; the entries with one more. -/
namespace SR
open PySem PySem.Spec PyProof.Rows L2
section
variable {n : Int} {es : List Ent}
theorem pick_tight (p : Ent → Bool) (f : Ent → Int) : pick p f (tightL n es) = ((List.range es.length).filter fun j => p (vl es j, tlo es j, thi n es j)).map fun j => f (vl es j, tlo es j, thi n es j) := by
  unfold pick tightL
  rw [List.filter_map, List.map_map]
  rfl
theorem pick_bl (z : Int) : pick (fun e => decide (e.1 < z)) (fun e => e.2.1) (tightL n es) = belLow es z := pick_tight _ _
theorem pick_bh (z : Int) : pick (fun e => decide (z ≤ e.1)) (fun e => e.2.2 - 1) (tightL n es) = belHigh n es z := pick_tight _ _
theorem opt_top0 {l : List Int} {b : Int} {x : V} (o : OptMax l (.int b) x) (h : ∀ a ∈ l, b ≤ a) : x = .int (topD b l) := by
  rcases o with ⟨e, rfl⟩ | ⟨m, rfl, hm, hle⟩
  · subst e; rfl
  · have h1 := (topD_ge l b).2 m hm
    have h2 := h m hm
    rcases topD_in l b with e | e
    · rw [show topD b l = m by omega]
    · have := hle _ e
      rw [show topD b l = m by omega]
theorem opt_bot0 {l : List Int} {t : Int} {x : V} (o : OptMin l (.int t) x) (h : ∀ a ∈ l, a ≤ t) : x = .int (botD t l) := by
  rcases o with ⟨e, rfl⟩ | ⟨m, rfl, hm, hle⟩
  · subst e; rfl
  · have h1 := (botD_le l t).2 m hm
    have h2 := h m hm
    rcases botD_in l t with e | e
    · rw [show botD t l = m by omega]
    · have := hle _ e
      rw [show botD t l = m by omega]
end
theorem tlo_again {n : Int} {es : List Ent} : ∀ j, j < es.length → tlo (tightL n es) j = tlo es j
  | 0, h => by
    rw [tlo_zero, lo_of (tight_at h)]
    have := tlo_pos es 0
    show max (tlo es 0) 1 = tlo es 0
    omega
  | j + 1, h => by
    rw [tlo_succ, tlo_again j (by omega), lo_of (tight_at h)]
    have := tlo_rise es j
    show max (tlo es (j + 1)) (tlo es j + 1) = tlo es (j + 1)
    omega
theorem thi_again {n : Int} {es : List Ent} : ∀ (m j : Nat), j < es.length → es.length - 1 - j = m → thi n (tightL n es) j = thi n es j
  | 0, j, h, e => by
    have ej : j = es.length - 1 := by omega
    have h1 := thi_last (n := n) (es := tightL n es) (by rw [tight_len]; omega)
    rw [tight_len, ← ej] at h1
    rw [h1, hi_of (tight_at h)]
    have := thi_le (n := n) h
    show min (thi n es j) n = thi n es j
    omega
  | m + 1, j, h, e => by
    have h1 := thi_step (n := n) (es := tightL n es) (j := j) (by rw [tight_len]; omega)
    rw [h1, thi_again m (j + 1) (by omega) (by omega), hi_of (tight_at h)]
    have := thi_step (n := n) (es := es) (j := j) (by omega)
    show min (thi n es j) (thi n es (j + 1) - 1) = thi n es j
    omega
theorem tight_again (n : Int) (es : List Ent) : tightL n (tightL n es) = tightL n es := by
  have e : ∀ j, j < es.length → (vl (tightL n es) j, tlo (tightL n es) j, thi n (tightL n es) j) = (vl es j, tlo es j, thi n es j) := fun j h => by
    rw [vl_of (tight_at h), tlo_again j h, thi_again _ j h rfl]
  show (List.range (tightL n es).length).map (fun j => (vl (tightL n es) j, tlo (tightL n es) j, thi n (tightL n es) j)) = (List.range es.length).map fun j => (vl es j, tlo es j, thi n es j)
  rw [tight_len]
  exact List.map_congr_left fun j h => e j (List.mem_range.mp h)
theorem fits_tight {n : Int} {es : List Ent} (h : Fits n es) : Fits n (tightL n es) := fun j hj => by
  rw [tight_len] at hj
  rw [tlo_again j hj, thi_again _ j hj rfl]
  exact h j hj
theorem bel_again (n : Int) (es : List Ent) (z : Int) : belLow (tightL n es) z = belLow es z ∧ belHigh n (tightL n es) z = belHigh n es z := by
  rw [← pick_bl (n := n), ← pick_bl (n := n) (es := es), ← pick_bh, ← pick_bh (es := es), tight_again]
  exact ⟨rfl, rfl⟩
/-- what below tells of the tightened -/
theorem told_low {n z d : Int} {es : List Ent} {x : V} (o : OptMax (pick (fun e => decide (e.1 < z + d)) (fun e => e.2.1) (tightL n (tightL n es))) (.int 0) x) : x = .int (topD 0 (belLow es (z + d))) := by
  rw [tight_again, pick_bl] at o
  exact opt_top0 o fun a ha => by
    obtain ⟨j, _, _, e⟩ := mem_belLow.mp ha
    have := tlo_pos es j
    omega
theorem told_high {n z d : Int} {es : List Ent} {y : V} (o : OptMin (pick (fun e => decide (z + d ≤ e.1)) (fun e => e.2.2 - 1) (tightL n (tightL n es))) (.int n) y) : y = .int (botD n (belHigh n es (z + d))) := by
  rw [tight_again, pick_bh] at o
  exact opt_bot0 o fun a ha => by
    obtain ⟨j, hj, _, e⟩ := mem_belHigh.mp ha
    have := thi_le (n := n) hj
    omega
theorem ew_put {n z : Int} {es : List Ent} (hv : Valid n es) : ewL n (tightL n es) z = putE n es z := by
  unfold ewL putE
  have p1 : (fun e : Ent => decide (e.1 ≤ z)) = fun e => decide (e.1 < z + 1) := by
    funext e
    exact decide_eq_decide.mpr ⟨fun h => by omega, fun h => by omega⟩
  have p2 : (fun e : Ent => decide (z < e.1)) = fun e => decide (z + 1 ≤ e.1) := by
    funext e
    exact decide_eq_decide.mpr ⟨fun h => by omega, fun h => by omega⟩
  obtain ⟨t1, t2⟩ := spot_take (tight_asc hv) (z + 1)
  have hs := spot_le (tightL n es) (z + 1)
  rw [p1, p2, t1, t2]
  have e1 : lowOf ((tightL n es).take (spotL (tightL n es) (z + 1))) = 1 + topD 0 (belLow es (z + 1)) := by
    rw [top_spot hv]
    unfold lowOf
    rw [List.length_take, Nat.min_eq_left hs]
    by_cases c : spotL (tightL n es) (z + 1) = 0
    · rw [if_pos c, if_pos c]; rfl
    · rw [if_neg c, if_neg c]
      have hg : (tightL n es)[spotL (tightL n es) (z + 1) - 1]? = some ((tightL n es)[spotL (tightL n es) (z + 1) - 1]'(by omega)) := List.getElem?_eq_getElem (by omega)
      rw [lo_of hg, lo_of (show ((tightL n es).take (spotL (tightL n es) (z + 1)))[spotL (tightL n es) (z + 1) - 1]? = _ by rw [List.getElem?_take_of_lt (by omega)]; exact hg)]
      omega
  have e2 : highOf n ((tightL n es).drop (spotL (tightL n es) (z + 1))) = 1 + botD n (belHigh n es (z + 1)) := by
    rw [bot_spot hv]
    unfold highOf
    rw [List.length_drop, ← tight_len n es]
    by_cases c : spotL (tightL n es) (z + 1) < (tightL n es).length
    · rw [if_neg (by omega), if_pos c]
      have hg : (tightL n es)[spotL (tightL n es) (z + 1)]? = some ((tightL n es)[spotL (tightL n es) (z + 1)]) := List.getElem?_eq_getElem c
      rw [hi_of hg, hi_of (show ((tightL n es).drop (spotL (tightL n es) (z + 1)))[0]? = _ by rw [List.getElem?_drop]; exact hg)]
      omega
    · rw [if_pos (by omega), if_neg c]; omega
  rw [e1, e2]
end SR

set_option Elab.async false
set_option linter.all false
set_option maxRecDepth 100000
set_option maxHeartbeats 4000000
/-! put_in, joined. -/
namespace SR
open PySem PySem.Spec PyProof.Rows L2
open LamX (Tabs ExtN TabB CodeO)

section
variable {P : Program} {w : World} {K : PySem.W.Frag} {mg : Str → Option Value} {base : Heap} {C C_NoRow C_Full C_BadCount fI cJ PJ : Addr}
def spPut (C N Fu : Addr) : Sp := fun vs H Q E => ∃ (v : V) (n z : Int) (es : List Ent), vs = [v, .int z] ∧ SumV C H v n es ∧ Valid n es ∧ -10 ^ 30 ≤ z ∧ z ≤ 10 ^ 30 ∧ n + 1 ≤ 10 ^ 30 ∧ (¬ Fits n es → ∀ H', Same H H' → E (.ref N) none H') ∧
  (Fits n es → 12 < es.length + 1 → ∀ H', Same H H' → E (.ref Fu) none H') ∧ (Fits n es → es.length + 1 ≤ 12 → ∀ H' p, Same H H' → SumV C H' (.ref p) (n + 1) (putE n es z) → Q (.ref p) H')
def spCkVal : Sp := fun vs H Q _ => ∃ z : Int, vs = [.int z] ∧ -10 ^ 30 ≤ z ∧ z ≤ 10 ^ 30 ∧ Q .non H
theorem sc_check_value : FnScope ["thing"] ["thing"] (defScope s_check_value) := ⟨rfl, rfl, rfl, by decide +kernel, rfl, by decide +kernel, by decide +kernel⟩
theorem ok_check_value {f : Addr} {fd : FuncData} (F : Fun K "check_value" "check_value" s_check_value f fd)  (D_is_value : Dn P w K mg base "is_value" ["thing"] 3 (spIsValue))  : FnOk P w K mg base CX0 4 f fd ["thing"] (spCkVal) := by
  refine F.ok sc_check_value (fun vs H Q E h => ?_) (fun cdv A outer s H vs Q E hr h => ?_)
  · obtain ⟨z, rfl, _⟩ := h
    rfl
  · obtain ⟨z, rfl, z1, z2, k⟩ := h
    have nd := sc_check_value.nd
    have hr3 : Room 3 _ := hr.mono (by decide)
    refine ⟨_, pss_one (ps_if (pt_not (pt_val (pe_dn D_is_value hr3 (pa_cons (pv 0) pa_nil)))) (pss_one ps_never) pss_nil), ?_⟩
    refine ⟨_, rfl, z, rfl, ?_⟩
    rw [decide_eq_true z1, decide_eq_true z2]
    exact ⟨true, rfl, iteF k⟩
-- @prem check_value check_value  : D_is_value
theorem sc_put_in : FnScope ["summary", "value", "tight"] ["summary", "value"] (defScope s_put_in) := ⟨rfl, rfl, rfl, by decide +kernel, rfl, by decide +kernel, by decide +kernel⟩
theorem ok_put_in {f : Addr} {fd : FuncData} (F : Fun K "put_in" "put_in" s_put_in f fd)  (D_surely_tightened : DnX P w K mg base "surely_tightened" ["summary"] 9 (spSure C C_NoRow)) (D_check_value : Dn P w K mg base "check_value" ["thing"] 4 (spCkVal)) (D__check_room : DnX P w K mg base "_check_room" ["length"] 2 (spRoom C_Full)) (m_len : mg "len" = none) (DL : DLen P w K mg base C) (T : SumT K mg C) (DS : DnMk P w K mg base C) (D_entries_with : Dn P w K mg base "entries_with" ["many", "entries", "value"] 2 (spEw)) (DE : Pr P w K mg base C "entries" 1 (getSp C "_entries")) (DM : Pr P w K mg base C "many" 1 (getSp C "_many"))  : FnOk P w K mg base (L2.CX P w) 10 f fd ["summary", "value"] (spPut C C_NoRow C_Full) := by
  obtain ⟨fL, fdL, GL, hsL, hfL, bL⟩ := DL
  refine F.okX sc_put_in (fun vs H Q E h => ?_) (fun cdv A outer s H vs Q E hr h => ?_)
  · obtain ⟨v, n, z, es, rfl, _⟩ := h
    rfl
  · obtain ⟨v, n, z, es, rfl, hS, hv, z1, z2, n1, kN, kF, kS⟩ := h
    have nd := sc_put_in.nd
    have hr2 : Room 2 _ := hr.mono (by decide)
    have hr4 : Room 4 _ := hr.mono (by decide)
    have hr7 : Room 7 _ := hr.mono (by decide)
    have hr9 : Room 9 _ := hr.mono (by decide)
    refine ⟨_, pss_cons (ps_set (i := 2) nd rfl (Or.inl rfl) (pe_dnX (W := fun cls d _ H => E cls d H) D_surely_tightened hr9 (takes_of rfl rfl rfl rfl) (pa_cons (pv 0) pa_nil)))
        (pss_cons (ps_expr (pe_dn D_check_value hr4 (pa_cons (pv 1) pa_nil)))
        (pss_cons (ps_expr (pe_dnX (W := fun cls d _ H => E cls d H) D__check_room hr2 (takes_of rfl rfl rfl rfl) (pa_cons (pe_op op_add (pe_callB (call_lenO GL hr2 hsL hfL bL pass0) (by rfl) m_len PySem.boot_len (pa_cons (pv 2) pa_nil)) pe_int) pa_nil)))
        (pss_one (ps_ret (pe_mkS DS T hr7 (pa_cons (pe_op op_add (pe_pr DM T.ic.cl hr2 (pv 2)) pe_int) (pa_cons (pe_dn D_entries_with hr2 (pa_cons (pe_pr DM T.ic.cl hr2 (pv 2)) (pa_cons (pe_pr DE T.ic.cl hr2 (pv 2)) (pa_cons (pv 1) pa_nil)))) pa_nil))))))), ?_⟩
    have h12 := hv.len
    refine ⟨_, rfl, v, n, es, rfl, hS, hv, kN, fun hF H1 p s1 hp1 => ?_⟩
    have tl := tight_len n es
    obtain ⟨p1, dx1, u1, e1, hq1, hu1⟩ := id hp1
    cases e1
    refine ⟨_, rfl, z, rfl, z1, z2, ?_⟩
    refine ⟨_, rfl, p, dx1, _, rfl, hq1, _, n, _, rfl, hp1, _, rfl, by omega, by rw [tl]; omega, _, _, rfl, rfl, _, rfl, fun c => ?_, fun c => ?_⟩
    · exact kF hF (by rw [tl] at c; omega) H1 s1
    · rw [tl] at c
      refine ⟨_, rfl, p, dx1, _, rfl, hq1, p, dx1, _, _, rfl, hq1, sfl_many _ _, _, _, rfl, rfl, ?_⟩
      refine ⟨_, rfl, p, dx1, _, rfl, hq1, p, dx1, _, _, rfl, hq1, sfl_many _ _, _, rfl, p, dx1, _, rfl, hq1, p, dx1, _, _, rfl, hq1, sfl_entries _ _, _, rfl, _, n, z, _, rfl, hu1, by rw [tl]; omega, fun H2 u2 s2 hu2 => ?_⟩
      rw [ew_put hv] at hu2
      exact fun x dx nx nd' ne => sum_mk hu2 (put_valid hv hF z1 z2 (by omega) n1) nx nd' ne fun H3 s3 hs3 => kS hF (by omega) H3 x ((s1.trans s2).trans s3) hs3
-- @prem put_in put_in X : D_surely_tightened D_check_value D__check_room m_len DL T DS D_entries_with DE DM
end
end SR

set_option Elab.async false
set_option linter.all false
set_option maxRecDepth 100000
set_option maxHeartbeats 4000000
/-! joined. -/
namespace SR
open PySem PySem.Spec PyProof.Rows L2
open LamX (Tabs ExtN TabB CodeO)

section
variable {P : Program} {w : World} {K : PySem.W.Frag} {mg : Str → Option Value} {base : Heap} {C C_NoRow C_Full C_BadCount fI cJ PJ : Addr}
def joinT (PJ : Addr) : List (Addr × Str) := [(PJ, ("joined" : Str) ++ ".<locals>." ++ "<lambda>")]
def spJoin (C N Fu B PJ : Addr) : Sp := fun vs H Q E => ∃ (v1 v2 : V) (n1 n2 : Int) (es1 es2 : List Ent), vs = [v1, v2] ∧ SumV C H v1 n1 es1 ∧ Valid n1 es1 ∧ SumV C H v2 n2 es2 ∧ Valid n2 es2 ∧ Tabs (joinT PJ) H ∧
  (¬ (Fits n1 es1 ∧ Fits n2 es2) → ∀ H', Same H H' → E (.ref N) none H') ∧ (Fits n1 es1 → Fits n2 es2 → 12 < es1.length + es2.length → ∀ H', Same H H' → E (.ref Fu) none H') ∧
  (Fits n1 es1 → Fits n2 es2 → es1.length + es2.length ≤ 12 → 10 ^ 30 < n1 + n2 → ∀ H', ExtN H H' → Tabs (joinT PJ) H' → E (.ref B) none H') ∧
  (Fits n1 es1 → Fits n2 es2 → es1.length + es2.length ≤ 12 → n1 + n2 ≤ 10 ^ 30 → ∀ H' p, ExtN H H' → Tabs (joinT PJ) H' → SumV C H' (.ref p) (n1 + n2) (joinE n1 es1 n2 es2) → Q (.ref p) H')
theorem sc_joined : FnScope ["one", "other", "first", "second", "entries", "entry"] ["one", "other"] (defScope s_joined) := ⟨rfl, rfl, rfl, by decide +kernel, rfl, by decide +kernel, by decide +kernel⟩
set_option maxHeartbeats 16000000 in
theorem ok_joined {f : Addr} {fd : FuncData} (F : FunC K "joined" "joined" s_joined f cJ fd)  (D_check_summary : Dn P w K mg base "check_summary" ["summary"] 1 (spCkSum C)) (D_surely_tightened : DnX P w K mg base "surely_tightened" ["summary"] 9 (spSure C C_NoRow)) (D__check_room : DnX P w K mg base "_check_room" ["length"] 2 (spRoom C_Full)) (m_len : mg "len" = none) (DL : DLen P w K mg base C) (T : SumT K mg C) (DE : Pr P w K mg base C "entries" 1 (getSp C "_entries")) (D__raised : Dn P w K mg base "_raised" ["entry", "ranks"] 1 (spRaised)) (D_below : Dn P w K mg base "below" ["summary", "value"] 10 (spBelow C 0)) (D_up_to : Dn P w K mg base "up_to" ["summary", "value"] 10 (spBelow C 1)) (DM : Pr P w K mg base C "many" 1 (getSp C "_many")) (DSX : DnMkX P w K mg base C C_BadCount) (m_tuple : mg "tuple" = none) (m_sorted : mg "sorted" = none) (TB : TabB base mg cJ PJ) : FnOk P w K mg base (L2.CX P w) 11 f fd ["one", "other"] (spJoin C C_NoRow C_Full C_BadCount PJ) := by
  obtain ⟨fL, fdL, GL, hsL, hfL, bL⟩ := DL
  refine F.okX sc_joined (fun vs H Q E h => ?_) (fun A outer s H vs Q E hr h => ?_)
  · obtain ⟨v1, v2, n1, n2, es1, es2, rfl, _⟩ := h
    rfl
  · obtain ⟨v1, v2, n1, n2, es1, es2, rfl, hS1, hv1, hS2, hv2, hT, kN, kF, kB, kS⟩ := h
    have nd := sc_joined.nd
    have hr1 : Room 1 _ := hr.mono (by decide)
    have hr2 : Room 2 _ := hr.mono (by decide)
    have hr4 : Room 4 _ := hr.mono (by decide)
    have hr7 : Room 7 _ := hr.mono (by decide)
    have hr9 : Room 9 _ := hr.mono (by decide)
    have hr10 : Room 10 _ := hr.mono (by decide)
    refine ⟨_, pss_cons (ps_expr (pe_dn D_check_summary hr1 (pa_cons (pv 0) pa_nil)))
        (pss_cons (ps_expr (pe_dn D_check_summary hr1 (pa_cons (pv 1) pa_nil)))
        (pss_cons (ps_set (i := 2) nd rfl (Or.inr rfl) (pe_dnX (W := fun cls d _ H => E cls d H) D_surely_tightened hr9 (takes_of rfl rfl rfl rfl) (pa_cons (pv 0) pa_nil)))
        (pss_cons (ps_set (i := 3) nd rfl (Or.inr rfl) (pe_dnX (W := fun cls d _ H => E cls d H) D_surely_tightened hr9 (takes_of rfl rfl rfl rfl) (pa_cons (pv 1) pa_nil)))
        (pss_cons (ps_expr (pe_dnX (W := fun cls d _ H => E cls d H) D__check_room hr2 (takes_of rfl rfl rfl rfl) (pa_cons (pe_op op_add (pe_callB (call_lenO GL hr2 hsL hfL bL pass0) (by rfl) m_len PySem.boot_len (pa_cons (pv 2) pa_nil)) (pe_callB (call_lenO GL hr2 hsL hfL bL pass0) (by rfl) m_len PySem.boot_len (pa_cons (pv 3) pa_nil))) pa_nil)))
        (pss_cons (ps_setLc (i := 4) (own := [("entry", 5)]) (g := gName 5) (tt := tYes) (te := tCall (spRaised) [] E0 (tCons (tVar 5) (tCons (tCall (spBelow C 0) [] E0 (tCons (tVar 3) (tCons (tOp (rIxT K) (tVar 5) (tC (.int 0))) tNil))) tNil))) rfl nd rfl rfl (sw_true rfl rfl rfl (by decide +kernel)) (pi_tup (pe_pr DE T.ic.cl hr2 (pv 2))) (blkOk_by (own := [("entry", 5)]) (N := ["one", "other", "first", "second", "entries", "entry"]) (sc := defScope s_joined) (by decide +kernel)) (fun _ _ _ _ _ => (pg_name (i := 5) nd rfl (Or.inl rfl))) (fun _ _ _ _ _ => pts_nil) (fun _ _ _ _ _ => (pe_dn D__raised hr1 (pa_cons (pv 5) (pa_cons (pe_dn D_below hr10 (pa_cons (pv 3) (pa_cons (pe_ix ix_tup (pv 5) pe_int (fun _ _ => rfl)) pa_nil))) pa_nil)))))
        (pss_cons (ps_expr (pe_bm PySem.F.plainAttrs_list PySem.F.slot_list_extend PySem.F.type_list_extend mt_extend (pv 4) (pa_cons (pe_lc (own := [("entry", 5)]) (g := gName 5) (tt := tYes) (te := tCall (spRaised) [] E0 (tCons (tVar 5) (tCons (tCall (spBelow C 1) [] E0 (tCons (tVar 2) (tCons (tOp (rIxT K) (tVar 5) (tC (.int 0))) tNil))) tNil))) rfl nd (pi_tup (pe_pr DE T.ic.cl hr2 (pv 3))) (blkOk_by (own := [("entry", 5)]) (N := ["one", "other", "first", "second", "entries", "entry"]) (sc := defScope s_joined) (by decide +kernel)) (fun _ _ _ _ _ => (pg_name (i := 5) nd rfl (Or.inl rfl))) (fun _ _ _ _ _ => pts_nil) (fun _ _ _ _ _ => (pe_dn D__raised hr1 (pa_cons (pv 5) (pa_cons (pe_dn D_up_to hr10 (pa_cons (pv 2) (pa_cons (pe_ix ix_tup (pv 5) pe_int (fun _ _ => rfl)) pa_nil))) pa_nil))))) pa_nil)))
        (pss_one (ps_ret (pe_mkSX DSX T hr7 (takes_of rfl rfl rfl rfl) (pa_cons (pe_op op_add (pe_pr DM T.ic.cl hr2 (pv 2)) (pe_pr DM T.ic.cl hr2 (pv 3))) (pa_cons (pe_callTy (T := "tuple") call_tupK (by rfl) m_tuple (by decide +kernel) (pa_cons (pe_sortIx0 (T := joinT PJ) m_sorted TB rfl (List.mem_singleton.mpr rfl) (fun p hp _ => by rw [List.mem_singleton.mp hp]; rfl) hr4 (pa_cons (pv 4) pa_nil) ⟨rfl, rfl, rfl, rfl, by decide +kernel⟩) pa_nil)) pa_nil))))))))))), ?_⟩
    have l12 := hv1.len
    have l22 := hv2.len
    refine ⟨_, rfl, v1, n1, es1, rfl, hS1, ?_⟩
    refine ⟨_, rfl, v2, n2, es2, rfl, hS2, ?_⟩
    refine ⟨_, rfl, v1, n1, es1, rfl, hS1, hv1, fun hf H1 s1 => kN (fun h => hf h.1) H1 s1, fun hf1 H1 p1 s1 h1 => ?_⟩
    refine ⟨_, rfl, v2, n2, es2, rfl, hS2.mono s1, hv2, fun hf H2 s2 => kN (fun h => hf h.2) H2 (s1.trans s2), fun hf2 H2 p2 s2 h2 => ?_⟩
    have tl1 := tight_len n1 es1
    have tl2 := tight_len n2 es2
    have h1 := h1.mono s2
    obtain ⟨q1, dx1, u1, e1, hp1, a1, us1, eu1, ha1, he1⟩ := id h1
    cases e1
    subst eu1
    obtain ⟨q2, dx2, u2, e2, hp2, a2, us2, eu2, ha2, he2⟩ := id h2
    cases e2
    subst eu2
    have s12 := s1.trans s2
    refine ⟨_, rfl, p1, dx1, _, rfl, hp1, _, n1, _, rfl, h1, _, rfl, by omega, by rw [tl1]; omega, _, rfl, p2, dx2, _, rfl, hp2, _, n2, _, rfl, h2, _, rfl, by omega, by rw [tl2]; omega, _, _, rfl, rfl, _, rfl, fun c => ?_, fun c => ?_⟩
    · exact kF hf1 hf2 (by rw [tl1, tl2] at c; omega) H2 s12
    rw [tl1, tl2] at c
    have hl : es1.length + es2.length ≤ 12 := by omega
    have kB' := kB hf1 hf2 hl
    have kS' := kS hf1 hf2 hl
    clear kN kF kB kS
    have T2 := hT.ext s12
    -- the first's
    obtain ⟨A, hA⟩ : ∃ A, A = tightL n1 es1 := ⟨_, rfl⟩
    obtain ⟨B, hB⟩ : ∃ B, B = tightL n2 es2 := ⟨_, rfl⟩
    rw [← hA] at he1
    rw [← hB] at he2
    refine ⟨_, rfl, p1, dx1, _, rfl, hp1, p1, dx1, _, _, rfl, hp1, sfl_entries _ _, a1, rfl, ⟨_, SqT.of ha1⟩, fun D nD => ?_⟩
    refine lc_tup (K := K) (a := a1) (xs := us1) (fun i H' => ∃ us, H' D = some (.lst us) ∧ EntsV H' us ((A.take i).map fun e => rse e (topD 0 (belLow es2 (e.1 + 0))) (botD n2 (belHigh n2 es2 (e.1 + 0)))) ∧ Same H2 H') ⟨[], upd_same, .nil, Same_new nD⟩ (fun i H' _ ⟨_, _, _, s5⟩ => SqT.of (s5 _ _ ha1)) ?_ ?_
    · rintro i x H' hx ⟨us, hD, hus, s5⟩
      obtain ⟨e, hei, t, rfl, ht⟩ := pr_at' he1 hx
      have hil : i < A.length := (List.getElem?_eq_some_iff.mp hei).1
      refine ⟨rfl, tyes_of ?_⟩
      rw [if_pos rfl]
      refine ⟨_, rfl, _, rfl, _, rfl, t, _, _, _, rfl, rfl, SqT.of (s5 _ _ ht), rfl, .ref p2, n2, e.1, tightL n2 es2, rfl, h2.mono s5, hv2.tight hf2, fits_tight hf2, fun H5 q x y s6 hq ox oy => ?_⟩
      have ex := told_low ox
      have ey := told_high oy
      subst ex ey
      have s56 := s5.trans s6
      refine ⟨_, _, q, e, _, _, rfl, ⟨t, rfl, s56 _ _ ht⟩, rfl, hq, fun H6 r s7 nr hr => ?_⟩
      have s67 := s6.trans s7
      have hD6 := s67 _ _ hD
      refine ⟨us, hD6, ?_, us ++ [.ref r], upd_same, ?_, Same_mut (s5.trans s67) nD⟩
      · rw [hus.len, List.length_map, List.length_take]
        exact small1000 (by rw [hA, tl1] at hil; omega)
      · rw [List.take_add_one, hei, List.map_append]
        refine pr_app (Paired.mapP hus fun v w' ⟨t2', ev, et2⟩ => ⟨t2', ev, ?_⟩) (.cons ⟨r, rfl, ?_⟩ .nil)
        · rw [upd_ne (ne_of (s67 _ _ et2) hD6 (by intro z; cases z))]; exact s67 _ _ et2
        · rw [upd_ne (ne_of hr hD6 (by intro z; cases z))]; exact hr
    rintro H3 ⟨usD, hD, husD, s3⟩
    rw [he1.len, List.take_length] at husD
    have husD : EntsV H3 usD (joinL n1 es1 n2 es2 0) := by unfold joinL; rw [← hA]; exact husD
    -- the second's
    have hp2' := s3 _ _ hp2
    refine ⟨_, rfl, .inl ⟨rfl, _, SqL.of hD⟩, _, rfl, p2, dx2, _, rfl, hp2', p2, dx2, _, _, rfl, hp2', sfl_entries _ _, a2, rfl, ⟨_, SqT.of (s3 _ _ ha2)⟩, fun G nG => ?_⟩
    refine lc_tup (K := K) (a := a2) (xs := us2) (fun i H' => ∃ us, H' G = some (.lst us) ∧ EntsV H' us ((B.take i).map fun e => rse e (topD 0 (belLow es1 (e.1 + 1))) (botD n1 (belHigh n1 es1 (e.1 + 1)))) ∧ Same H3 H') ⟨[], upd_same, .nil, Same_new nG⟩ (fun i H' _ ⟨_, _, _, s5⟩ => SqT.of (s5 _ _ (s3 _ _ ha2))) ?_ ?_
    · rintro i x H' hx ⟨us, hG, hus, s5⟩
      obtain ⟨e, hei, t, rfl, ht⟩ := pr_at' (he2.mono s3) hx
      have hil : i < B.length := (List.getElem?_eq_some_iff.mp hei).1
      refine ⟨rfl, tyes_of ?_⟩
      rw [if_pos rfl]
      refine ⟨_, rfl, _, rfl, _, rfl, t, _, _, _, rfl, rfl, SqT.of (s5 _ _ ht), rfl, .ref p1, n1, e.1, tightL n1 es1, rfl, (h1.mono s3).mono s5, hv1.tight hf1, fits_tight hf1, fun H5 q x y s6 hq ox oy => ?_⟩
      have ex := told_low ox
      have ey := told_high oy
      subst ex ey
      have s56 := s5.trans s6
      refine ⟨_, _, q, e, _, _, rfl, ⟨t, rfl, s56 _ _ ht⟩, rfl, hq, fun H6 r s7 nr hr => ?_⟩
      have s67 := s6.trans s7
      have hG6 := s67 _ _ hG
      refine ⟨us, hG6, ?_, us ++ [.ref r], upd_same, ?_, Same_mut (s5.trans s67) nG⟩
      · rw [hus.len, List.length_map, List.length_take]
        exact small1000 (by rw [hB, tl2] at hil; omega)
      · rw [List.take_add_one, hei, List.map_append]
        refine pr_app (Paired.mapP hus fun v w' ⟨t2', ev, et2⟩ => ⟨t2', ev, ?_⟩) (.cons ⟨r, rfl, ?_⟩ .nil)
        · rw [upd_ne (ne_of (s67 _ _ et2) hG6 (by intro z; cases z))]; exact s67 _ _ et2
        · rw [upd_ne (ne_of hr hG6 (by intro z; cases z))]; exact hr
    rintro H4 ⟨usG, hG, husG, s4⟩
    rw [he2.len, List.take_length] at husG
    have husG : EntsV H4 usG (joinL n2 es2 n1 es1 1) := by unfold joinL; rw [← hB]; exact husG
    have lD : usD.length = es1.length := by rw [husD.len, joinL_len]
    have lG : usG.length = es2.length := by rw [husG.len, joinL_len]
    have hD4 := s4 _ _ hD
    refine ⟨D, G, usD, usG, rfl, rfl, hD4, hG, by rw [lD, lG]; exact Nat.le_of_lt (small1000 (by omega)), ?_⟩
    have s24 := s3.trans s4
    have Dfree : H2 D = none := nD
    have s25 : Same H2 (upd H4 D (.lst (usD ++ usG))) := Same_mut s24 Dfree
    have keep : ∀ {l : List V} {es : List Ent}, EntsV H4 l es → EntsV (upd H4 D (.lst (usD ++ usG))) l es := fun h => Paired.mapP h fun v w' ⟨t2', ev, et2⟩ => ⟨t2', ev, by rw [upd_ne (ne_of et2 hD4 (by intro z; cases z))]; exact et2⟩
    have hus : EntsV (upd H4 D (.lst (usD ++ usG))) (usD ++ usG) (joinL n1 es1 n2 es2 0 ++ joinL n2 es2 n1 es1 1) := pr_app (keep (husD.mono s4)) (keep husG)
    obtain ⟨l, e1, e2, e3⟩ := ents_sort hus
    have hp1' := s25 _ _ hp1
    have hp2' := s25 _ _ hp2
    refine ⟨_, rfl, p1, dx1, _, rfl, hp1', p1, dx1, _, _, rfl, hp1', sfl_many _ _, _, rfl, p2, dx2, _, rfl, hp2', p2, dx2, _, _, rfl, hp2', sfl_many _ _, _, _, rfl, rfl, ?_⟩
    refine ⟨_, rfl, D, l, rfl, by rw [e1]; exact SqL.of upd_same, T2.ext s25, e2, fun H6 r eN T6 nr => ?_⟩
    have tr := Same_new (o := .lst (sortedBy (fun a b : Int => decide (a ≤ b)) l)) nr
    refine ⟨r, _, rfl, .inl ⟨SqL.of upd_same, fun z nz => ?_⟩⟩
    have tz := Same_new2 (o := .tup (sortedBy (fun a b : Int => decide (a ≤ b)) l)) tr nz
    have e3' := e3 _ (eN.trans (ExtN.of tz))
    rw [show (joinL n1 es1 n2 es2 0 ++ joinL n2 es2 n1 es1 1).mergeSort (fun a b => decide (a.1 ≤ b.1)) = joinE n1 es1 n2 es2 from join_sort hv1 hv2] at e3'
    have eAll : ExtN H (upd (upd H6 r (.lst (sortedBy (fun a b : Int => decide (a ≤ b)) l))) z (.tup (sortedBy (fun a b : Int => decide (a ≤ b)) l))) := (ExtN.of (s12.trans s25)).trans (eN.trans (ExtN.of tz))
    have Tz := T6.ext tz
    have p1n := hv1.n1
    have p2n := hv2.n1
    exact fun x dx nx nd' ne => sum_mkX ⟨z, _, rfl, upd_same, e3'⟩ (by omega) nx nd' ne (fun c H7 s7 => kB' c H7 (eAll.trans (ExtN.of s7)) (Tz.ext s7)) fun c => ⟨join_valid hv1 hf1 hv2 hf2 hl c, fun H7 s7 hs7 => kS' c H7 x (eAll.trans (ExtN.of s7)) (Tz.ext s7) hs7⟩
-- @prem joined joined X : D_check_summary D_surely_tightened D__check_room m_len DL T DE D__raised D_below D_up_to
end
end SR

set_option Elab.async false
set_option linter.all false
set_option maxRecDepth 100000
set_option maxHeartbeats 4000000
/-! check_value and check_rank of any value. -/
namespace SR
open PySem PySem.Spec PyProof.Rows L2
section
variable {P : Program} {w : World} {K : PySem.W.Frag} {mg : Str → Option Value} {base : Heap} {C_BadValue C_BadRank fI : Addr}
def spCkValA (K : PySem.W.Frag) (C : Addr) : Sp := fun vs H Q E => ∃ (v : V) (T : String), vs = [v] ∧ Any K H v T ∧ (betV v (-10 ^ 30) (10 ^ 30) = false → E (.ref C) none H) ∧ (betV v (-10 ^ 30) (10 ^ 30) = true → Q .non H)
theorem sc_check_valueA : FnScope ["thing"] ["thing"] (defScope s_check_value) := ⟨rfl, rfl, rfl, by decide +kernel, rfl, by decide +kernel, by decide +kernel⟩
theorem ok_check_valueA {f : Addr} {fd : FuncData} (F : Fun K "check_value" "check_value" s_check_value f fd)  (D_is_value : Dn P w K mg base "is_value" ["thing"] 3 (spIsValueA K)) (T_BadValue : NzTxt K mg "BadValue" C_BadValue fI)  : FnOk P w K mg base (L2.CX P w) 4 f fd ["thing"] (spCkValA K C_BadValue) := by
  refine F.okX sc_check_valueA (fun vs H Q E h => ?_) (fun cdv A outer s H vs Q E hr h => ?_)
  · obtain ⟨v, T, rfl, _⟩ := h
    rfl
  · obtain ⟨v, T, rfl, hv, kE, kQ⟩ := h
    have nd := sc_check_valueA.nd
    have hr1 : Room 1 _ := hr.mono (by decide)
    have hr3 : Room 3 _ := hr.mono (by decide)
    refine ⟨_, pss_one (ps_if (pt_not (pt_val (pe_dn D_is_value hr3 (pa_cons (pv 0) pa_nil)))) (pss_one (ps_raise (W := fun cls d _ H => E cls d H) rfl (takes_of rfl rfl rfl rfl) (pmk_nz T_BadValue hr1 (by decide) rfl))) pss_nil), ?_⟩
    refine ⟨_, rfl, v, T, rfl, hv, ?_⟩
    refine ⟨_, rfl, ?_⟩
    cases hb : betV v (-10 ^ 30) (10 ^ 30) with
    | false => exact iteT (kE hb)
    | true => exact iteF (kQ hb)
-- @prem check_valueA check_value X : D_is_value T_BadValue
def spCkRankA (K : PySem.W.Frag) (C : Addr) : Sp := fun vs H Q E => ∃ (v : V) (n : Int) (T : String), vs = [.int n, v] ∧ Any K H v T ∧ (betV v 1 n = false → E (.ref C) none H) ∧ (betV v 1 n = true → Q .non H)
theorem sc_check_rankA : FnScope ["many", "rank"] ["many", "rank"] (defScope s_check_rank) := ⟨rfl, rfl, rfl, by decide +kernel, rfl, by decide +kernel, by decide +kernel⟩
theorem ok_check_rankA {f : Addr} {fd : FuncData} (F : Fun K "check_rank" "check_rank" s_check_rank f fd)  (D_is_between : Dn P w K mg base "is_between" ["value", "least", "greatest"] 2 (spBetweenA K)) (T_BadRank : NzTxt K mg "BadRank" C_BadRank fI)  : FnOk P w K mg base (L2.CX P w) 3 f fd ["many", "rank"] (spCkRankA K C_BadRank) := by
  refine F.okX sc_check_rankA (fun vs H Q E h => ?_) (fun cdv A outer s H vs Q E hr h => ?_)
  · obtain ⟨v, n, T, rfl, _⟩ := h
    rfl
  · obtain ⟨v, n, T, rfl, hv, kE, kQ⟩ := h
    have nd := sc_check_rankA.nd
    have hr1 : Room 1 _ := hr.mono (by decide)
    have hr2 : Room 2 _ := hr.mono (by decide)
    refine ⟨_, pss_one (ps_if (pt_not (pt_val (pe_dn D_is_between hr2 (pa_cons (pv 1) (pa_cons pe_int (pa_cons (pv 0) pa_nil)))))) (pss_one (ps_raise (W := fun cls d _ H => E cls d H) rfl (takes_of rfl rfl rfl rfl) (pmk_nz T_BadRank hr1 (by decide) rfl))) pss_nil), ?_⟩
    refine ⟨_, rfl, _, rfl, v, T, 1, n, rfl, hv, ?_⟩
    refine ⟨_, rfl, ?_⟩
    cases hb : betV v 1 n with
    | false => exact iteT (kE hb)
    | true => exact iteF (kQ hb)
-- @prem check_rankA check_rank X : D_is_between T_BadRank
end
end SR

set_option Elab.async false
set_option linter.all false
set_option maxRecDepth 100000
set_option maxHeartbeats 4000000
/-! Entries left out, one after another. -/
namespace SR
open PySem PySem.Spec PyProof.Rows L2
section
variable {P : Program} {w : World} {K : PySem.W.Frag} {mg : Str → Option Value} {base : Heap}
def spFirst : Sp := fun vs H Q _ => ∃ (l : Addr) (us : List V) (es : List Ent) (s : Int), vs = [.ref l, .int s] ∧ H l = some (.lst us) ∧ EntsV H us es ∧ es.length ≤ 60 ∧
  (∀ i : Nat, 1 ≤ i → i + 1 < es.length → outP es s i → (∀ j, 1 ≤ j → j < i → ¬ outP es s j) → Q (.int i) H) ∧ ((∀ i, 1 ≤ i → i + 1 < es.length → ¬ outP es s i) → Q .non H)
theorem sc__first_to_leave_out : FnScope ["entries", "spread", "index"] ["entries", "spread"] (defScope s__first_to_leave_out) := ⟨rfl, rfl, rfl, by decide +kernel, rfl, by decide +kernel, by decide +kernel⟩
theorem ok__first_to_leave_out {f : Addr} {fd : FuncData} (F : Fun K "_first_to_leave_out" "_first_to_leave_out" s__first_to_leave_out f fd)  (m_range : mg "range" = none) (m_len : mg "len" = none)  : FnOk P w K mg base CX0 1 f fd ["entries", "spread"] (spFirst) := by
  refine F.ok sc__first_to_leave_out (fun vs H Q E h => ?_) (fun cdv A outer s H vs Q E hr h => ?_)
  · obtain ⟨l, us, es, s, rfl, _⟩ := h
    rfl
  · obtain ⟨l, us, es, s, rfl, hl, he, h60, kI, kN⟩ := h
    have nd := sc__first_to_leave_out.nd
    refine ⟨_, pss_cons (ps_for PassesOwn.never rfl (pi_range2 (by rfl) m_range (pa_cons pe_int (pa_cons (pe_op op_sub (pe_callB call_len_seq (by rfl) m_len PySem.boot_len (pa_cons (pv 0) pa_nil)) pe_int) pa_nil))) (pg_name (i := 2) nd rfl (Or.inl rfl))
        (pss_one (ps_if (pt_cmpR op_le (pe_op op_sub (pe_ix ix_tup (pe_ix ix_list (pv 0) (pe_op op_add (pv 2) pe_int) (fun _ _ => rfl)) pe_int (fun _ _ => rfl)) (pe_ix ix_tup (pe_ix ix_list (pv 0) (pe_op op_sub (pv 2) pe_int) (fun _ _ => rfl)) pe_int (fun _ _ => rfl))) (pv 1) (nomark _)) (pss_one (ps_ret (pv 2))) pss_nil)))
        (pss_one (ps_ret pe_non)), ?_⟩
    have hu : us.length = es.length := he.len
    refine ⟨_, rfl, l, us, rfl, .inl (SqL.of hl), _, _, rfl, rfl, _, _, rfl, ⟨by omega, by omega, by omega, by omega⟩, ?_⟩
    refine for_range (lo := 1) (n := ((us.length : Int) - 1 - 1).toNat) (fun i σ H' => ∃ y2 : Option V, σ = [some (.ref l), some (.int s), y2] ∧ H' = H ∧ ∀ j, 1 ≤ j → j < i + 1 → ¬ outP es s j)
      ⟨none, rfl, rfl, fun j _ _ => by omega⟩ ?_ ?_
    · rintro i σ H' hi ⟨y2, rfl, rfl, hn⟩
      obtain ⟨t, ht, hte⟩ := ent_ix he (j := i + 2) (by omega)
      obtain ⟨t2, ht2, hte2⟩ := ent_ix he (j := i) (by omega)
      refine ⟨_, rfl, _, rfl, _, _, rfl, rfl, l, us, _, _, rfl, rfl, SqL.of hl, at_of (j := i + 2) (by omega) ht, t, _, _, _, rfl, rfl, SqT.of hte, rfl, _, rfl, _, rfl, _, _, rfl, rfl, l, us, _, _, rfl, rfl, SqL.of hl, at_of (j := i) (by omega) ht2, t2, _, _, _, rfl, rfl, SqT.of hte2, rfl, _, _, rfl, rfl, _, rfl, _, _, rfl, rfl, _, rfl, ?_⟩
      refine ite2 (fun c => ?_) (fun c => ?_)
      · have o : outP es s (i + 1) := of_decide_eq_true (p := SR.hi es (i + 2) - lo es i ≤ s) c
        refine ⟨_, rfl, ?_⟩
        rw [show (1 : Int) + (i : Int) = ((i + 1 : Nat) : Int) by omega]
        exact kI (i + 1) (by omega) (by omega) o fun j j1 j2 => hn j j1 j2
      · have o : ¬ outP es s (i + 1) := fun z => c (decide_eq_true (p := SR.hi es (i + 2) - lo es i ≤ s) z)
        refine ⟨_, rfl, rfl, fun j j1 j2 => ?_⟩
        by_cases ej : j = i + 1
        · rw [ej]; exact o
        · exact hn j j1 (by omega)
    · rintro σ H' ⟨y2, rfl, rfl, hn⟩
      exact kN fun j j1 j2 => hn j j1 (by omega)
-- @prem _first_to_leave_out _first_to_leave_out  : m_range m_len
def spThin : Sp := fun vs H Q _ => ∃ (u : V) (es : List Ent) (s : Int), vs = [u, .int s] ∧ TupV H u es ∧ es.length ≤ 60 ∧ ∀ H' u r, Same H H' → TupV H' u r → Thin s es r → Q u H'
/-- what of a list of entries is left without one -/
theorem sc__thinned : FnScope ["entries", "spread", "kept", "index"] ["entries", "spread"] (defScope s__thinned) := ⟨rfl, rfl, rfl, by decide +kernel, rfl, by decide +kernel, by decide +kernel⟩
set_option maxHeartbeats 16000000 in
theorem ok__thinned {f : Addr} {fd : FuncData} (F : Fun K "_thinned" "_thinned" s__thinned f fd)  (m_list : mg "list" = none) (D__first_to_leave_out : Dn P w K mg base "_first_to_leave_out" ["entries", "spread"] 1 (spFirst)) (m_tuple : mg "tuple" = none)  : FnOk P w K mg base CX0 2 f fd ["entries", "spread"] (spThin) := by
  refine F.ok sc__thinned (fun vs H Q E h => ?_) (fun cdv A outer s H vs Q E hr h => ?_)
  · obtain ⟨u, es, s, rfl, _⟩ := h
    rfl
  · obtain ⟨u, es, s, rfl, hu, h60, k⟩ := h
    have nd := sc__thinned.nd
    have hr1 : Room 1 _ := hr.mono (by decide)
    refine ⟨_, pss_cons (ps_set (i := 2) nd rfl (Or.inl rfl) (pe_callTy (T := "list") call_listK (by rfl) m_list (by decide +kernel) (pa_cons (pv 0) pa_nil)))
        (pss_cons (ps_set (i := 3) nd rfl (Or.inl rfl) (pe_dn D__first_to_leave_out hr1 (pa_cons (pv 2) (pa_cons (pv 1) pa_nil))))
        (pss_cons (ps_while PassesOwn.never (pt_cmp (pc_notN (pv 3)))
        (pss_cons (ps_delL (pv 2) (pv 3))
        (pss_one (ps_set (i := 3) nd rfl (Or.inl rfl) (pe_dn D__first_to_leave_out hr1 (pa_cons (pv 2) (pa_cons (pv 1) pa_nil)))))))
        (pss_one (ps_ret (pe_callTy (T := "tuple") call_tupK (by rfl) m_tuple (by decide +kernel) (pa_cons (pv 2) pa_nil)))))), ?_⟩
    obtain ⟨a, vs, rfl, ha, he⟩ := id hu
    have hl : vs.length = es.length := he.len
    refine ⟨_, rfl, a, _, rfl, .inr (SqT.of ha), fun l nl => ?_⟩
    have s1 := Same_new (o := .lst vs) nl
    dsimp only [gName]
    -- the loop
    obtain ⟨Pv, hPv⟩ : ∃ Pv : L2.St → Hp → Prop, Pv = fun σ H' => ∃ (cur : List Ent) (us : List V) (y : V), σ = [some (.ref a), some (.int s), some (.ref l), some y] ∧ Same H H' ∧ H' l = some (.lst us) ∧ EntsV H' us cur ∧ cur.length ≤ 60 ∧ (∀ r, Thin s cur r → Thin s es r) ∧
      ((∃ i : Nat, y = .int i ∧ 1 ≤ i ∧ i + 1 < cur.length ∧ outP cur s i ∧ ∀ j, 1 ≤ j → j < i → ¬ outP cur s j) ∨ (y = .non ∧ ∀ i, 1 ≤ i → i + 1 < cur.length → ¬ outP cur s i)) := ⟨_, rfl⟩
    have turn : ∀ (H1 : Hp) (cur : List Ent) (us : List V) (N : L2.St → Hp → Prop) (y0 : Option V), Same H H1 → H1 l = some (.lst us) → EntsV H1 us cur → cur.length ≤ 60 → (∀ r, Thin s cur r → Thin s es r) →
        (∀ y, Pv [some (.ref a), some (.int s), some (.ref l), some y] H1 → N [some (.ref a), some (.int s), some (.ref l), some y] H1) →
        spFirst [.ref l, .int s] H1 (fun v H2 => N [some (.ref a), some (.int s), some (.ref l), some v] H2) E0 := by
      intro H1 cur us N y0 s1 h1 e1 c1 t1 kn
      refine ⟨l, us, cur, s, rfl, h1, e1, c1, fun i i1 i2 o m => kn _ ?_, fun n => kn _ ?_⟩
      · rw [hPv]
        exact ⟨cur, us, _, rfl, s1, h1, e1, c1, t1, .inl ⟨i, rfl, i1, i2, o, m⟩⟩
      · rw [hPv]
        exact ⟨cur, us, _, rfl, s1, h1, e1, c1, t1, .inr ⟨rfl, n⟩⟩
    refine ⟨_, rfl, _, rfl, turn _ es vs _ none s1 upd_same (he.mono s1) h60 (fun r h => h) fun y hy => ?_⟩
    refine while_by Pv (fun σ H' => match H' l with | some (.lst us) => us.length | _ => 0) hy ?_ (fun σ H Q Q' m h => ?_)
    · rintro σ H1 h
      rw [hPv] at h
      obtain ⟨cur, us, y, rfl, s1, h1, e1, c1, t1, hy⟩ := h
      have lus : us.length = cur.length := e1.len
      refine ⟨y, rfl, ?_⟩
      rcases hy with ⟨i, rfl, i1, i2, o, m⟩ | ⟨rfl, n⟩
      · refine ⟨true, rfl, iteT ?_⟩
        have h2 : upd H1 l (.lst (us.eraseIdx i)) l = some (.lst (us.eraseIdx i)) := upd_same
        have e2 : EntsV (upd H1 l (.lst (us.eraseIdx i))) (us.eraseIdx i) (cur.eraseIdx i) := by
          refine pr_out i (Paired.mapP e1 fun v w' ⟨t2, ev, et2⟩ => ⟨t2, ev, ?_⟩)
          rw [upd_ne (ne_of et2 h1 (by intro z; cases z))]
          exact et2
        have lc : (cur.eraseIdx i).length = cur.length - 1 := List.length_eraseIdx_of_lt (by omega)
        refine ⟨_, rfl, _, rfl, l, us, i, i, rfl, rfl, h1, by omega, by omega, ?_, ?_⟩
        · have q : ¬ ((i : Int) < 0) := by omega
          unfold seqIndex?
          simp only [q, if_false]
          rw [if_pos (by simp; omega)]
          simp
        refine ⟨_, rfl, _, rfl, turn _ _ _ _ none (Same_mut s1 nl) h2 e2 (by omega) (fun r h => t1 r (.step i i1 i2 o m h)) fun y hy => ⟨hy, ?_⟩⟩
        rw [h1, upd_same]
        have : (us.eraseIdx i).length = us.length - 1 := List.length_eraseIdx_of_lt (by omega)
        show (us.eraseIdx i).length < us.length
        omega
      · refine ⟨false, rfl, iteF ?_⟩
        refine ⟨_, rfl, l, us, rfl, .inl ⟨SqL.of h1, fun z nz => ?_⟩⟩
        exact k _ _ cur (s1.trans (Same_new nz)) ⟨z, us, rfl, upd_same, e1.mono (Same_new nz)⟩ (t1 _ (.done n))
    · obtain ⟨x, e, c, ec, q⟩ := h
      exact ⟨x, e, c, ec, m _ _ q⟩
-- @prem _thinned _thinned  : m_list D__first_to_leave_out m_tuple
end
end SR

set_option Elab.async false
set_option linter.all false
set_option maxRecDepth 100000
set_option maxHeartbeats 4000000
/-! Keeper. -/
namespace SR
open PySem PySem.Spec PyProof.Rows L2
/-- the class Keeper, as the top has made it -/
structure KeepT (K : PySem.W.Frag) (mg : Str → Option Value) (C : Addr) : Prop where
  cl : Cls K C
  nP : NoAttr K C "_parts"
  nS : NoAttr K C "_stages"
  g : mg "Keeper" = some (.ref C)
def kfl (p : Int) (l : Addr) : List (Str × V) := putF "_stages" (.ref l) (putF "_parts" (.int p) [])
theorem kne : ¬ ((("_parts" : Str) = "_stages")) := by decide
theorem kfl_parts (p : Int) (l : Addr) : (kfl p l).lookup ("_parts" : Str) = some (.int p) := by
  unfold kfl
  rw [lookup_putF, if_neg kne, lookup_putF, if_pos rfl]
theorem kfl_stages (p : Int) (l : Addr) : (kfl p l).lookup ("_stages" : Str) = some (.ref l) := by
  unfold kfl
  rw [lookup_putF, if_pos rfl]
/-- a keeper: its parts, the list of its stages at l, the stages -/
def KeepV (C : Addr) (H : Hp) (v : V) (p : Int) (l : Addr) (st : List (List Ent)) : Prop := ∃ q dx us, v = .ref q ∧ H q = some (.ins C dx (kfl p l)) ∧ H l = some (.lst us) ∧ Paired (TupV H) us st
theorem KeepV.mono {C : Addr} {H H' : Hp} {v : V} {p : Int} {l : Addr} {st : List (List Ent)} (s : Same H H') (h : KeepV C H v p l st) : KeepV C H' v p l st :=
  let ⟨q, dx, us, e, h1, h2, h3⟩ := h; ⟨q, dx, us, e, s _ _ h1, s _ _ h2, Paired.mapP h3 fun _ _ x => x.mono s⟩
/-- all but l stands -/
def But (l : Addr) (H H' : Hp) : Prop := ∀ b o, H b = some o → b ≠ l → H' b = some o
theorem But.keep {l : Addr} {H H' : Hp} (s : But l H H') {us : List V} (hl : H l = some (.lst us)) {a : Addr} {o : HO} (h : H a = some o) (hn : ∀ xs, o ≠ .lst xs) : H' a = some o := s a o h (ne_of h hl (hn _))
theorem But.ent {l : Addr} {H H' : Hp} (s : But l H H') {us : List V} (hl : H l = some (.lst us)) {v : V} {e : Ent} (h : EntV H v e) : EntV H' v e := let ⟨t, a, b⟩ := h; ⟨t, a, s.keep hl b (fun xs => by intro z; cases z)⟩
theorem But.ents {l : Addr} {H H' : Hp} (s : But l H H') {us : List V} (hl : H l = some (.lst us)) {vs : List V} {es : List Ent} (h : EntsV H vs es) : EntsV H' vs es := Paired.mapP h fun _ _ x => s.ent hl x
theorem But.tup {l : Addr} {H H' : Hp} (s : But l H H') {us : List V} (hl : H l = some (.lst us)) {v : V} {es : List Ent} (h : TupV H v es) : TupV H' v es := let ⟨a, vs, e, b, k⟩ := h; ⟨a, vs, e, s.keep hl b (fun xs => by intro z; cases z), s.ents hl k⟩
theorem but_upd {l : Addr} {H H' : Hp} {o : HO} (s : Same H H') : But l H (upd H' l o) := fun b u e hb => by rw [upd_ne hb]; exact s b u e
section
variable {P : Program} {w : World} {K : PySem.W.Frag} {mg : Str → Option Value} {base : Heap} {C : Addr}
/-- a method under its name -/
def Mt (P : Program) (w : World) (K : PySem.W.Frag) (mg : Str → Option Value) (base : Heap) (C : Addr) (m : Str) (ps : List Str) (k : Nat) (sp : Sp) : Prop := ∃ f fd, L2.Meth K C m f ∧ FnOk P w K mg base CX0 k f fd ps sp ∧ Binds K fd ps []
def MtX (P : Program) (w : World) (K : PySem.W.Frag) (mg : Str → Option Value) (base : Heap) (C : Addr) (m : Str) (ps : List Str) (k : Nat) (sp : Sp) : Prop := ∃ f fd, L2.Meth K C m f ∧ FnOk P w K mg base (L2.CX P w) k f fd ps sp ∧ Binds K fd ps []
def tMethS (C : Addr) (m : Str) (sp : Sp) (E : L2.St → XK) (ta : TE) (t : TA) : TE := fun σ H Q => ta σ H fun x H1 => ∃ a dx fs, x = .ref a ∧ H1 a = some (.ins C dx fs) ∧ fs.lookup m = none ∧ t σ H1 fun vs H2 => sp (x :: vs) H2 Q (E σ)
theorem pe_mt0 {X : Cx} {m : Str} {ps : List Str} {k : Nat} {sp : Sp} {o : Expr} {ta : TE} {pos apos : Pos} {pl : Sem Bool} (D : Mt X.prog X.w X.K X.mg X.base C m ps k sp) (c : Cls X.K C) (hr : Room k X.A) (he : PE X o ta)
    (ht : eval (.Call (.Attribute o m apos) [] [] pos) X.env = (do
      let ov ← eval o X.env
      standAt apos.atName
      let (f, first) ← holding [ov] (getMethod ov m pl)
      callWith pos f first (backTo pos (starEach [] X.env)) (backToKw pos (keywordEach [] X.env))) := by rfl) :
    PE X (.Call (.Attribute o m apos) [] [] pos) (tMeth C m sp [] E0 ta tNil) := by
  obtain ⟨f, fd, M, F, b⟩ := D
  exact pe_meth0 he c M F hr b .nil pass0 ht
theorem pe_mtX0 {X : Cx} {m : Str} {ps : List Str} {k : Nat} {sp : Sp} {o e : Expr} {es : List Expr} {ta : TE} {t : TA} {pos apos : Pos} {pl : Sem Bool} (D : MtX X.prog X.w X.K X.mg X.base C m ps k sp) (c : Cls X.K C) (hr : Room k X.A) (he : PE X o ta) (ha : PA X (e :: es) t)
    (hst : starEach (e :: es) X.env = (false, eval e X.env) :: starEach es X.env := by rfl) (hpl : (backTo pos (starEach es X.env)).any (·.1) = false := by rfl)
    (ht : eval (.Call (.Attribute o m apos) (e :: es) [] pos) X.env = (do
      let ov ← eval o X.env
      standAt apos.atName
      let (f, first) ← holding [ov] (getMethod ov m pl)
      callWith pos f first (backTo pos (starEach (e :: es) X.env)) (backToKw pos (keywordEach [] X.env))) := by rfl) :
    PE X (.Call (.Attribute o m apos) (e :: es) [] pos) (tMeth C m sp [] E0 ta t) := by
  obtain ⟨f, fd, M, F, b⟩ := D
  exact pe_meth he c M F hr b .nil passL ha hst hpl ht
theorem pe_mtX {X : Cx} {W : WX} {m : Str} {ps : List Str} {k : Nat} {sp : Sp} {o e : Expr} {es : List Expr} {ta : TE} {t : TA} {pos apos : Pos} {pl : Sem Bool} (D : MtX X.prog X.w X.K X.mg X.base C m ps k sp) (c : Cls X.K C) (hr : Room k X.A) (tk : Takes X W) (he : PE X o ta) (ha : PA X (e :: es) t)
    (hst : starEach (e :: es) X.env = (false, eval e X.env) :: starEach es X.env := by rfl) (hpl : (backTo pos (starEach es X.env)).any (·.1) = false := by rfl)
    (ht : eval (.Call (.Attribute o m apos) (e :: es) [] pos) X.env = (do
      let ov ← eval o X.env
      standAt apos.atName
      let (f, first) ← holding [ov] (getMethod ov m pl)
      callWith pos f first (backTo pos (starEach (e :: es) X.env)) (backToKw pos (keywordEach [] X.env))) := by rfl) :
    PE X (.Call (.Attribute o m apos) (e :: es) [] pos) (tMethS C m sp (WE W) ta t) := by
  obtain ⟨f, fd, hm, F, b⟩ := D
  refine ⟨fun pins s σ H Q I h => ?_⟩
  refine PySem.W.methodCall_KW (pl := pl) (thn (he.run pins s σ H _ I h) fun u s1 ⟨x, H1, I1, rx, a, dx, fs, ex, ea, l, q⟩ => ?_) ht
  subst ex
  obtain rfl : u = Value.ref a := rx
  refine getmeth_ok I1 ea c hm l ?_
  refine PySem.W.callWith_K (first := [.ref a]) (h₀ := X.base) I.ok.mod.kin hm.kp (thn (ha.run pos pins s1 σ H1 _ I1 q) fun us s2 ⟨vs, H2, I2, r, q2⟩ => ⟨I2.kIn, ?_⟩) hst hpl
  exact run_fnS (us := .ref a :: us) (vs := .ref a :: vs) F hr b (passAt tk σ) I2 (.cons rfl r) q2
end
end SR

set_option Elab.async false
set_option linter.all false
set_option maxRecDepth 100000
set_option maxHeartbeats 4000000
/-! Keeper's methods. -/
namespace SR
open PySem PySem.Spec PyProof.Rows L2
section
variable {P : Program} {w : World} {K : PySem.W.Frag} {mg : Str → Option Value} {base : Heap} {CK C_BadParts C_BadValue C_BadRank C_Full C_TooLong fI : Addr}
def spKInit (K : PySem.W.Frag) (C B : Addr) : Sp := fun vs H Q E => ∃ (q dx : Addr) (x : V) (T : String), vs = [.ref q, x] ∧ H q = some (.ins C dx []) ∧ Any K H x T ∧ (betV x 2 20 = false → E (.ref B) none H) ∧
  (∀ p : Int, x = .int p → 2 ≤ p → p ≤ 20 → ∀ H' l t, H l = none → H' q = some (.ins C dx (kfl p l)) → H' l = some (.lst [.ref t]) → H' t = some (.tup []) → (∀ b o, H b = some o → b ≠ q → H' b = some o) → Q .non H')
theorem sc_Keeper_init : FnScope ["self", "parts"] ["self", "parts"] (defScope s_Keeper_init) := ⟨rfl, rfl, rfl, by decide +kernel, rfl, by decide +kernel, by decide +kernel⟩
theorem ok_Keeper_init {f : Addr} {fd : FuncData} (F : Fun K "__init__" "Keeper.__init__" s_Keeper_init f fd) {tk_MOST_PARTS : Tok} {tk_LEAST_PARTS : Tok} (D_is_between : Dn P w K mg base "is_between" ["value", "least", "greatest"] 2 (spBetweenA K)) (m_MOST_PARTS : mg "MOST_PARTS" = some (.int (20) tk_MOST_PARTS)) (m_LEAST_PARTS : mg "LEAST_PARTS" = some (.int (2) tk_LEAST_PARTS)) (T_BadParts : NzTxt K mg "BadParts" C_BadParts fI) (TK : KeepT K mg CK)  : FnOk P w K mg base (L2.CX P w) 3 f fd ["self", "parts"] (spKInit K CK C_BadParts) := by
  refine F.okX sc_Keeper_init (fun vs H Q E h => ?_) (fun cdv A outer s H vs Q E hr h => ?_)
  · obtain ⟨q, dx, x, T, rfl, _⟩ := h
    rfl
  · obtain ⟨q, dx, x, T, rfl, hq, hx, kE, kQ⟩ := h
    have nd := sc_Keeper_init.nd
    have hr1 : Room 1 _ := hr.mono (by decide)
    have hr2 : Room 2 _ := hr.mono (by decide)
    refine ⟨_, pss_cons (ps_if (pt_not (pt_val (pe_dn D_is_between hr2 (pa_cons (pv 1) (pa_cons (pe_gi m_LEAST_PARTS) (pa_cons (pe_gi m_MOST_PARTS) pa_nil)))))) (pss_one (ps_raise (W := fun cls d _ H => E cls d H) rfl (takes_of rfl rfl rfl rfl) (pmk_nz T_BadParts hr1 (by decide) rfl))) pss_nil)
        (pss_cons (ps_fld (pv 0) (pv 1) rfl)
        (pss_one (ps_fld (pv 0) (pe_lst (pa_cons (pe_tup pa_nil) pa_nil)) rfl))), ?_⟩
    refine ⟨_, rfl, x, T, 2, 20, rfl, hx, _, rfl, ?_⟩
    cases hb : betV x 2 20 with
    | false => exact iteT (kE hb)
    | true =>
      refine iteF ?_
      obtain ⟨p, rfl, p2, p20⟩ : ∃ p : Int, x = .int p ∧ 2 ≤ p ∧ p ≤ 20 := by
        cases x with
        | int p =>
          have h : (decide (2 ≤ p) && decide (p ≤ 20)) = true := hb
          rw [Bool.and_eq_true, decide_eq_true_eq, decide_eq_true_eq] at h
          exact ⟨p, rfl, h.1, h.2⟩
        | _ => cases hb
      refine ⟨_, rfl, _, rfl, q, CK, dx, [], rfl, hq, TK.cl, TK.nP, (by show 0 < 1000; decide), Nat.zero_le _, fun t nt => ⟨(by show 1 ≤ sizeLine; decide), fun l nl => ?_⟩⟩
      have q1 : upd H q (.ins CK dx (putF "_parts" (.int p) [])) q = some (.ins CK dx (putF "_parts" (.int p) [])) := upd_same
      have q2 := Same_new2 (o := .lst [.ref t]) (Same_new (o := .tup []) nt) nl _ _ q1
      have tq : t ≠ q := fun z => by rw [z, q1] at nt; cases nt
      have lq : l ≠ q := fun z => by rw [z, Same_new nt _ _ q1] at nl; cases nl
      have tl : t ≠ l := fun z => by rw [z] at nl; rw [upd_same] at nl; cases nl
      refine ⟨_, rfl, q, CK, dx, _, rfl, q2, TK.cl, TK.nS, (by show 1 < 1000; decide), kQ p rfl p2 p20 _ l t ?_ upd_same ?_ ?_ fun b o e hb => ?_⟩
      · have := (Same_new nt).free nl
        rw [upd_ne lq] at this
        exact this
      · rw [upd_ne lq, upd_same]
      · rw [upd_ne tq, upd_ne tl, upd_same]
      · rw [upd_ne hb]
        refine Same_new2 (Same_new nt) nl _ _ ?_
        rw [upd_ne hb]
        exact e
-- @prem Keeper_init Keeper_init X : D_is_between m_MOST_PARTS m_LEAST_PARTS T_BadParts TK
def spKMany (C : Addr) : Sp := fun vs H Q _ => ∃ (v : V) (p : Int) (l : Addr) (st : List (List Ent)), vs = [v] ∧ KeepV C H v p l st ∧ Q (.int (st.length - 1)) H
theorem sc_Keeper_many : FnScope ["self"] ["self"] (defScope s_Keeper_many) := ⟨rfl, rfl, rfl, by decide +kernel, rfl, by decide +kernel, by decide +kernel⟩
theorem ok_Keeper_many {f : Addr} {fd : FuncData} (F : Fun K "many" "Keeper.many" s_Keeper_many f fd)  (m_len : mg "len" = none) (TK : KeepT K mg CK)  : FnOk P w K mg base CX0 2 f fd ["self"] (spKMany CK) := by
  refine F.ok sc_Keeper_many (fun vs H Q E h => ?_) (fun cdv A outer s H vs Q E hr h => ?_)
  · obtain ⟨v, p, l, st, rfl, _⟩ := h
    rfl
  · obtain ⟨v, p, l, st, rfl, ⟨q, dx, us, rfl, hq, hl, hst⟩, k⟩ := h
    have nd := sc_Keeper_many.nd
    refine ⟨_, pss_one (ps_ret (pe_op op_sub (pe_callB call_len_seq (by rfl) m_len PySem.boot_len (pa_cons (pe_fld (pv 0) rfl) pa_nil)) pe_int)), ?_⟩
    have ln := Paired.length hst
    refine ⟨_, rfl, q, CK, dx, _, _, rfl, hq, TK.cl, TK.nS, kfl_stages _ _, l, us, rfl, .inl (SqL.of hl), _, _, rfl, rfl, ?_⟩
    rw [ln]
    exact k
-- @prem Keeper_many Keeper_many  : m_len TK
def spKEnt (C : Addr) : Sp := fun vs H Q _ => ∃ (v : V) (p : Int) (l : Addr) (st : List (List Ent)) (es : List Ent), vs = [v] ∧ KeepV C H v p l (st ++ [es]) ∧ ∀ u, TupV H u es → Q u H
theorem pr_last {A B : Type} {F : A → B → Prop} {l : List A} {m : List B} {b : B} (h : Paired F l (m ++ [b])) : ∃ l' a, l = l' ++ [a] ∧ Paired F l' m ∧ F a b := by
  have hl := Paired.length h
  rw [List.length_append, List.length_singleton] at hl
  have ne : l ≠ [] := fun z => by rw [z] at hl; simp at hl
  have eb := List.dropLast_concat_getLast ne
  have h1 := pr_take m.length h
  have h2 := pr_drop m.length h
  rw [List.take_left] at h1
  rw [List.drop_left] at h2
  have lm : l.dropLast.length = m.length := by rw [List.length_dropLast]; omega
  rw [← eb] at h1 h2
  rw [← lm, List.take_left] at h1
  rw [← lm, List.drop_left] at h2
  refine ⟨l.dropLast, l.getLast ne, eb.symm, h1, ?_⟩
  cases h2 with
  | cons r _ => exact r
theorem sc_Keeper_entries : FnScope ["self"] ["self"] (defScope s_Keeper_entries) := ⟨rfl, rfl, rfl, by decide +kernel, rfl, by decide +kernel, by decide +kernel⟩
theorem ok_Keeper_entries {f : Addr} {fd : FuncData} (F : Fun K "entries" "Keeper.entries" s_Keeper_entries f fd)  (TK : KeepT K mg CK)  : FnOk P w K mg base CX0 2 f fd ["self"] (spKEnt CK) := by
  refine F.ok sc_Keeper_entries (fun vs H Q E h => ?_) (fun cdv A outer s H vs Q E hr h => ?_)
  · obtain ⟨v, p, l, st, es, rfl, _⟩ := h
    rfl
  · obtain ⟨v, p, l, st, es, rfl, ⟨q, dx, us, rfl, hq, hl, hst⟩, k⟩ := h
    have nd := sc_Keeper_entries.nd
    refine ⟨_, pss_one (ps_ret (pe_ix ix_list (pe_fld (pv 0) rfl) (pe_un un_neg pe_int) (fun _ _ => rfl))), ?_⟩
    obtain ⟨us', u, rfl, h1, h2⟩ := pr_last hst
    refine ⟨_, rfl, q, CK, dx, _, _, rfl, hq, TK.cl, TK.nS, kfl_stages _ _, _, rfl, l, _, _, u, rfl, rfl, SqL.of hl, atI_last _ _, k u h2⟩
-- @prem Keeper_entries Keeper_entries  : TK
def spKLen (C : Addr) : Sp := fun vs H Q _ => ∃ (v : V) (p : Int) (l : Addr) (st : List (List Ent)) (es : List Ent), vs = [v] ∧ KeepV C H v p l (st ++ [es]) ∧ Q (.int es.length) H
theorem sc_Keeper_len : FnScope ["self"] ["self"] (defScope s_Keeper_len) := ⟨rfl, rfl, rfl, by decide +kernel, rfl, by decide +kernel, by decide +kernel⟩
theorem ok_Keeper_len {f : Addr} {fd : FuncData} (F : Fun K "__len__" "Keeper.__len__" s_Keeper_len f fd)  (m_len : mg "len" = none) (TK : KeepT K mg CK)  : FnOk P w K mg base CX0 1 f fd ["self"] (spKLen CK) := by
  refine F.ok sc_Keeper_len (fun vs H Q E h => ?_) (fun cdv A outer s H vs Q E hr h => ?_)
  · obtain ⟨v, p, l, st, es, rfl, _⟩ := h
    rfl
  · obtain ⟨v, p, l, st, es, rfl, ⟨q, dx, us, rfl, hq, hl, hst⟩, k⟩ := h
    have nd := sc_Keeper_len.nd
    refine ⟨_, pss_one (ps_ret (pe_callB call_len_seq (by rfl) m_len PySem.boot_len (pa_cons (pe_ix ix_list (pe_fld (pv 0) rfl) (pe_un un_neg pe_int) (fun _ _ => rfl)) pa_nil))), ?_⟩
    obtain ⟨us', u, rfl, h1, h2⟩ := pr_last hst
    obtain ⟨a, vs, rfl, ha, he⟩ := h2
    refine ⟨_, rfl, q, CK, dx, _, _, rfl, hq, TK.cl, TK.nS, kfl_stages _ _, _, rfl, l, _, _, _, rfl, rfl, SqL.of hl, atI_last _ _, a, vs, rfl, .inr (SqT.of ha), ?_⟩
    rw [he.len]
    exact k
-- @prem Keeper_len Keeper_len  : m_len TK
def spKSee (K : PySem.W.Frag) (C B F L : Addr) : Sp := fun vs H Q E => ∃ (v x : V) (T : String) (p : Int) (l : Addr) (st : List (List Ent)) (es : List Ent), vs = [v, x] ∧ Any K H x T ∧ KeepV C H v p l (st ++ [es]) ∧ 2 ≤ p ∧ p ≤ 20 ∧ es.length ≤ 60 ∧ st.length ≤ 200 ∧ (betV x (-10 ^ 30) (10 ^ 30) = false → E (.ref B) none H) ∧
  ∀ z : Int, x = .int z → -10 ^ 30 ≤ z → z ≤ 10 ^ 30 → (ewL st.length es z).length ≤ 60 ∧ ∀ r, Thin (2 * ((st.length : Int) + 1) / p) (ewL st.length es z) r →
    (40 < r.length → ∀ H', Same H H' → E (.ref F) none H') ∧ (r.length ≤ 40 → 200 < st.length + 1 → ∀ H', Same H H' → E (.ref L) none H') ∧
    (r.length ≤ 40 → st.length + 1 ≤ 200 → ∀ H', But l H H' → KeepV C H' v p l (st ++ [es] ++ [r]) → Q (.int r.length) H')
theorem KeepV.push {C : Addr} {H H5 : Hp} {q dx l : Addr} {us : List V} {p : Int} {st : List (List Ent)} {u : V} {r : List Ent} (hq : H q = some (.ins C dx (kfl p l))) (hl : H l = some (.lst us)) (hst : Paired (TupV H) us st) (s : Same H H5) (hu : TupV H5 u r) :
    But l H (upd H5 l (.lst (us ++ [u]))) ∧ KeepV C (upd H5 l (.lst (us ++ [u]))) (.ref q) p l (st ++ [r]) := by
  have b1 : But l H (upd H5 l (.lst (us ++ [u]))) := but_upd s
  have b2 : But l H5 (upd H5 l (.lst (us ++ [u]))) := but_upd (Same.refl H5)
  exact ⟨b1, q, dx, _, rfl, b1.keep hl hq (fun _ z => nomatch z), upd_same, pr_app (Paired.mapP hst fun _ _ x => b1.tup hl x) (.cons (b2.tup (s _ _ hl) hu) .nil)⟩
theorem sc_Keeper_see : FnScope ["self", "value", "many", "entries"] ["self", "value"] (defScope s_Keeper_see) := ⟨rfl, rfl, rfl, by decide +kernel, rfl, by decide +kernel, by decide +kernel⟩
set_option maxHeartbeats 8000000 in
theorem ok_Keeper_see {f : Addr} {fd : FuncData} (F : Fun K "see" "Keeper.see" s_Keeper_see f fd) {tk_MOST_KEPT : Tok} {tk_MOST_SEEN : Tok} (D_check_value : DnX P w K mg base "check_value" ["thing"] 4 (spCkValA K C_BadValue)) (TK : KeepT K mg CK) (DKM : Pr P w K mg base CK "many" 2 (spKMany CK)) (D__thinned : Dn P w K mg base "_thinned" ["entries", "spread"] 2 (spThin)) (D_entries_with : Dn P w K mg base "entries_with" ["many", "entries", "value"] 2 (spEw)) (DKE : Pr P w K mg base CK "entries" 2 (spKEnt CK)) (m_len : mg "len" = none) (m_MOST_KEPT : mg "MOST_KEPT" = some (.int (40) tk_MOST_KEPT)) (T_Full : NzTxt K mg "Full" C_Full fI) (m_MOST_SEEN : mg "MOST_SEEN" = some (.int (200) tk_MOST_SEEN)) (T_TooLong : NzTxt K mg "TooLong" C_TooLong fI)  : FnOk P w K mg base (L2.CX P w) 6 f fd ["self", "value"] (spKSee K CK C_BadValue C_Full C_TooLong) := by
  refine F.okX sc_Keeper_see (fun vs H Q E h => ?_) (fun cdv A outer s H vs Q E hr h => ?_)
  · obtain ⟨v, x, T, p, l, st, es, rfl, _⟩ := h
    rfl
  · obtain ⟨v, x, T, p, l, st, es, rfl, hx, hk, p2, p20, h60, h200, kB, kZ⟩ := h
    have nd := sc_Keeper_see.nd
    have hr1 : Room 1 _ := hr.mono (by decide)
    have hr2 : Room 2 _ := hr.mono (by decide)
    have hr3 : Room 3 _ := hr.mono (by decide)
    have hr4 : Room 4 _ := hr.mono (by decide)
    refine ⟨_, pss_cons (ps_expr (pe_dnX (W := fun cls d _ H => E cls d H) D_check_value hr4 (takes_of rfl rfl rfl rfl) (pa_cons (pv 1) pa_nil)))
        (pss_cons (ps_set (i := 2) nd rfl (Or.inl rfl) (pe_op op_add (pe_pr DKM TK.cl hr3 (pv 0)) pe_int))
        (pss_cons (ps_set (i := 3) nd rfl (Or.inl rfl) (pe_dn D__thinned hr2 (pa_cons (pe_dn D_entries_with hr2 (pa_cons (pe_pr DKM TK.cl hr3 (pv 0)) (pa_cons (pe_pr DKE TK.cl hr3 (pv 0)) (pa_cons (pv 1) pa_nil)))) (pa_cons (pe_op op_fdivW (pe_op op_mul pe_int (pv 2)) (pe_fld (pv 0) rfl)) pa_nil))))
        (pss_cons (ps_if (pt_cmpR op_gt (pe_callB call_len_seq (by rfl) m_len PySem.boot_len (pa_cons (pv 3) pa_nil)) (pe_gi m_MOST_KEPT) (nomark _)) (pss_one (ps_raise (W := fun cls d _ H => E cls d H) rfl (takes_of rfl rfl rfl rfl) (pmk_nz T_Full hr1 (by decide) rfl))) pss_nil)
        (pss_cons (ps_if (pt_cmpR op_gt (pv 2) (pe_gi m_MOST_SEEN) (nomark _)) (pss_one (ps_raise (W := fun cls d _ H => E cls d H) rfl (takes_of rfl rfl rfl rfl) (pmk_nz T_TooLong hr1 (by decide) rfl))) pss_nil)
        (pss_cons (ps_expr (pe_bm PySem.F.plainAttrs_list PySem.F.slot_list_append PySem.F.type_list_append mt_append (pe_fld (pv 0) rfl) (pa_cons (pv 3) pa_nil)))
        (pss_one (ps_ret (pe_callB call_len_seq (by rfl) m_len PySem.boot_len (pa_cons (pv 3) pa_nil))))))))), ?_⟩
    refine ⟨_, rfl, x, T, rfl, hx, kB, fun hb => ?_⟩
    obtain ⟨z, rfl, z1, z2⟩ : ∃ z : Int, x = .int z ∧ -10 ^ 30 ≤ z ∧ z ≤ 10 ^ 30 := by
      cases x with
      | int p =>
        have h : (decide (-10 ^ 30 ≤ p) && decide (p ≤ 10 ^ 30)) = true := hb
        rw [Bool.and_eq_true, decide_eq_true_eq, decide_eq_true_eq] at h
        exact ⟨p, rfl, h.1, h.2⟩
      | _ => cases hb
    obtain ⟨w60, kR⟩ := kZ z rfl z1 z2
    obtain ⟨q, dx, us, rfl, hq, hl, hst⟩ := id hk
    have es1 : (((st ++ [es]).length : Nat) : Int) - 1 = st.length := by rw [List.length_append, List.length_singleton]; omega
    refine ⟨_, rfl, q, dx, _, rfl, hq, _, p, l, _, rfl, hk, _, _, rfl, rfl, ?_⟩
    dsimp only [gName]
    refine ⟨_, rfl, q, dx, _, rfl, hq, _, p, l, _, rfl, hk, ?_⟩
    refine ⟨_, rfl, q, dx, _, rfl, hq, _, p, l, st, es, rfl, hk, fun u hu => ?_⟩
    rw [es1]
    refine ⟨_, rfl, u, st.length, z, es, rfl, hu, h60, fun H1 u1 s1 hu1 => ?_⟩
    have hq1 := s1 _ _ hq
    refine ⟨_, rfl, _, _, rfl, rfl, .inl ⟨by omega, by omega⟩, _, rfl, q, CK, dx, _, _, rfl, hq1, TK.cl, TK.nP, kfl_parts _ _, _, _, rfl, rfl, ⟨by omega, Nat.lt_of_le_of_lt (Nat.log2_le_self _) (by omega)⟩, ?_⟩
    refine ⟨u1, _, _, rfl, hu1, w60, fun H2 u2 r s2 hu2 ht => ?_⟩
    obtain ⟨kF, kL, kQ⟩ := kR r ht
    have s12 := s1.trans s2
    obtain ⟨a2, vs2, rfl, ha2, he2⟩ := id hu2
    have l2 : vs2.length = r.length := he2.len
    refine ⟨_, rfl, a2, vs2, rfl, .inr (SqT.of ha2), _, _, rfl, rfl, _, rfl, ite2 (fun c => ?_) (fun c => ?_)⟩
    · exact kF (by have := of_decide_eq_true c; omega) H2 s12
    have c40 : r.length ≤ 40 := by
      by_cases h : (40 : Int) < (vs2.length : Int)
      · exact absurd (decide_eq_true h) c
      · omega
    refine ⟨_, rfl, _, _, rfl, rfl, _, rfl, ite2 (fun c => ?_) (fun c => ?_)⟩
    · exact kL c40 (by have := of_decide_eq_true c; omega) H2 s12
    have c200 : st.length + 1 ≤ 200 := by
      by_cases h : (200 : Int) < (st.length : Int) + 1
      · exact absurd (decide_eq_true h) c
      · omega
    have hp := KeepV.push hq hl hst s12 hu2
    refine ⟨_, rfl, q, CK, dx, _, _, rfl, s12 _ _ hq, TK.cl, TK.nS, kfl_stages _ _, .inl ⟨rfl, _, SqL.of (s12 _ _ hl)⟩, _, rfl, l, us, _, rfl, rfl, s12 _ _ hl, ?_, ?_⟩
    · have := Paired.length hst
      rw [List.length_append, List.length_singleton] at this
      exact small1000 (by omega)
    have ha3 := (but_upd (Same.refl H2) : But l H2 (upd H2 l (.lst (us ++ [.ref a2])))) _ _ ha2 (ne_of ha2 (s12 _ _ hl) (fun z => nomatch z))
    refine ⟨_, rfl, a2, vs2, rfl, .inr (SqT.of ha3), ?_⟩
    rw [l2]
    exact kQ c40 c200 _ hp.1 hp.2
-- @prem Keeper_see Keeper_see X : D_check_value TK DKM D__thinned D_entries_with DKE m_len m_MOST_KEPT T_Full m_MOST_SEEN T_TooLong
def spKAns (K : PySem.W.Frag) (C B : Addr) : Sp := fun vs H Q E => ∃ (v x : V) (T : String) (p : Int) (l : Addr) (st : List (List Ent)) (es : List Ent), vs = [v, x] ∧ Any K H x T ∧ KeepV C H v p l (st ++ [es]) ∧ es.length ≤ 60 ∧ (betV x 1 st.length = false → E (.ref B) none H) ∧
  ∀ r : Int, x = .int r → 1 ≤ r → r ≤ st.length → es ≠ [] ∧ ∀ H' (m : Int) (j : Nat) (e : Ent), Same H H' → IsMin (ers es r) m → FirstAt (ers es r) m j → es[j]? = some e → Q (.int e.1) H'
theorem sc_Keeper_answer : FnScope ["self", "rank"] ["self", "rank"] (defScope s_Keeper_answer) := ⟨rfl, rfl, rfl, by decide +kernel, rfl, by decide +kernel, by decide +kernel⟩
theorem ok_Keeper_answer {f : Addr} {fd : FuncData} (F : Fun K "answer" "Keeper.answer" s_Keeper_answer f fd)  (D_check_rank : DnX P w K mg base "check_rank" ["many", "rank"] 3 (spCkRankA K C_BadRank)) (TK : KeepT K mg CK) (DKM : Pr P w K mg base CK "many" 2 (spKMany CK)) (DKE : Pr P w K mg base CK "entries" 2 (spKEnt CK)) (D_best_index : Dn P w K mg base "best_index" ["entries", "rank"] 4 (spBest))  : FnOk P w K mg base (L2.CX P w) 5 f fd ["self", "rank"] (spKAns K CK C_BadRank) := by
  refine F.okX sc_Keeper_answer (fun vs H Q E h => ?_) (fun cdv A outer s H vs Q E hr h => ?_)
  · obtain ⟨v, x, T, p, l, st, es, rfl, _⟩ := h
    rfl
  · obtain ⟨v, x, T, p, l, st, es, rfl, hx, hk, h60, kB, kR⟩ := h
    have nd := sc_Keeper_answer.nd
    have hr3 : Room 3 _ := hr.mono (by decide)
    have hr4 : Room 4 _ := hr.mono (by decide)
    refine ⟨_, pss_cons (ps_expr (pe_dnX (W := fun cls d _ H => E cls d H) D_check_rank hr3 (takes_of rfl rfl rfl rfl) (pa_cons (pe_pr DKM TK.cl hr3 (pv 0)) (pa_cons (pv 1) pa_nil))))
        (pss_one (ps_ret (pe_ix ix_tup (pe_ix ix_tup (pe_pr DKE TK.cl hr3 (pv 0)) (pe_dn D_best_index hr4 (pa_cons (pe_pr DKE TK.cl hr3 (pv 0)) (pa_cons (pv 1) pa_nil))) (fun _ _ => rfl)) pe_int (fun _ _ => rfl)))), ?_⟩
    obtain ⟨q, dx, us, rfl, hq, hl, hst⟩ := id hk
    have es1 : (((st ++ [es]).length : Nat) : Int) - 1 = st.length := by rw [List.length_append, List.length_singleton]; omega
    refine ⟨_, rfl, q, dx, _, rfl, hq, _, p, l, _, rfl, hk, _, rfl, ?_⟩
    rw [es1]
    refine ⟨x, _, T, rfl, hx, kB, fun hb => ?_⟩
    obtain ⟨r, rfl, r1, r2⟩ : ∃ r : Int, x = .int r ∧ 1 ≤ r ∧ r ≤ st.length := by
      cases x with
      | int p =>
        have h : (decide (1 ≤ p) && decide (p ≤ st.length)) = true := hb
        rw [Bool.and_eq_true, decide_eq_true_eq, decide_eq_true_eq] at h
        exact ⟨p, rfl, h.1, h.2⟩
      | _ => cases hb
    obtain ⟨ne, kQ⟩ := kR r rfl r1 r2
    refine ⟨_, rfl, q, dx, _, rfl, hq, _, p, l, st, es, rfl, hk, fun u hu => ?_⟩
    refine ⟨_, rfl, q, dx, _, rfl, hq, _, p, l, st, es, rfl, hk, fun u2 hu2 => ?_⟩
    refine ⟨_, rfl, u2, r, es, rfl, hu2, h60, ne, fun H1 m j s1 hm hj => ?_⟩
    obtain ⟨a, vs, rfl, ha, he⟩ := id (hu.mono s1)
    have hjl : j < es.length := by
      have := (List.getElem?_eq_some_iff.mp hj.1).1
      rwa [ers_len] at this
    obtain ⟨t, ht, hte⟩ := ent_ix he (j := j) hjl
    refine ⟨a, vs, _, _, rfl, rfl, SqT.of ha, at_of (j := j) rfl ht, t, _, _, _, rfl, rfl, SqT.of hte, rfl, ?_⟩
    exact kQ H1 m j _ s1 hm hj (ent_at hjl)
-- @prem Keeper_answer Keeper_answer X : D_check_rank TK DKM DKE D_best_index
def spKUndo (C : Addr) : Sp := fun vs H Q _ => ∃ (v : V) (p : Int) (l : Addr) (st : List (List Ent)) (es : List Ent), vs = [v] ∧ KeepV C H v p l (st ++ [es]) ∧ (st = [] → Q (.bl false) H) ∧ (st ≠ [] → ∀ H', But l H H' → KeepV C H' v p l st → Q (.bl true) H')
theorem sc_Keeper_undo : FnScope ["self"] ["self"] (defScope s_Keeper_undo) := ⟨rfl, rfl, rfl, by decide +kernel, rfl, by decide +kernel, by decide +kernel⟩
theorem ok_Keeper_undo {f : Addr} {fd : FuncData} (F : Fun K "undo" "Keeper.undo" s_Keeper_undo f fd)  (TK : KeepT K mg CK) (DKM : Pr P w K mg base CK "many" 2 (spKMany CK))  : FnOk P w K mg base CX0 4 f fd ["self"] (spKUndo CK) := by
  refine F.ok sc_Keeper_undo (fun vs H Q E h => ?_) (fun cdv A outer s H vs Q E hr h => ?_)
  · obtain ⟨v, p, l, st, es, rfl, _⟩ := h
    rfl
  · obtain ⟨v, p, l, st, es, rfl, hk, kF, kT⟩ := h
    have nd := sc_Keeper_undo.nd
    have hr3 : Room 3 _ := hr.mono (by decide)
    refine ⟨_, pss_cons (ps_if (pt_cmpR op_eq (pe_pr DKM TK.cl hr3 (pv 0)) pe_int (nomark _)) (pss_one (ps_ret pe_bl)) pss_nil)
        (pss_cons (ps_expr (pe_bm0 PySem.F.plainAttrs_list PySem.F.slot_list_pop PySem.F.type_list_pop mt_pop (pe_fld (pv 0) rfl)))
        (pss_one (ps_ret pe_bl))), ?_⟩
    obtain ⟨q, dx, us, rfl, hq, hl, hst⟩ := id hk
    have es1 : (((st ++ [es]).length : Nat) : Int) - 1 = st.length := by rw [List.length_append, List.length_singleton]; omega
    refine ⟨_, rfl, q, dx, _, rfl, hq, _, p, l, _, rfl, hk, ?_⟩
    rw [es1]
    refine ⟨rfl, _, rfl, ite2 (fun c => ?_) (fun c => ?_)⟩
    · have c0 : (st.length : Int) = 0 := V.int.inj (of_decide_eq_true c)
      exact kF (List.length_eq_zero_iff.mp (by omega))
    have c0 : st ≠ [] := fun z => c (decide_eq_true (by rw [z]; rfl))
    obtain ⟨us', u, rfl, h1, h2⟩ := pr_last hst
    have b1 : But l H (upd H l (.lst us')) := but_upd (Same.refl H)
    refine ⟨_, rfl, q, CK, dx, _, _, rfl, hq, TK.cl, TK.nS, kfl_stages _ _, .inl ⟨rfl, _, SqL.of hl⟩, l, us' ++ [u], u, rfl, rfl, hl, ?_, ?_⟩
    · rw [List.length_append, List.length_singleton, Nat.add_sub_cancel, List.getElem?_append_right (Nat.le_refl _), Nat.sub_self]
      rfl
    rw [List.dropLast_concat]
    exact kT c0 _ b1 ⟨q, dx, us', rfl, b1.keep hl hq (fun _ z => nomatch z), upd_same, Paired.mapP h1 fun _ _ x => b1.tup hl x⟩
-- @prem Keeper_undo Keeper_undo  : TK DKM
theorem kfl_put (p : Int) (l l2 : Addr) : putF "_stages" (.ref l2) (kfl p l) = kfl p l2 := by
  unfold kfl
  simp [putF, kne]
/-- Keeper(..) -/
def DnMkK (P : Program) (w : World) (K : PySem.W.Frag) (mg : Str → Option Value) (base : Heap) (C B : Addr) : Prop := ∃ fI fd, Mk K C fI ∧ FnOk P w K mg base (L2.CX P w) 3 fI fd ["self", "parts"] (spKInit K C B) ∧ Binds K fd ["self", "parts"] []
theorem pe_mkK {X : Cx} {C B : Addr} {e : Expr} {es : List Expr} {t : TA} {p pos : Pos} (D : DnMkK X.prog X.w X.K X.mg X.base C B) (T : KeepT X.K X.mg C) (hr : Room 4 X.A) (ha : PA X (e :: es) t) (hg : Gl X "Keeper" := by rfl)
    (he : starEach (e :: es) X.env = (false, eval e X.env) :: starEach es X.env := by rfl) (hpl : (backTo pos (starEach es X.env)).any (·.1) = false := by rfl) :
    PE X (.Call (.Name "Keeper" p) (e :: es) [] pos) (tMake C (spKInit X.K C B) [] E0 t) := by
  obtain ⟨fI, fd, M, F, b⟩ := D
  exact pe_make M F hr hg T.g b .nil passL ha (by decide) he hpl
theorem keep_mk {C B : Addr} {H1 : Hp} {p : Int} {x dx : Addr} {R : Hp → Prop} (p2 : 2 ≤ p) (p20 : p ≤ 20) (nx : H1 x = none) (nd : H1 dx = none) (ne : dx ≠ x) (k : ∀ H' l, Same H1 H' → H1 l = none → KeepV C H' (.ref x) p l [[]] → R H') :
    spKInit K C B (.ref x :: ([.int p] ++ [])) (upd (upd H1 dx (.own x)) x (.ins C dx [])) (fun v H2 => v = .non ∧ R H2) E0 := by
  have s0 : Same H1 (upd (upd H1 dx (.own x)) x (.ins C dx [])) := fun b o e => by
    rw [upd_ne (ne_of_none e nx), upd_ne (ne_of_none e nd)]
    exact e
  refine ⟨x, dx, .int p, _, rfl, upd_same, .int p, fun hb => ?_, fun p' e _ _ H' l t nl hx hl ht kp => ⟨rfl, ?_⟩⟩
  · have : (decide (2 ≤ p) && decide (p ≤ 20)) = false := hb
    rw [decide_eq_true p2, decide_eq_true p20] at this
    cases this
  · obtain rfl : p = p' := by injection e
    exact k H' l (fun b o e => kp b o (s0 b o e) (ne_of_none e nx)) (s0.free nl) ⟨x, dx, [.ref t], rfl, hx, hl, .cons ⟨t, [], rfl, ht, .nil⟩ .nil⟩
/-- len of a keeper -/
def DLenK (P : Program) (w : World) (K : PySem.W.Frag) (mg : Str → Option Value) (base : Heap) (C : Addr) : Prop := ∃ f fd, FnOk P w K mg base CX0 1 f fd ["self"] (spKLen C) ∧ PySem.W.findIn K (.ref C) "__len__" = some (some (.ref f)) ∧ PySem.W.isFn K (.ref f) = true ∧ Binds K fd ["self"] []
end
end SR

set_option Elab.async false
set_option linter.all false
set_option maxRecDepth 100000
set_option maxHeartbeats 4000000
/-! Keeper.copy. -/
namespace SR
open PySem PySem.Spec PyProof.Rows L2
section
variable {P : Program} {w : World} {K : PySem.W.Frag} {mg : Str → Option Value} {base : Heap} {CK C_BadParts : Addr}
def spKCopy (C : Addr) : Sp := fun vs H Q _ => ∃ (v : V) (p : Int) (l : Addr) (st : List (List Ent)), vs = [v] ∧ KeepV C H v p l st ∧ 2 ≤ p ∧ p ≤ 20 ∧ st.length ≤ 300 ∧ ∀ H' w l', Same H H' → H l' = none → KeepV C H' w p l' st → Q w H'
theorem sc_Keeper_copy : FnScope ["self", "twin"] ["self"] (defScope s_Keeper_copy) := ⟨rfl, rfl, rfl, by decide +kernel, rfl, by decide +kernel, by decide +kernel⟩
theorem ok_Keeper_copy {f : Addr} {fd : FuncData} (F : Fun K "copy" "Keeper.copy" s_Keeper_copy f fd)  (TK : KeepT K mg CK) (DKS : DnMkK P w K mg base CK C_BadParts) (m_list : mg "list" = none)  : FnOk P w K mg base CX0 5 f fd ["self"] (spKCopy CK) := by
  refine F.ok sc_Keeper_copy (fun vs H Q E h => ?_) (fun cdv A outer s H vs Q E hr h => ?_)
  · obtain ⟨v, p, l, st, rfl, _⟩ := h
    rfl
  · obtain ⟨v, p, l, st, rfl, hk, p2, p20, h300, k⟩ := h
    have nd := sc_Keeper_copy.nd
    have hr4 : Room 4 _ := hr.mono (by decide)
    refine ⟨_, pss_cons (ps_set (i := 1) nd rfl (Or.inl rfl) (pe_mkK DKS TK hr4 (pa_cons (pe_fld (pv 0) rfl) pa_nil)))
        (pss_cons (ps_fld (pv 1) (pe_callTy (T := "list") call_listK (by rfl) m_list (by decide +kernel) (pa_cons (pe_fld (pv 0) rfl) pa_nil)) rfl)
        (pss_one (ps_ret (pv 1)))), ?_⟩
    obtain ⟨q, dx, us, rfl, hq, hl, hst⟩ := id hk
    refine ⟨_, rfl, q, CK, dx, _, _, rfl, hq, TK.cl, TK.nP, kfl_parts _ _, fun x dx2 nx nd2 ne => keep_mk p2 p20 nx nd2 ne fun H1 l1 s1 nl1 hk1 => ?_⟩
    obtain ⟨q1, dx1, us1, e1, hq1, hl1, hst1⟩ := hk1
    cases e1
    refine ⟨_, rfl, q, CK, dx, _, _, rfl, s1 _ _ hq, TK.cl, TK.nS, kfl_stages _ _, l, us, rfl, .inl (SqL.of (s1 _ _ hl)), fun l2 nl2 => ?_⟩
    have s2 := Same_new (o := .lst us) nl2
    refine ⟨_, rfl, x, CK, dx1, _, rfl, s2 _ _ hq1, TK.cl, TK.nS, (by show 2 < 1000; decide), ?_⟩
    rw [kfl_put]
    have s3 : Same H (upd (upd H1 l2 (.lst us)) x (.ins CK dx1 (kfl p l2))) := Same_mut (s1.trans s2) nx
    have lx : l2 ≠ x := fun z => by rw [z, hq1] at nl2; cases nl2
    refine ⟨_, rfl, k _ _ l2 s3 (s1.free nl2) ⟨x, dx1, us, rfl, upd_same, ?_, Paired.mapP hst fun _ _ y => y.mono s3⟩⟩
    rw [upd_ne lx, upd_same]
-- @prem Keeper_copy Keeper_copy  : TK DKS m_list
end
end SR

set_option Elab.async false
set_option linter.all false
set_option maxRecDepth 100000
set_option maxHeartbeats 4000000
/-! InvalidText's __init__. -/
namespace SR
open PySem PySem.Spec PyProof.Rows L2
section
variable {P : Program} {w : World} {K : PySem.W.Frag} {mg : Str → Option Value} {base : Heap} {C : Addr}
theorem sc_InvalidText_init : FnScope ["self", "line", "word"] ["self", "line", "word"] (defScope s_InvalidText_init) := ⟨rfl, rfl, rfl, by decide +kernel, rfl, by decide +kernel, by decide +kernel⟩
theorem ok_InvalidText_init {f : Addr} {fd : FuncData} (F : Fun K "__init__" "InvalidText.__init__" s_InvalidText_init f fd) (T : OexC K C) (n1 : PySem.W.findIn K (.ref C) "line" = some none) (n2 : PySem.W.findIn K (.ref C) "word" = some none) :
    FnOk P w K mg base CX0 1 f fd ["self", "line", "word"] (spI2 C "line" "word") := by
  refine F.ok sc_InvalidText_init (fun vs H Q E h => ?_) (fun cdv A outer s H vs Q E hr h => ?_)
  · obtain ⟨a, x, y, rfl, _⟩ := h
    rfl
  · obtain ⟨a, x, y, rfl, ha, k⟩ := h
    refine ⟨_, pss_cons (ps_ost (pv 0) (pv 1)) (pss_one (ps_ost (pv 0) (pv 2))), ?_⟩
    refine ⟨_, rfl, _, rfl, a, C, rfl, T, n1, .inl ⟨ha, fun dx nd ne => ?_⟩⟩
    refine ⟨_, rfl, _, rfl, a, C, rfl, T, n2, .inr ⟨dx, _, upd_same, ?_, by show 1 ≤ 900; decide, k dx nd ne⟩⟩
    rw [upd_ne ne, upd_same]
end
end SR

set_option Elab.async false
set_option linter.all false
set_option maxRecDepth 100000
set_option maxHeartbeats 4000000
/-! The package's texts. -/
namespace SR
open PySem PySem.Spec PyProof.Rows L2

section
variable {P : Program} {w : World} {K : PySem.W.Frag} {mg : Str → Option Value} {base : Heap} {C C_InvalidText fI : Addr}
/-- the refusal at a line and a word -/
def RaI (N : Addr) (H : Hp) (E : XK) (r : Rf) : Prop := ∀ H' d, Same H H' → H d = none → H' d = some (.xd [("word", .int r.2), ("line", .int r.1)]) → E (.ref N) (some d) H'
theorem RaI.mono {N : Addr} {H H1 : Hp} {E : XK} {r : Rf} (h : RaI N H E r) (s : Same H H1) : RaI N H1 E r := fun H' d s' nd hd => h H' d (s.trans s') (s.free nd) hd
theorem RaI.made {N : Addr} {H : Hp} {E : XK} {l k : Int} (h : RaI N H E (l, k)) : ([V.int l, V.int k] : List V).length ≤ 1000 ∧ ∀ a, H a = none → spI2 N "line" "word" (.ref a :: ([V.int l, V.int k] ++ [])) (upd H a (exo a N none)) (XQ N a H E) (fun _ _ _ => False) :=
  made2 fun d H' s nd hd => h H' d s nd hd
def strL (ws : List Str) : HO := .lst (ws.map V.str)
def spWordsT : Sp := fun vs H Q _ => ∃ s : Str, vs = [.str s] ∧ s.length + 2 ≤ sizeLine ∧ ∀ H' p, Same H H' → H p = none → H' p = some (strL (wordsS s)) → Q (.ref p) H'
theorem sc__words : FnScope ["line", "word"] ["line"] (defScope s__words) := ⟨rfl, rfl, rfl, by decide +kernel, rfl, by decide +kernel, by decide +kernel⟩
theorem ok__words {f : Addr} {fd : FuncData} (F : Fun K "_words" "_words" s__words f fd)    : FnOk P w K mg base CX0 1 f fd ["line"] (spWordsT) := by
  refine F.ok sc__words (fun vs H Q E h => ?_) (fun cdv A outer s H vs Q E hr h => ?_)
  · obtain ⟨s, rfl, _⟩ := h
    rfl
  · obtain ⟨s, rfl, hz, k⟩ := h
    have nd := sc__words.nd
    refine ⟨_, pss_one (ps_ret (pe_lc (own := [("word", 1)]) (g := gName 1) (tt := tTru K (tVar 1)) (te := tVar 1) rfl nd (pi_list (pe_split (pv 0) pe_str)) (blkOk_by (own := [("word", 1)]) (N := ["line", "word"]) (sc := defScope s__words) (by decide +kernel)) (fun _ _ _ _ _ => (pg_name (i := 1) nd rfl (Or.inl rfl))) (fun _ _ _ _ _ => (pts_one (pt_truth (pv 1) (by intro _; rfl)))) (fun _ _ _ _ _ => (pv 1)))), ?_⟩
    refine ⟨_, rfl, ⟨_, rfl⟩, s, sp32, rfl, by rw [spS], by decide +kernel, hz, fun p np => ?_⟩
    have s0 := Same_new (o := .lst ((Txt.split s sp32).map V.str)) np
    obtain ⟨ps, hps⟩ : ∃ ps, ps = Txt.split s sp32 := ⟨_, rfl⟩
    have hpl : ps.length ≤ s.length + 2 := by rw [hps]; exact PyProof.Rows.split_le s sp32
    rw [← hps] at s0 ⊢
    refine ⟨p, rfl, ⟨_, SqL.of upd_same⟩, fun D nD => ?_⟩
    have hp : upd (upd H p (.lst (ps.map V.str))) D (.lst []) p = some (.lst (ps.map V.str)) := Same_new nD _ _ upd_same
    refine lc_list (K := K) (a := p) (xs := ps.map V.str) (fun i H' => H' D = some (strL ((ps.take i).filter fun w => !(w.length == 0))) ∧ Same (upd H p (.lst (ps.map V.str))) H') ⟨upd_same, Same_new nD⟩ (fun i H' _ ⟨_, s5⟩ => SqL.of (s5 _ _ upd_same)) ?_ ?_
    · rintro i x H' hx ⟨hD, s5⟩
      rw [List.getElem?_map] at hx
      obtain ⟨y, hy, rfl⟩ : ∃ y, ps[i]? = some y ∧ x = V.str y := by
        cases e : ps[i]? with
        | none => rw [e] at hx; cases hx
        | some z => rw [e] at hx; exact ⟨z, rfl, (Option.some.inj hx).symm⟩
      have hil : i < ps.length := (List.getElem?_eq_some_iff.mp hy).1
      have et : (ps.take (i + 1)).filter (fun w => !(w.length == 0)) = (ps.take i).filter (fun w => !(w.length == 0)) ++ [y].filter (fun w => !(w.length == 0)) := by
        rw [List.take_add_one, hy, List.filter_append]; rfl
      refine ⟨rfl, _, rfl, ((y.length : Int) != 0), ⟨by have := PyProof.Rows.part_short (x := s) (y := sp32) (a := y) (by rw [← hps]; exact List.mem_of_getElem? hy); omega, rfl⟩, ?_⟩
      have eb : ((y.length : Int) != 0) = !(y.length == 0) := by
        cases e : y.length with
        | zero => rfl
        | succ k => simp; omega
      rw [eb]
      refine ite2 (fun c => ?_) (fun c => ?_)
      · refine ⟨_, rfl, _, hD, ?_, ?_, Same_mut s5 nD⟩
        · rw [List.length_map]
          have := List.length_filter_le (fun w : Str => !(w.length == 0)) (ps.take i)
          rw [List.length_take] at this
          omega
        · rw [upd_same, et, List.filter_cons_of_pos (p := fun w : Str => !(w.length == 0)) c]
          show some (HO.lst (_ ++ [V.str y])) = some (HO.lst ((_ ++ [y]).map V.str))
          rw [List.map_append]
          rfl
      · rw [et, List.filter_cons_of_neg (p := fun w : Str => !(w.length == 0)) c, List.filter_nil, List.append_nil]
        exact ⟨hD, s5⟩
    · rintro H' ⟨hD, s5⟩
      rw [List.length_map, List.take_length] at hD
      exact k H' D (s0.trans s5) (s0.free nD) (by rw [hD, hps]; rfl)
-- @prem _words _words  : 
def oV : Option Int → V
  | some n => .int n
  | none => .non
def spNumT : Sp := fun vs H Q _ => ∃ s : Str, vs = [.str s] ∧ s.length ≤ sizeLine ∧ Q (oV (numS s)) H
theorem sc__number : FnScope ["word", "digits", "number"] ["word"] (defScope s__number) := ⟨rfl, rfl, rfl, by decide +kernel, rfl, by decide +kernel, by decide +kernel⟩
theorem ok__number {f : Addr} {fd : FuncData} (F : Fun K "_number" "_number" s__number f fd) {tk_MOST_DIGITS : Tok} (m_len : mg "len" = none) (m_MOST_DIGITS : mg "MOST_DIGITS" = some (.int (31) tk_MOST_DIGITS)) (m_int : mg "int" = none) (m_str : mg "str" = none)  : FnOk P w K mg base CX0 1 f fd ["word"] (spNumT) := by
  refine F.ok sc__number (fun vs H Q E h => ?_) (fun cdv A outer s H vs Q E hr h => ?_)
  · obtain ⟨s, rfl, _⟩ := h
    rfl
  · obtain ⟨s, rfl, hz, k⟩ := h
    have nd := sc__number.nd
    refine ⟨_, pss_cons (ps_set (i := 1) nd rfl (Or.inl rfl) (pe_m1 PySem.F.slot_str_removeprefix PySem.F.type_str_removeprefix mt_removeprefix (pv 0) pe_str))
        (pss_cons (ps_if (PW.pt (pw_or (pt_cmpR op_gt (pe_callB call_len_str (by rfl) m_len PySem.boot_len (pa_cons (pv 1) pa_nil)) (pe_gi m_MOST_DIGITS) (nomark _)) (pw_or (pt_not (pt_val (pe_m0 PySem.F.slot_str_isascii PySem.F.type_str_isascii mt_isascii (pv 1)))) (pw_or1 (pt_not (pt_val (pe_m0 PySem.F.slot_str_isdigit PySem.F.type_str_isdigit mt_isdigit (pv 1)))))))) (pss_one (ps_ret pe_non)) pss_nil)
        (pss_cons (ps_set (i := 2) nd rfl (Or.inl rfl) (pe_callTy (T := "int") call_int_str (by rfl) m_int (by decide +kernel) (pa_cons (pv 0) pa_nil)))
        (pss_one (ps_ret (pe_ifExp (pt_cmpR op_eq (pe_callTy (T := "str") call_str_int (by rfl) m_str (by decide +kernel) (pa_cons (pv 2) pa_nil)) (pv 0) (nomark _)) (pv 2) pe_non))))), ?_⟩
    have hmb := bare_is s
    obtain ⟨d, hd⟩ : ∃ d, d = Txt.removeprefix s minus := ⟨_, rfl⟩
    have hdl : d.length ≤ sizeLine := by
      have a : (bare (L s)).length ≤ (L s).length := by
        unfold bare
        split
        · rename_i r e; rw [e]; simp
        · exact Nat.le_refl _
      rw [← hmb, L_len, L_len, ← hd] at a
      omega
    have ok : okNum s = !(decide (31 < d.length) || !Txt.isascii d || !Txt.isdigit d) := by rw [hd]; rfl
    have bad : okNum s = false → Q .non H := fun e => by
      unfold numS at k
      rw [e] at k
      exact k
    refine ⟨_, rfl, ⟨_, rfl⟩, s, minus, rfl, rfl, hz, ?_⟩
    rw [← hd]
    refine ⟨_, rfl, d, rfl, hdl, _, _, rfl, rfl, _, rfl, ite2 (fun c => ?_) (fun c => ?_)⟩
    · have c' : 31 < d.length := by have := of_decide_eq_true c; omega
      exact bad (by rw [ok, decide_eq_true c']; rfl)
    have c1 : ¬ 31 < d.length := fun z => c (decide_eq_true (by omega))
    rw [decide_eq_false c1] at ok
    refine ⟨_, rfl, ⟨_, rfl⟩, d, rfl, rfl, trivial, _, rfl, ?_⟩
    cases ea : Txt.isascii d with
    | false => exact iteT (bad (by rw [ok, ea]; rfl))
    | true =>
      refine iteF ?_
      rw [ea] at ok
      refine ⟨_, rfl, ⟨_, rfl⟩, d, rfl, rfl, trivial, _, rfl, ?_⟩
      cases ed : Txt.isdigit d with
      | false => exact iteT (bad (by rw [ok, ed]; rfl))
      | true =>
        refine iteF ?_
        rw [ed] at ok
        have ok' : okNum s = true := ok
        obtain ⟨h32, n, hn, hsm⟩ := okNum_num ok'
        refine ⟨_, rfl, s, n, rfl, hn, by omega, ?_⟩
        have hs : numS s = if Tx n = s then some n else none := by
          unfold numS
          rw [if_pos ok', hn]
        rw [hs] at k
        refine ⟨_, rfl, n, rfl, log31 hsm, _, rfl, rfl, _, rfl, ?_⟩
        by_cases e : Tx n = s
        · rw [decide_eq_true (show V.str (Tx n) = V.str s by rw [e])]
          rw [if_pos e] at k
          exact iteT ⟨_, rfl, k⟩
        · rw [decide_eq_false (show ¬ V.str (Tx n) = V.str s from fun z => e (by injection z))]
          rw [if_neg e] at k
          exact iteF k
-- @prem _number _number  : m_len m_MOST_DIGITS m_int m_str
/-- what _number_at hands back -/
def spNumAt (N : Addr) : Sp := fun vs H Q E => ∃ (l a b : Int) (p : Addr) (k : Nat) (ws : List Str), vs = [.int l, .ref p, .int (k : Int), .int a, .int b] ∧ H p = some (strL ws) ∧ 1 ≤ k ∧ (∀ w ∈ ws, w.length ≤ sizeLine) ∧
  (∀ n, numAt l ws k a b = .ok n → Q (.int n) H) ∧ (∀ r, numAt l ws k a b = .error r → RaI N H E r)
theorem sc__number_at : FnScope ["line", "words", "word", "least", "greatest", "number"] ["line", "words", "word", "least", "greatest"] (defScope s__number_at) := ⟨rfl, rfl, rfl, by decide +kernel, rfl, by decide +kernel, by decide +kernel⟩
theorem ok__number_at {f : Addr} {fd : FuncData} (F : Fun K "_number_at" "_number_at" s__number_at f fd)  (m_len : mg "len" = none) (D__number : Dn P w K mg base "_number" ["word"] 1 (spNumT)) (X_InvalidText : FxT P w K mg base "InvalidText" C_InvalidText ["self", "line", "word"] (spI2 C_InvalidText "line" "word"))  : FnOk P w K mg base (L2.CX P w) 3 f fd ["line", "words", "word", "least", "greatest"] (spNumAt C_InvalidText) := by
  refine F.okX sc__number_at (fun vs H Q E h => ?_) (fun cdv A outer s H vs Q E hr h => ?_)
  · obtain ⟨l, a, b, p, j, ws, rfl, _⟩ := h
    rfl
  · obtain ⟨l, a, b, p, j, ws, rfl, hp, j1, hw, kQ, kE⟩ := h
    have nd := sc__number_at.nd
    have hr1 : Room 1 _ := hr.mono (by decide)
    have hr2 : Room 2 _ := hr.mono (by decide)
    refine ⟨_, pss_cons (ps_set (i := 5) nd rfl (Or.inl rfl) (pe_ifExp (pt_cmpR op_le (pv 2) (pe_callB call_len_seq (by rfl) m_len PySem.boot_len (pa_cons (pv 1) pa_nil)) (nomark _)) (pe_dn D__number hr1 (pa_cons (pe_ix ix_list (pv 1) (pe_op op_sub (pv 2) pe_int) (fun _ _ => rfl)) pa_nil)) pe_non))
        (pss_cons (ps_if (PW.pt (pw_or (pt_cmp (pc_isN (pv 5))) (pw_or1 (pt_not (pt_chain op_le op_le (pv 3) (pv 5) (pv 4)))))) (pss_one (ps_raise (W := fun cls d _ H => E cls d H) rfl (takes_of rfl rfl rfl rfl) (pmk_fx X_InvalidText hr2 (pa_cons (pv 0) (pa_cons (pv 2) pa_nil)) rfl))) pss_nil)
        (pss_one (ps_ret (pv 5)))), ?_⟩
    have hl : (ws.map V.str).length = ws.length := List.length_map ..
    obtain ⟨o, ho⟩ : ∃ o, o = (ws[j - 1]?).bind numS := ⟨_, rfl⟩
    refine ⟨_, rfl, _, rfl, p, _, rfl, .inl (SqL.of hp), _, _, rfl, rfl, _, rfl, ?_⟩
    rw [hl]
    refine two_ways (fun v H' => v = oV o ∧ H = H') (fun c Q' kq => ?_) (fun c Q' kq => ?_) ?_
    · have c' : j ≤ ws.length := by have := of_decide_eq_true c; omega
      have e : ws[j - 1]? = some (ws[j - 1]'(by omega)) := List.getElem?_eq_getElem (by omega)
      have e2 : (ws.map V.str)[j - 1]? = some (V.str (ws[j - 1]'(by omega))) := by rw [List.getElem?_map, e]; rfl
      refine ⟨_, rfl, _, rfl, _, _, rfl, rfl, p, _, _, _, rfl, rfl, SqL.of hp, at_of (j := j - 1) (by omega) e2, _, rfl, hw _ (List.getElem_mem _), kq _ _ ⟨?_, rfl⟩⟩
      rw [ho, e]
      rfl
    · have c' : ¬ j ≤ ws.length := fun z => by rw [decide_eq_true (by omega)] at c; cases c
      refine kq _ _ ⟨?_, rfl⟩
      rw [ho, List.getElem?_eq_none (by omega)]
      rfl
    rintro v H' ⟨rfl, rfl⟩
    cases o with
    | none =>
      refine ⟨_, rfl, _, rfl, iteT ?_⟩
      refine ⟨_, rfl, _, rfl, RaI.made (kE (l, j) ?_)⟩
      unfold numAt
      rw [← ho]
    | some n =>
      refine ⟨_, rfl, _, rfl, ?_⟩
      rw [decide_eq_false (show ¬ oV (some n) = V.non from fun z => nomatch z)]
      refine iteF ?_
      refine ⟨_, rfl, _, rfl, _, _, rfl, rfl, _, rfl, ?_⟩
      have hn : numAt l ws j a b = if a ≤ n ∧ n ≤ b then .ok n else .error (l, (j : Int)) := by
        unfold numAt
        rw [← ho]
      by_cases h1 : a ≤ n
      · rw [if_pos (decide_eq_true h1)]
        refine ⟨_, rfl, _, _, rfl, rfl, _, rfl, ?_⟩
        by_cases h2 : n ≤ b
        · rw [decide_eq_true h2]
          refine iteF ⟨_, rfl, kQ n ?_⟩
          rw [hn, if_pos ⟨h1, h2⟩]
        · rw [decide_eq_false h2]
          refine iteT ⟨_, rfl, _, rfl, RaI.made (kE (l, j) ?_)⟩
          rw [hn, if_neg (fun z => h2 z.2)]
      · rw [if_neg (by simp [h1])]
        refine ⟨_, rfl, iteT ⟨_, rfl, _, rfl, RaI.made (kE (l, j) ?_)⟩⟩
        rw [hn, if_neg (fun z => h1 z.1)]
-- @prem _number_at _number_at X : m_len D__number X_InvalidText
def spEndAt (N : Addr) : Sp := fun vs H Q E => ∃ (l : Int) (p : Addr) (k : Nat) (ws : List Str), vs = [.int l, .ref p, .int (k : Int)] ∧ H p = some (strL ws) ∧
  (∀ u, endAt l ws k = .ok u → Q .non H) ∧ (∀ r, endAt l ws k = .error r → RaI N H E r)
theorem sc__check_end : FnScope ["line", "words", "last"] ["line", "words", "last"] (defScope s__check_end) := ⟨rfl, rfl, rfl, by decide +kernel, rfl, by decide +kernel, by decide +kernel⟩
theorem ok__check_end {f : Addr} {fd : FuncData} (F : Fun K "_check_end" "_check_end" s__check_end f fd)  (m_len : mg "len" = none) (X_InvalidText : FxT P w K mg base "InvalidText" C_InvalidText ["self", "line", "word"] (spI2 C_InvalidText "line" "word"))  : FnOk P w K mg base (L2.CX P w) 3 f fd ["line", "words", "last"] (spEndAt C_InvalidText) := by
  refine F.okX sc__check_end (fun vs H Q E h => ?_) (fun cdv A outer s H vs Q E hr h => ?_)
  · obtain ⟨l, p, j, ws, rfl, _⟩ := h
    rfl
  · obtain ⟨l, p, j, ws, rfl, hp, kQ, kE⟩ := h
    have nd := sc__check_end.nd
    have hr2 : Room 2 _ := hr.mono (by decide)
    refine ⟨_, pss_one (ps_if (pt_cmpR op_gt (pe_callB call_len_seq (by rfl) m_len PySem.boot_len (pa_cons (pv 1) pa_nil)) (pv 2) (nomark _)) (pss_one (ps_raise (W := fun cls d _ H => E cls d H) rfl (takes_of rfl rfl rfl rfl) (pmk_fx X_InvalidText hr2 (pa_cons (pv 0) (pa_cons (pe_op op_add (pv 2) pe_int) pa_nil)) rfl))) pss_nil), ?_⟩
    have hl : (ws.map V.str).length = ws.length := List.length_map ..
    refine ⟨_, rfl, p, _, rfl, .inl (SqL.of hp), _, rfl, _, _, rfl, rfl, _, rfl, ?_⟩
    rw [hl]
    refine ite2 (fun c => ?_) (fun c => ?_)
    · have c' : j < ws.length := by have := of_decide_eq_true c; omega
      refine ⟨_, rfl, _, rfl, _, _, rfl, rfl, RaI.made (kE (l, (j : Int) + 1) ?_)⟩
      unfold endAt
      rw [if_pos c']
    · have c' : ¬ j < ws.length := fun z => c (decide_eq_true (by omega))
      refine kQ () ?_
      unfold endAt
      rw [if_neg c']
-- @prem _check_end _check_end X : m_len X_InvalidText
def spReadC (N : Addr) : Sp := fun vs H Q E => ∃ (p : Addr) (ws : List Str), vs = [.ref p] ∧ H p = some (strL ws) ∧ (∀ w ∈ ws, w.length ≤ sizeLine) ∧ (∀ w ∈ ws, PyData.strOk w = true) ∧
  (∀ n, readCount ws = .ok n → ∀ H', Same H H' → Q (.int n) H') ∧ (∀ r, readCount ws = .error r → RaI N H E r)
theorem sc__read_count : FnScope ["words", "many"] ["words"] (defScope s__read_count) := ⟨rfl, rfl, rfl, by decide +kernel, rfl, by decide +kernel, by decide +kernel⟩
theorem ok__read_count {f : Addr} {fd : FuncData} (F : Fun K "_read_count" "_read_count" s__read_count f fd) {tk_GREATEST_COUNT : Tok} (X_InvalidText : FxT P w K mg base "InvalidText" C_InvalidText ["self", "line", "word"] (spI2 C_InvalidText "line" "word")) (D__number_at : DnX P w K mg base "_number_at" ["line", "words", "word", "least", "greatest"] 3 (spNumAt C_InvalidText)) (m_GREATEST_COUNT : mg "GREATEST_COUNT" = some (.int (10 ^ 30) tk_GREATEST_COUNT)) (D__check_end : DnX P w K mg base "_check_end" ["line", "words", "last"] 3 (spEndAt C_InvalidText))  : FnOk P w K mg base (L2.CX P w) 4 f fd ["words"] (spReadC C_InvalidText) := by
  refine F.okX sc__read_count (fun vs H Q E h => ?_) (fun cdv A outer s H vs Q E hr h => ?_)
  · obtain ⟨p, ws, rfl, _⟩ := h
    rfl
  · obtain ⟨p, ws, rfl, hp, hw, hok, kQ, kE⟩ := h
    have nd := sc__read_count.nd
    have hr2 : Room 2 _ := hr.mono (by decide)
    have hr3 : Room 3 _ := hr.mono (by decide)
    refine ⟨_, pss_cons (ps_if (pt_cmpR (op_neD hr.units) (pe_slice sl_list (pv 0) po_none (po_some pe_int)) (pe_lst (pa_cons pe_str pa_nil)) (nomark _)) (pss_one (ps_raise (W := fun cls d _ H => E cls d H) rfl (takes_of rfl rfl rfl rfl) (pmk_fx X_InvalidText hr2 (pa_cons pe_int (pa_cons pe_int pa_nil)) rfl))) pss_nil)
        (pss_cons (ps_set (i := 1) nd rfl (Or.inl rfl) (pe_dnX (W := fun cls d _ H => E cls d H) D__number_at hr3 (takes_of rfl rfl rfl rfl) (pa_cons pe_int (pa_cons (pv 0) (pa_cons pe_int (pa_cons pe_int (pa_cons (pe_gi m_GREATEST_COUNT) pa_nil)))))))
        (pss_cons (ps_expr (pe_dnX (W := fun cls d _ H => E cls d H) D__check_end hr3 (takes_of rfl rfl rfl rfl) (pa_cons pe_int (pa_cons (pv 0) (pa_cons pe_int pa_nil)))))
        (pss_one (ps_ret (pv 1))))), ?_⟩
    have e1 : cutV (ws.map V.str) none (some 1) = (ws.take 1).map V.str := by
      cases ws with
      | nil => rfl
      | cons x r => exact (cut_to (t := 1) (by simp)).trans (by simp)
    refine ⟨_, rfl, 1, rfl, p, _, rfl, SqL.of hp, fun z nz => ⟨(by show 1 ≤ sizeLine; decide), fun y ny => ?_⟩⟩
    rw [e1] at ny ⊢
    have sz := Same_new (o := .lst ((ws.take 1).map V.str)) nz
    have sy := Same_new2 (o := .lst [V.str (Str.ofString "count")]) sz ny
    have hp2 := sy _ _ hp
    have hz2 : upd (upd H z (.lst ((ws.take 1).map V.str))) y (.lst [V.str (Str.ofString "count")]) z = some (.lst ((ws.take 1).map V.str)) := Same_new ny _ _ upd_same
    refine ⟨_, _, .lst (SqL.of hz2) (strs_dp (ws.take 1)), .lst (SqL.of upd_same) (strs_dp [countW]), shaped_strs _ (fun w hw' => hok w (List.mem_of_mem_take hw')), shaped_strs _ (fun w hw' => by rw [List.mem_singleton.mp hw']; decide +kernel), ?_⟩
    rw [eqv_strs]
    refine ⟨_, rfl, ?_⟩
    by_cases c : ws.take 1 = [countW]
    · rw [decide_eq_true c]
      refine iteF ?_
      refine ⟨_, rfl, 1, 1, 10 ^ 30, p, 2, ws, rfl, hp2, by decide, hw, fun n hn => ?_, fun r hr => (kE r (readCount_3 c hr)).mono sy⟩
      refine ⟨_, rfl, 1, p, 2, ws, rfl, hp2, fun u hu => ?_, fun r hr => (kE r (readCount_2 c hn hr)).mono sy⟩
      exact ⟨_, rfl, kQ n (readCount_1 c hn hu) _ sy⟩
    · rw [decide_eq_false c]
      refine iteT (RaI.made ((kE (1, 1) ?_).mono sy))
      unfold readCount
      rw [if_neg c]
-- @prem _read_count _read_count X : X_InvalidText D__number_at m_GREATEST_COUNT D__check_end
def spReadE (N : Addr) : Sp := fun vs H Q E => ∃ (l least many : Int) (p : Addr) (ws : List Str), vs = [.int l, .ref p, .int least, .int many] ∧ H p = some (strL ws) ∧ (∀ w ∈ ws, w.length ≤ sizeLine) ∧
  (∀ e, readEntry l ws least many = .ok e → ∀ H' t, Same H H' → H t = none → H' t = some (.tup [.int e.1, .int e.2.1, .int e.2.2]) → Q (.ref t) H') ∧ (∀ r, readEntry l ws least many = .error r → RaI N H E r)
theorem sc__read_entry : FnScope ["line", "words", "least", "many", "value", "low", "high"] ["line", "words", "least", "many"] (defScope s__read_entry) := ⟨rfl, rfl, rfl, by decide +kernel, rfl, by decide +kernel, by decide +kernel⟩
theorem ok__read_entry {f : Addr} {fd : FuncData} (F : Fun K "_read_entry" "_read_entry" s__read_entry f fd) {tk_GREATEST_VALUE : Tok} (D__number_at : DnX P w K mg base "_number_at" ["line", "words", "word", "least", "greatest"] 3 (spNumAt C_InvalidText)) (m_GREATEST_VALUE : mg "GREATEST_VALUE" = some (.int (10 ^ 30) tk_GREATEST_VALUE)) (D__check_end : DnX P w K mg base "_check_end" ["line", "words", "last"] 3 (spEndAt C_InvalidText))  : FnOk P w K mg base (L2.CX P w) 4 f fd ["line", "words", "least", "many"] (spReadE C_InvalidText) := by
  refine F.okX sc__read_entry (fun vs H Q E h => ?_) (fun cdv A outer s H vs Q E hr h => ?_)
  · obtain ⟨l, least, many, p, ws, rfl, _⟩ := h
    rfl
  · obtain ⟨l, least, many, p, ws, rfl, hp, hw, kQ, kE⟩ := h
    have nd := sc__read_entry.nd
    have hr3 : Room 3 _ := hr.mono (by decide)
    refine ⟨_, pss_cons (ps_set (i := 4) nd rfl (Or.inl rfl) (pe_dnX (W := fun cls d _ H => E cls d H) D__number_at hr3 (takes_of rfl rfl rfl rfl) (pa_cons (pv 0) (pa_cons (pv 1) (pa_cons pe_int (pa_cons (pv 2) (pa_cons (pe_gi m_GREATEST_VALUE) pa_nil)))))))
        (pss_cons (ps_set (i := 5) nd rfl (Or.inl rfl) (pe_dnX (W := fun cls d _ H => E cls d H) D__number_at hr3 (takes_of rfl rfl rfl rfl) (pa_cons (pv 0) (pa_cons (pv 1) (pa_cons pe_int (pa_cons pe_int (pa_cons (pv 3) pa_nil)))))))
        (pss_cons (ps_set (i := 6) nd rfl (Or.inl rfl) (pe_dnX (W := fun cls d _ H => E cls d H) D__number_at hr3 (takes_of rfl rfl rfl rfl) (pa_cons (pv 0) (pa_cons (pv 1) (pa_cons pe_int (pa_cons (pv 5) (pa_cons (pv 3) pa_nil)))))))
        (pss_cons (ps_expr (pe_dnX (W := fun cls d _ H => E cls d H) D__check_end hr3 (takes_of rfl rfl rfl rfl) (pa_cons (pv 0) (pa_cons (pv 1) (pa_cons pe_int pa_nil)))))
        (pss_one (ps_ret (pe_tup (pa_cons (pv 4) (pa_cons (pv 5) (pa_cons (pv 6) pa_nil))))))))), ?_⟩
    refine ⟨_, rfl, _, rfl, _, rfl, l, least, 10 ^ 30, p, 1, ws, rfl, hp, by decide, hw, fun v hv => ?_, fun r hr => kE r (by unfold readEntry; rw [hr])⟩
    refine ⟨_, rfl, _, rfl, _, rfl, l, 1, many, p, 2, ws, rfl, hp, by decide, hw, fun a ha => ?_, fun r hr => kE r (by unfold readEntry; rw [hv]; dsimp only; rw [hr])⟩
    refine ⟨_, rfl, _, rfl, _, rfl, _, rfl, l, a, many, p, 3, ws, rfl, hp, by decide, hw, fun b hb => ?_, fun r hr => kE r (by unfold readEntry; rw [hv]; dsimp only; rw [ha]; dsimp only; rw [hr])⟩
    refine ⟨_, rfl, _, rfl, l, p, 3, ws, rfl, hp, fun u hu => ?_, fun r hr => kE r (by unfold readEntry; rw [hv]; dsimp only; rw [ha]; dsimp only; rw [hb]; dsimp only; rw [hr])⟩
    refine ⟨_, rfl, _, rfl, _, rfl, (by show 3 ≤ sizeLine; decide), fun z nz => kQ (v, a, b) ?_ _ z (Same_new nz) nz upd_same⟩
    unfold readEntry
    rw [hv]; dsimp only; rw [ha]; dsimp only; rw [hb]; dsimp only; rw [hu]
-- @prem _read_entry _read_entry X : D__number_at m_GREATEST_VALUE D__check_end
def spWriteT (C : Addr) : Sp := fun vs H Q _ => ∃ (v : V) (n : Int) (es : List Ent), vs = [v] ∧ SumV C H v n es ∧ Valid n es ∧ ∀ H', Same H H' → Q (.str (textS n es)) H'
theorem sc_write_summary : FnScope ["summary", "lines", "value", "low", "high"] ["summary"] (defScope s_write_summary) := ⟨rfl, rfl, rfl, by decide +kernel, rfl, by decide +kernel, by decide +kernel⟩
theorem ok_write_summary {f : Addr} {fd : FuncData} (F : Fun K "write_summary" "write_summary" s_write_summary f fd)  (D_check_summary : Dn P w K mg base "check_summary" ["summary"] 1 (spCkSum C)) (T : SumT K mg C) (DM : Pr P w K mg base C "many" 1 (getSp C "_many")) (DE : Pr P w K mg base C "entries" 1 (getSp C "_entries"))  : FnOk P w K mg base CX0 3 f fd ["summary"] (spWriteT C) := by
  refine F.ok sc_write_summary (fun vs H Q E h => ?_) (fun cdv A outer s H vs Q E hr h => ?_)
  · obtain ⟨v, n, es, rfl, _⟩ := h
    rfl
  · obtain ⟨v, n, es, rfl, hS, hv, k⟩ := h
    have nd := sc_write_summary.nd
    have hr1 : Room 1 _ := hr.mono (by decide)
    have hr2 : Room 2 _ := hr.mono (by decide)
    refine ⟨_, pss_cons (ps_expr (pe_dn D_check_summary hr1 (pa_cons (pv 0) pa_nil)))
        (pss_cons (ps_set (i := 1) nd rfl (Or.inl rfl) (pe_lst (pa_cons (pe_fstr (.cons pe_str (.cons (pe_fmt (pe_pr DM T.ic.cl hr2 (pv 0))) .nil))) pa_nil)))
        (pss_cons (ps_expr (pe_bm PySem.F.plainAttrs_list PySem.F.slot_list_extend PySem.F.type_list_extend mt_extend (pv 1) (pa_cons (pe_lc (own := [("value", 2), ("low", 3), ("high", 4)]) (g := gTup K 3 (gCons (gName 2) (gCons (gName 3) (gCons (gName 4) gNil)))) (tt := tYes) (te := tFs [tFmt (tVar 2), tC (.str (PySem.Str.ofString " ")), tFmt (tVar 3), tC (.str (PySem.Str.ofString " ")), tFmt (tVar 4)]) rfl nd (pi_tup (pe_pr DE T.ic.cl hr2 (pv 0))) (blkOk_by (own := [("value", 2), ("low", 3), ("high", 4)]) (N := ["summary", "lines", "value", "low", "high"]) (sc := defScope s_write_summary) (by decide +kernel)) (fun _ _ _ _ _ => (pg_tup rfl (pgs_cons (pg_name (i := 2) nd rfl (Or.inl rfl)) (pgs_cons (pg_name (i := 3) nd rfl (Or.inl rfl)) (pgs_cons (pg_name (i := 4) nd rfl (Or.inl rfl)) pgs_nil))))) (fun _ _ _ _ _ => pts_nil) (fun _ _ _ _ _ => (pe_fstr (.cons (pe_fmt (pv 2)) (.cons pe_str (.cons (pe_fmt (pv 3)) (.cons pe_str (.cons (pe_fmt (pv 4)) .nil)))))))) pa_nil)))
        (pss_one (ps_ret (pe_jn pe_str (pv 1)))))), ?_⟩
    obtain ⟨p, dx, u, rfl, hp, a, vs, rfl, ha, he⟩ := id hS
    have hl : vs.length = es.length := he.len
    have h12 := hv.len
    have hh := head_len hv.n1 hv.n2
    have hT := Tx_small (v := n) (by have := hv.n1; omega) hv.n2
    refine ⟨_, rfl, _, n, es, rfl, hS, ?_⟩
    refine ⟨_, rfl, (by show (Str.empty ++ Str.ofString "count ").length ≤ sizeLine; decide +kernel), _, rfl, p, dx, _, rfl, hp, p, dx, _, _, rfl, hp, sfl_many _ _, .inr ⟨n, rfl, log31 (small31 (by have := hv.n1; omega) hv.n2), _, rfl, ?_, ?_⟩⟩
    · rw [Str.empty_append]
      exact size1000 (Nat.le_trans hh (by decide))
    rw [Str.empty_append]
    refine ⟨(by show 1 ≤ sizeLine; decide), fun z nz => ?_⟩
    have sz := Same_new (o := .lst [V.str (headS n)]) nz
    have hp1 := sz _ _ hp
    refine ⟨_, rfl, .inl ⟨rfl, _, SqL.of upd_same⟩, _, rfl, p, dx, _, rfl, hp1, p, dx, _, _, rfl, hp1, sfl_entries _ _, a, rfl, ⟨_, SqT.of (sz _ _ ha)⟩, fun D nD => ?_⟩
    refine lc_tup (K := K) (a := a) (xs := vs) (fun i H' => H' D = some (.lst (((es.take i).map lineS).map V.str)) ∧ Same (upd H z (.lst [V.str (headS n)])) H') ⟨upd_same, Same_new nD⟩ (fun i H' _ ⟨_, s5⟩ => SqT.of (s5 _ _ (sz _ _ ha))) ?_ ?_
    · rintro i x H' hx ⟨hD, s5⟩
      obtain ⟨e, hei, t, rfl, ht⟩ := pr_at' he hx
      have hil : i < es.length := (List.getElem?_eq_some_iff.mp hei).1
      obtain ⟨l0, l1, l2, l3⟩ := line_len hv hei
      have hent := hv.ent i hil
      rw [vl_of hei, lo_of hei, hi_of hei] at hent
      obtain ⟨b1, b2, b3, b4, b5⟩ := hent
      have n2 := hv.n2
      refine ⟨t, _, rfl, SqT.of (s5 _ _ (sz _ _ ht)), rfl, _, _, rfl, _, _, rfl, _, _, rfl, rfl, rfl, tyes_of ?_⟩
      rw [if_pos rfl]
      have s1 : (Str.ofString " ").length = 1 := by decide +kernel
      have l1 : (Str.ofString (toString e.1)).length ≤ 32 := l1
      have l2 : (Str.ofString (toString e.2.1)).length ≤ 32 := l2
      have l3 : (Str.ofString (toString e.2.2)).length ≤ 32 := l3
      refine ⟨_, rfl, .inr ⟨e.1, rfl, log31 (small31 b1 b2), _, rfl, ?_, _, rfl, ?_, _, rfl, .inr ⟨e.2.1, rfl, log31 (small31 (by omega) (by omega)), _, rfl, ?_, _, rfl, ?_, _, rfl, .inr ⟨e.2.2, rfl, log31 (small31 (by omega) (by omega)), _, rfl, ?_, ?_⟩⟩⟩⟩
      · rw [Str.empty_append]; exact size1000 (by omega)
      · rw [Str.empty_append, Str.length_append, s1]; exact size1000 (by omega)
      · rw [Str.empty_append, Str.length_append, Str.length_append, s1]; exact size1000 (by omega)
      · rw [Str.empty_append, Str.length_append, Str.length_append, Str.length_append, s1]; exact size1000 (by omega)
      · rw [Str.empty_append, Str.length_append, Str.length_append, Str.length_append, Str.length_append, s1]; exact size1000 (by omega)
      rw [Str.empty_append, spS]
      refine ⟨_, hD, ?_, ?_, Same_mut s5 nD⟩
      · rw [List.length_map, List.length_map, List.length_take]
        exact small1000 (by omega)
      · rw [upd_same, List.take_add_one, hei, List.map_append, List.map_append]
        rfl
    rintro H1 ⟨hD, s1⟩
    rw [hl, List.take_length] at hD
    have hz1 := s1 _ _ (upd_same (H := H) (a := z) (o := .lst [V.str (headS n)]))
    refine ⟨z, D, _, _, rfl, rfl, hz1, hD, ?_, ?_⟩
    · rw [List.length_map, List.length_map]
      exact size1000 (by simp; omega)
    have sAll : Same H (upd H1 z (.lst ([V.str (headS n)] ++ (es.map lineS).map V.str))) := Same_mut (sz.trans s1) nz
    obtain ⟨r1, r2⟩ := rows_sum hv
    refine ⟨⟨_, rfl⟩, _, rfl, nl10, z, rowsS n es, by rw [nlS], rfl, .inl (SqL.of upd_same), ?_, k _ sAll⟩
    rw [show nl10.length = 1 by decide +kernel]
    omega
-- @prem write_summary write_summary  : D_check_summary T DM DE
def spReadT (C N : Addr) : Sp := fun vs H Q E => ∃ (t : Str), vs = [.str t] ∧ t.length + 2 ≤ sizeLine ∧ PyData.strOk t = true ∧
  (∀ n es, readS t = .ok (n, es) → ∀ H' p, Same H H' → SumV C H' (.ref p) n es → Q (.ref p) H') ∧ (∀ r, readS t = .error r → RaI N H E r)
theorem sc_read_summary : FnScope ["text", "lines", "many", "entries", "least", "line", "written", "entry"] ["text"] (defScope s_read_summary) := ⟨rfl, rfl, rfl, by decide +kernel, rfl, by decide +kernel, by decide +kernel⟩
theorem ok_read_summary {f : Addr} {fd : FuncData} (F : Fun K "read_summary" "read_summary" s_read_summary f fd) {tk_GREATEST_VALUE : Tok} {tk_MOST_ENTRIES : Tok} (D__read_count : DnX P w K mg base "_read_count" ["words"] 4 (spReadC C_InvalidText)) (D__words : Dn P w K mg base "_words" ["line"] 1 (spWordsT)) (m_GREATEST_VALUE : mg "GREATEST_VALUE" = some (.int (10 ^ 30) tk_GREATEST_VALUE)) (m_enumerate : mg "enumerate" = none) (m_len : mg "len" = none) (m_MOST_ENTRIES : mg "MOST_ENTRIES" = some (.int (12) tk_MOST_ENTRIES)) (X_InvalidText : FxT P w K mg base "InvalidText" C_InvalidText ["self", "line", "word"] (spI2 C_InvalidText "line" "word")) (D__read_entry : DnX P w K mg base "_read_entry" ["line", "words", "least", "many"] 4 (spReadE C_InvalidText)) (T : SumT K mg C) (DS : DnMk P w K mg base C) (m_tuple : mg "tuple" = none)  : FnOk P w K mg base (L2.CX P w) 8 f fd ["text"] (spReadT C C_InvalidText) := by
  refine F.okX sc_read_summary (fun vs H Q E h => ?_) (fun cdv A outer s H vs Q E hr h => ?_)
  · obtain ⟨t, rfl, _⟩ := h
    rfl
  · obtain ⟨t, rfl, hz, hok, kQ, kE⟩ := h
    have nd := sc_read_summary.nd
    have hr1 : Room 1 _ := hr.mono (by decide)
    have hr2 : Room 2 _ := hr.mono (by decide)
    have hr4 : Room 4 _ := hr.mono (by decide)
    have hr7 : Room 7 _ := hr.mono (by decide)
    refine ⟨_, pss_cons (ps_set (i := 1) nd rfl (Or.inl rfl) (pe_split (pv 0) pe_str))
        (pss_cons (ps_set (i := 2) nd rfl (Or.inl rfl) (pe_dnX (W := fun cls d _ H => E cls d H) D__read_count hr4 (takes_of rfl rfl rfl rfl) (pa_cons (pe_dn D__words hr1 (pa_cons (pe_ix ix_list (pv 1) pe_int (fun _ _ => rfl)) pa_nil)) pa_nil)))
        (pss_cons (ps_set (i := 3) nd rfl (Or.inl rfl) (pe_lst pa_nil))
        (pss_cons (ps_set (i := 4) nd rfl (Or.inl rfl) (pe_un un_neg (pe_gi m_GREATEST_VALUE)))
        (pss_cons (ps_for (passes_of rfl) rfl (pi_enumS (by rfl) m_enumerate (pa_cons (pe_slice sl_list (pv 1) (po_some pe_int) po_none) pa_nil) (pk_cons pe_int pk_nil)) (pg_tup rfl (pgs_cons (pg_name (i := 5) nd rfl (Or.inl rfl)) (pgs_cons (pg_name (i := 6) nd rfl (Or.inl rfl)) pgs_nil)))
        (pss_cons (ps_if (pt_cmpR op_eq (pe_callB call_len_seq (by rfl) m_len PySem.boot_len (pa_cons (pv 3) pa_nil)) (pe_gi m_MOST_ENTRIES) (nomark _)) (pss_one (ps_raise (W := fun cls d _ H => E cls d H) rfl (takes_of rfl rfl rfl rfl) (pmk_fx X_InvalidText hr2 (pa_cons (pv 5) (pa_cons pe_int pa_nil)) rfl))) pss_nil)
        (pss_cons (ps_set (i := 7) nd rfl (Or.inl rfl) (pe_dnX (W := fun cls d _ H => E cls d H) D__read_entry hr4 (takes_of rfl rfl rfl rfl) (pa_cons (pv 5) (pa_cons (pe_dn D__words hr1 (pa_cons (pv 6) pa_nil)) (pa_cons (pv 4) (pa_cons (pv 2) pa_nil))))))
        (pss_cons (ps_expr (pe_bm PySem.F.plainAttrs_list PySem.F.slot_list_append PySem.F.type_list_append mt_append (pv 3) (pa_cons (pv 7) pa_nil)))
        (pss_one (ps_set (i := 4) nd rfl (Or.inl rfl) (pe_ix ix_tup (pv 7) pe_int (fun _ _ => rfl))))))))
        (pss_one (ps_ret (pe_mkS DS T hr7 (pa_cons (pv 2) (pa_cons (pe_callTy (T := "tuple") call_tupK (by rfl) m_tuple (by decide +kernel) (pa_cons (pv 3) pa_nil)) pa_nil))))))))), ?_⟩
    refine ⟨_, rfl, ⟨_, rfl⟩, t, nl10, rfl, by rw [nlS], by decide +kernel, hz, fun p np => ?_⟩
    obtain ⟨ps, hps⟩ : ∃ ps, ps = Txt.split t nl10 := ⟨_, rfl⟩
    have hpl : ps.length ≤ t.length + 2 := by rw [hps]; exact PyProof.Rows.split_le t nl10
    have hshort : ∀ w ∈ ps, w.length ≤ t.length := fun w hw => PyProof.Rows.part_short (x := t) (y := nl10) (a := w) (by rw [← hps]; exact hw)
    have hoks : ∀ w ∈ ps, PyData.strOk w = true := fun w hw => split_ok hok w (by rw [hps] at hw; exact hw)
    rw [← hps]
    have hp0 : upd H p (.lst (ps.map V.str)) p = some (.lst (ps.map V.str)) := upd_same
    have sp0 := Same_new (o := .lst (ps.map V.str)) np
    obtain ⟨H0, e0⟩ : ∃ H0, H0 = upd H p (.lst (ps.map V.str)) := ⟨_, rfl⟩
    rw [← e0] at hp0 sp0 ⊢
    obtain ⟨s0, r, hsr⟩ : ∃ s0 r, ps = s0 :: r := by
      cases e : ps with
      | nil => exact absurd (by rw [← hps]; exact e) (split_ne t nl10)
      | cons x y => exact ⟨x, y, rfl⟩
    have hs := hps.symm.trans hsr
    have ms : s0 ∈ ps := by rw [hsr]; exact List.mem_cons_self ..
    refine ⟨_, rfl, p, _, 0, _, rfl, rfl, SqL.of hp0, atI_nat (j := 0) (by rw [hsr]; rfl), s0, rfl, by have := hshort s0 ms; omega, fun H1 q1 s1 nq1 hq1 => ?_⟩
    refine ⟨q1, wordsS s0, rfl, hq1, fun w hw => ?_, words_ok (hoks s0 ms), fun n hn H2 s2 => ?_, fun r' hr => ((kE r' (readS_3 hs hr)).mono sp0).mono s1⟩
    · have := words_short (t := s0) w hw
      have := hshort s0 ms
      omega
    have s02 := (sp0.trans s1).trans s2
    have hp2 := s2 _ _ (s1 _ _ hp0)
    refine ⟨Nat.zero_le _, fun q nq => ?_⟩
    refine ⟨_, rfl, ?_⟩
    have hp3 : upd H2 q (.lst []) p = some (.lst (ps.map V.str)) := Same_new nq _ _ hp2
    have s03 := Same_new2 (o := .lst []) s02 nq
    refine ⟨_, rfl, 1, rfl, p, _, rfl, SqL.of hp3, fun z nz => ?_⟩
    have ec : cutV (ps.map V.str) (some 1) none = r.map V.str := by
      rw [show cutV (ps.map V.str) (some 1) none = (ps.map V.str).drop 1 from cut_from (t := 1) (by rw [hsr]; simp), hsr]
      rfl
    rw [ec]
    have hq4 : upd (upd H2 q (.lst [])) z (.lst (r.map V.str)) q = some (.lst []) := Same_new nz _ _ upd_same
    have s04 := Same_new2 (o := .lst (r.map V.str)) s03 nz
    have hn12 := readCount_bd hn
    refine ⟨z, _, 2, rfl, rfl, by decide, by decide, SqL.of upd_same, for_enumS (K := K) (a := z) (k0 := 2) (xs := r.map V.str) (fun i σ H' => ∃ (us : List V) (es : List Ent) (y5 y6 y7 : Option V), σ = [some (.str t), some (.ref p), some (.int n), some (.ref q), some (.int (leastOf es)), y5, y6, y7] ∧
        Same H H' ∧ Same (upd (upd H2 q (.lst [])) z (.lst (r.map V.str))) (upd H' q (.lst [])) ∧ H' z = some (.lst (r.map V.str)) ∧ H' q = some (.lst us) ∧ EntsV H' us es ∧ Valid n es ∧ readRest n (r.drop i) (2 + (i : Int)) es = readRest n r 2 [])
        ⟨[], [], none, none, none, rfl, s04, ?_, upd_same, hq4, .nil, valid_nil hn12.1 hn12.2, rfl⟩ (fun i σ H' ⟨_, _, _, _, _, _, _, _, hz', _⟩ => SqL.of hz') ?_ ?_⟩
    · intro b o hb
      by_cases e : b = q
      · subst e; rw [upd_same]; rw [hq4] at hb; exact hb
      · rw [upd_ne e]; exact hb
    · rintro i x T σ H' hx ⟨us, es, y5, y6, y7, rfl, s5, sq5, hz5, hq5, hus, hval, hrest⟩ nT
      rw [List.getElem?_map] at hx
      obtain ⟨y, hy, rfl⟩ : ∃ y, r[i]? = some y ∧ x = V.str y := by
        cases e : r[i]? with
        | none => rw [e] at hx; cases hx
        | some z => rw [e] at hx; exact ⟨z, rfl, (Option.some.inj hx).symm⟩
      have hil : i < r.length := (List.getElem?_eq_some_iff.mp hy).1
      have my : y ∈ ps := by rw [hsr]; exact List.mem_cons_of_mem _ (List.mem_of_getElem? hy)
      have hdrop : r.drop i = y :: r.drop (i + 1) := by rw [List.drop_eq_getElem_cons hil, (List.getElem?_eq_some_iff.mp hy).2]
      rw [hdrop] at hrest
      have lus := hus.len
      have sT := Same_new (o := .tup [.int (2 + (i : Int)), .str y]) nT
      have hq6 := sT _ _ hq5
      have hz6 := sT _ _ hz5
      refine ⟨T, _, rfl, SqT.of upd_same, rfl, _, _, rfl, _, _, rfl, rfl, ?_⟩
      refine ⟨_, rfl, q, _, rfl, .inl (SqL.of hq6), rfl, _, rfl, ?_⟩
      refine ite2 (fun c => ?_) (fun c => ?_)
      · have c12 : es.length = 12 := by
          have c' : V.int (us.length : Int) = V.int 12 := of_decide_eq_true c
          have := V.int.inj c'
          omega
        exact ⟨_, rfl, RaI.made (((kE (2 + (i : Int), 1) (readS_2 hs hn (by rw [← hrest]; exact readRest_1 c12))).mono s5).mono sT)⟩
      have c12 : es.length ≠ 12 := fun h => c (decide_eq_true (by rw [lus, h]; rfl))
      refine ⟨_, rfl, _, rfl, y, rfl, by have := hshort y my; omega, fun H7 q7 s7 nq7 hq7 => ?_⟩
      refine ⟨_, rfl, _, rfl, 2 + (i : Int), leastOf es, n, q7, wordsS y, rfl, hq7, fun w hw => ?_, fun e he H8 t8 s8 nt8 ht8 => ?_, fun r' hr => (((kE r' (readS_2 hs hn (by rw [← hrest]; exact readRest_2 c12 hr))).mono s5).mono sT).mono s7⟩
      · have := words_short (t := y) w hw
        have := hshort y my
        omega
      have s68 := (sT.trans s7).trans s8
      have hq8 := s8 _ _ (s7 _ _ hq6)
      have bd := readEntry_bd he
      have l12 := hval.len
      refine ⟨_, rfl, .inl ⟨rfl, _, SqL.of hq8⟩, _, rfl, q, _, _, rfl, rfl, hq8, by rw [lus]; exact small1000 (by omega), ?_⟩
      have ht9 : upd H8 q (.lst (us ++ [.ref t8])) t8 = some (.tup [.int e.1, .int e.2.1, .int e.2.2]) := by
        rw [upd_ne (ne_of ht8 hq8 (by intro z; cases z))]; exact ht8
      have nqH : H q = none := by
        cases e : H q with
        | none => rfl
        | some o => have := s02 _ _ e; rw [nq] at this; cases this
      refine ⟨_, rfl, t8, _, 0, _, rfl, rfl, SqT.of ht9, atI_nat (j := 0) rfl, ?_⟩
      refine ⟨us ++ [.ref t8], es ++ [e], _, _, _, by rw [leastOf_snoc]; rfl, Same_mut (s5.trans s68) nqH, ?_, ?_, upd_same, ?_, hval.snoc (by omega) bd.1 bd.2.1 bd.2.2.1 bd.2.2.2.1 bd.2.2.2.2, ?_⟩
      · intro b o hb
        by_cases eb : b = q
        · subst eb; rw [upd_same]; rw [hq4] at hb; exact hb
        · have h1 := sq5 _ _ hb
          rw [upd_ne eb] at h1
          rw [upd_ne eb, upd_ne eb]
          exact s68 _ _ h1
      · have zq : z ≠ q := fun e => by
          rw [e, upd_same] at nz
          cases nz
        rw [upd_ne zq]
        exact s68 _ _ hz5
      · refine pr_app (Paired.mapP hus fun v w' ⟨t2, ev, et2⟩ => ⟨t2, ev, ?_⟩) (.cons ⟨t8, rfl, ht9⟩ .nil)
        have := s68 _ _ et2
        rw [upd_ne (ne_of this hq8 (by intro z; cases z))]; exact this
      · rw [← hrest, readRest_3 c12 he, show (2 + ((i + 1 : Nat) : Int)) = 2 + (i : Int) + 1 by omega]
    · rintro σ H' ⟨us, es, y5, y6, y7, rfl, s5, sq5, hz5, hq5, hus, hval, hrest⟩
      rw [List.length_map, List.drop_length] at hrest
      have hres : readS t = .ok (n, es) := readS_1 hs hn (by rw [← hrest]; rfl)
      refine ⟨_, rfl, _, rfl, q, _, rfl, .inl ⟨SqL.of hq5, fun r2 nr2 => ?_⟩⟩
      have sr := Same_new (o := .tup us) nr2
      exact fun x dx nx nd' ne => sum_mk ⟨r2, _, rfl, upd_same, hus.mono sr⟩ hval nx nd' ne fun H9 s9 hs9 => kQ n es hres H9 x ((s5.trans sr).trans s9) hs9
-- @prem read_summary read_summary X : D__read_count D__words m_GREATEST_VALUE m_enumerate m_len m_MOST_ENTRIES X_InvalidText D__read_entry T DS m_tuple
end
end SR

set_option Elab.async false
set_option linter.all false
set_option maxRecDepth 100000
set_option maxHeartbeats 4000000
/-! A keeper sees a number that it can see. -/
namespace SR
open PySem PySem.Spec PyProof.Rows L2
section
variable {K : PySem.W.Frag} {CK : Addr}
theorem see_okB {B F L : Addr} {H : Hp} {Q : VK} {E : XK} {v : V} {z p : Int} {l : Addr} {st : List (List Ent)} {es : List Ent} (hk : KeepV CK H v p l (st ++ [es])) (p2 : 2 ≤ p) (p20 : p ≤ 20) (h60 : es.length ≤ 38) (h200 : st.length < 200) (z1 : -10 ^ 30 ≤ z) (z2 : z ≤ 10 ^ 30)
    (k : ∀ H' r, But l H H' → r.length ≤ es.length + 1 → r ≠ [] → KeepV CK H' v p l (st ++ [es] ++ [r]) → Q (.int r.length) H')
    (wl : ∀ n : Int, (ewL n es z).length = es.length + 1) (tp : ∀ {s : Int} {r : List Ent}, Thin s (ewL st.length es z) r → r ≠ []) : spKSee K CK B F L [v, .int z] H Q E := by
  refine ⟨v, .int z, _, p, l, st, es, rfl, .int z, hk, p2, p20, by omega, by omega, fun h => ?_, fun z' e _ _ => ?_⟩
  · have : (decide (-10 ^ 30 ≤ z) && decide (z ≤ 10 ^ 30)) = false := h
    rw [decide_eq_true z1, decide_eq_true z2] at this
    cases this
  · cases e
    refine ⟨by rw [wl]; omega, fun r g => ?_⟩
    have lr : r.length ≤ es.length + 1 := by
      have := g.len
      rw [wl] at this
      exact this
    exact ⟨fun h => absurd h (by omega), fun _ h => absurd h (by omega), fun _ _ H' b h => k H' r b lr (tp g) h⟩
theorem see_go {B F L : Addr} {σ : L2.St} {H : Hp} {Q : VK} {E : XK} {v : V} {z : Int} (h : spKSee K CK B F L [v, .int z] H Q E) : tCons (tC (.int z)) tNil σ H fun vs H2 => spKSee K CK B F L (v :: (vs ++ [])) H2 Q E := h
theorem see_goV {B F L : Addr} {σ : L2.St} {H : Hp} {Q : VK} {E : XK} {v : V} {z : Int} {i : Nat} (hs : σ[i]? = some (some (.int z))) (h : spKSee K CK B F L [v, .int z] H Q E) : tCons (tVar i) tNil σ H fun vs H2 => spKSee K CK B F L (v :: (vs ++ [])) H2 Q E := ⟨_, hs, h⟩
end
theorem But.trans {l : Addr} {H H1 H2 : Hp} (a : But l H H1) (b : But l H1 H2) : But l H H2 := fun c o e n => b c o (a c o e n) n
theorem But.of {l : Addr} {H H1 : Hp} (s : Same H H1) : But l H H1 := fun c o e _ => s c o e
theorem ewL_len1 (n : Int) (ts : List Ent) (z : Int) : (ewL n ts z).length = ts.length + 1 := by
  have key : ∀ l : List Ent, (l.filter fun e => decide (e.1 ≤ z)).length + (l.filter fun e => decide (z < e.1)).length = l.length := by
    intro l
    induction l with
    | nil => rfl
    | cons e t ih =>
      rw [List.filter_cons, List.filter_cons]
      by_cases c : e.1 ≤ z
      · rw [if_pos (decide_eq_true c), if_neg (show ¬ decide (z < e.1) = true from fun h => by have := of_decide_eq_true h; omega), List.length_cons, List.length_cons]
        omega
      · rw [if_neg (show ¬ decide (e.1 ≤ z) = true from fun h => c (of_decide_eq_true h)), if_pos (decide_eq_true (by omega)), List.length_cons, List.length_cons]
        omega
  have := key ts
  unfold ewL
  rw [List.length_append, List.length_append, List.length_map, List.length_singleton]
  omega
end SR

set_option Elab.async false
set_option linter.all false
set_option maxRecDepth 100000
set_option maxHeartbeats 4000000
/-! Asked again: what the answers are, exactly. -/
namespace SR
open PySem PySem.Spec PyProof.Rows L2
open LamX (Tabs ExtN TabB CodeO)
open CB (nats)
/-! ### values without lists -/
mutual
inductive DD (H : Hp) : V → PyData → Prop
  | non : DD H .non .none
  | bl (b : Bool) : DD H (.bl b) (.bool b)
  | int (i : Int) : DD H (.int i) (.int i)
  | str (x : Str) : DD H (.str x) (.str x)
  | tup {a : Addr} {xs : List V} {ds : List PyData} : H a = some (.tup xs) → DDs H xs ds → DD H (.ref a) (.tuple ds)
inductive DDs (H : Hp) : List V → List PyData → Prop
  | nil : DDs H [] []
  | cons {v : V} {vs : List V} {d : PyData} {ds : List PyData} : DD H v d → DDs H vs ds → DDs H (v :: vs) (d :: ds)
end
def KTup (H H' : Hp) : Prop := ∀ b xs, H b = some (.tup xs) → H' b = some (.tup xs)
theorem KTup.of {H H' : Hp} (s : Same H H') : KTup H H' := fun b _ e => s _ _ e
theorem KTup.ofN {H H' : Hp} (s : ExtN H H') : KTup H H' := fun b _ e => s _ _ e (fun _ z => nomatch z)
theorem KTup.ofB {H H' : Hp} {l : Addr} {us : List V} (s : But l H H') (h : H l = some (.lst us)) : KTup H H' := fun b _ e => s.keep h e (fun _ z => nomatch z)
mutual
theorem DD.kt {H H' : Hp} (s : KTup H H') : ∀ {v : V} {d : PyData}, DD H v d → DD H' v d
  | _, _, .non => .non
  | _, _, .bl b => .bl b
  | _, _, .int i => .int i
  | _, _, .str x => .str x
  | _, _, .tup h a => .tup (s _ _ h) (DDs.kt s a)
theorem DDs.kt {H H' : Hp} (s : KTup H H') : ∀ {vs : List V} {ds : List PyData}, DDs H vs ds → DDs H' vs ds
  | _, _, .nil => .nil
  | _, _, .cons h t => .cons (DD.kt s h) (DDs.kt s t)
end
mutual
theorem DD.dp {K : PySem.W.Frag} {H : Hp} : ∀ {v : V} {d : PyData}, DD H v d → Dp K H v d
  | _, _, .non => .non
  | _, _, .bl b => .bl b
  | _, _, .int i => .int i
  | _, _, .str x => .str x
  | _, _, .tup h a => .tup (SqT.of h) (DDs.dp a)
theorem DDs.dp {K : PySem.W.Frag} {H : Hp} : ∀ {vs : List V} {ds : List PyData}, DDs H vs ds → DpAll K H vs ds
  | _, _, .nil => .nil
  | _, _, .cons h t => .cons (DD.dp h) (DDs.dp t)
end
mutual
theorem DD.self {H : Hp} : ∀ {v : V} {d : PyData}, DD H v d → PyData.eqv d d = true
  | _, _, .non => rfl
  | _, _, .bl b => by cases b <;> rfl
  | _, _, .int i => by rw [eqv_int, decide_eq_true rfl]
  | _, _, .str x => by rw [eqv_str, decide_eq_true rfl]
  | _, _, .tup _ a => DDs.self a
theorem DDs.self {H : Hp} : ∀ {vs : List V} {ds : List PyData}, DDs H vs ds → PyData.eqvAll ds ds = true
  | _, _, .nil => rfl
  | _, _, .cons (d := d) (ds := ds) h t => by
    show (PyData.eqv d d && PyData.eqvAll ds ds) = true
    rw [DD.self h, DDs.self t]
    rfl
end
theorem DDs.app {H : Hp} : ∀ {vs ws : List V} {ds es : List PyData}, DDs H vs ds → DDs H ws es → DDs H (vs ++ ws) (ds ++ es)
  | _, _, _, _, .nil, h => h
  | _, _, _, _, .cons a t, h => .cons a (DDs.app t h)
theorem EntV.dd {H : Hp} {v : V} {e : Ent} (h : EntV H v e) : DD H v (entD e) := by
  obtain ⟨t, rfl, ht⟩ := h
  exact .tup ht (.cons (.int _) (.cons (.int _) (.cons (.int _) .nil)))
theorem EntsV.dds {H : Hp} : ∀ {vs : List V} {es : List Ent}, EntsV H vs es → DDs H vs (es.map entD)
  | _, _, .nil => .nil
  | _, _, .cons r t => .cons r.dd (EntsV.dds t)
theorem TupV.dd {H : Hp} {v : V} {es : List Ent} (h : TupV H v es) : DD H v (.tuple (es.map entD)) := by
  obtain ⟨a, vs, rfl, ha, he⟩ := h
  exact .tup ha he.dds
theorem dds_ints {H : Hp} : ∀ w : List Int, DDs H (w.map V.int) (w.map PyData.int)
  | [] => .nil
  | i :: w => .cons (.int i) (dds_ints w)
def fewD : Option (List Nat) → PyData
  | none => .none
  | some idx => .tuple (idx.map fun (j : Nat) => PyData.int (j : Int))
theorem dds_nats {H : Hp} : ∀ w : List Nat, DDs H (nats w) (w.map fun (j : Nat) => PyData.int (j : Int))
  | [] => .nil
  | i :: w => .cons (.int i) (dds_nats w)
theorem FewV.dd {H : Hp} {x : V} : ∀ {o : Option (List Nat)}, FewV H x o → DD H x (fewD o)
  | none, h => by
    obtain rfl := (show x = V.non from h)
    exact .non
  | some idx, h => by
    obtain ⟨t, rfl, ht⟩ := (show ∃ t, x = .ref t ∧ H t = some (.tup (nats idx)) from h)
    exact .tup ht (dds_nats idx)
def oiD : V → PyData
  | .int i => .int i
  | _ => .none
theorem OI.dd {H : Hp} {x : V} (h : OI x) : DD H x (oiD x) := by
  rcases h with rfl | ⟨i, rfl⟩
  · exact .non
  · exact .int i
theorem OI.lay {x : V} (h : OI x) : (oiD x).canLay0 = true ∧ (oiD x).depth ≤ 50 := by
  rcases h with rfl | ⟨i, rfl⟩
  · exact ⟨rfl, Nat.zero_le _⟩
  · exact ⟨rfl, Nat.zero_le _⟩
theorem OptMax.oi {l : List Int} {d x : V} (h : OptMax l d x) (hd : OI d) : OI x := by
  rcases h with ⟨_, rfl⟩ | ⟨m, rfl, _⟩
  · exact hd
  · exact .inr ⟨m, rfl⟩
theorem OptMin.oi {l : List Int} {d x : V} (h : OptMin l d x) (hd : OI d) : OI x := by
  rcases h with ⟨_, rfl⟩ | ⟨m, rfl, _⟩
  · exact hd
  · exact .inr ⟨m, rfl⟩
theorem OptMax.uniq {l : List Int} {d x y : V} (h : OptMax l d x) (g : OptMax l d y) : x = y := by
  rcases h with ⟨e, rfl⟩ | ⟨m, rfl, a, b⟩ <;> rcases g with ⟨e', rfl⟩ | ⟨m', rfl, a', b'⟩
  · rfl
  · rw [e] at a'; cases a'
  · rw [e'] at a; cases a
  · rw [Int.le_antisymm (b' _ a) (b _ a')]
theorem OptMin.uniq {l : List Int} {d x y : V} (h : OptMin l d x) (g : OptMin l d y) : x = y := by
  rcases h with ⟨e, rfl⟩ | ⟨m, rfl, a, b⟩ <;> rcases g with ⟨e', rfl⟩ | ⟨m', rfl, a', b'⟩
  · rfl
  · rw [e] at a'; cases a'
  · rw [e'] at a; cases a
  · rw [Int.le_antisymm (b _ a') (b' _ a)]
/-! ### the answers -/
def ExtD (n : Int) (es : List Ent) (ds : List PyData) : Prop := (es = [] ∧ ds = []) ∨ (es ≠ [] ∧ ∃ (m : Int) (j : Nat) (g R : Int), IsMin (ers (tightL n es) 1) m ∧ FirstAt (ers (tightL n es) 1) m j ∧ IsWorst n es g R ∧
  ds = [.int (j : Int), .int m, .tuple ([g, R].map PyData.int), fewD ((canonT es.length es.length).find? fun idx => keepsW (tightL n es) 3 n idx 0), .tuple ((es.take 0 ++ es.drop (0 + 1)).map entD)])
def AnsD (n : Int) (es ke : List Ent) (m : Int) (ds : List PyData) : Prop := ∃ (x1 y1 x2 y2 x3 y3 : V) (R : List Int) (mk : Int) (jk : Nat) (ek : Ent) (ext : List PyData),
  OptMax (pick (fun e => decide (e.2.2 ≤ 1)) (fun e => e.1) (tightL n es)) .non x1 ∧ OptMin (pick (fun e => decide (1 ≤ e.2.1)) (fun e => e.1) (tightL n es)) .non y1 ∧
  OptMax (pick (fun e => decide (e.1 < 3 + 0)) (fun e => e.2.1) (tightL n es)) (.int 0) x2 ∧ OptMin (pick (fun e => decide (3 + 0 ≤ e.1)) (fun e => e.2.2 - 1) (tightL n es)) (.int n) y2 ∧
  OptMax (pick (fun e => decide (e.1 < 3 + 1)) (fun e => e.2.1) (tightL n es)) (.int 0) x3 ∧ OptMin (pick (fun e => decide (3 + 1 ≤ e.1)) (fun e => e.2.2 - 1) (tightL n es)) (.int n) y3 ∧
  Row0 n es R ∧ IsMin (ers ke 1) mk ∧ FirstAt (ers ke 1) mk jk ∧ ke[jk]? = some ek ∧ ExtD n es ext ∧
  ds = [PyData.tuple ((tightL n es).map entD), .tuple [oiD x1, oiD y1], .tuple [oiD x2, oiD y2], .tuple [oiD x3, oiD y3], .tuple (R.map PyData.int)] ++ [.bool true, .str (textS n es), .tuple ((putE n es 2).map entD)] ++
    [.tuple ((joinE n es n es).map entD), .tuple ((keptE [1, 3] [2]).map entD), .tuple (ke.map entD), .int m] ++ [.int (ke.length : Int), .int ek.1, .tuple (es.map entD)] ++ ext
theorem ExtD.uniq {n : Int} {es : List Ent} {d d' : List PyData} (h : ExtD n es d) (h' : ExtD n es d') : d = d' := by
  rcases h with ⟨_, rfl⟩ | ⟨c, m, j, g, R, h1, h2, h3, rfl⟩ <;> rcases h' with ⟨_, rfl⟩ | ⟨c', m', j', g', R', h1', h2', h3', rfl⟩
  · rfl
  · contradiction
  · contradiction
  · obtain rfl := h1.uniq h1'
    obtain rfl := h2.uniq h2'
    obtain ⟨rfl, rfl⟩ := h3.uniq h3'
    rfl
theorem AnsD.uniq {n m : Int} {es ke : List Ent} {d d' : List PyData} (h : AnsD n es ke m d) (h' : AnsD n es ke m d') : d = d' := by
  obtain ⟨x1, y1, x2, y2, x3, y3, R, mk, jk, ek, ext, a1, a2, a3, a4, a5, a6, a7, a8, a9, a10, a11, rfl⟩ := h
  obtain ⟨x1', y1', x2', y2', x3', y3', R', mk', jk', ek', ext', b1, b2, b3, b4, b5, b6, b7, b8, b9, b10, b11, rfl⟩ := h'
  obtain rfl := a1.uniq b1
  obtain rfl := a2.uniq b2
  obtain rfl := a3.uniq b3
  obtain rfl := a4.uniq b4
  obtain rfl := a5.uniq b5
  obtain rfl := a6.uniq b6
  obtain rfl := a7.uniq b7
  obtain rfl := a8.uniq b8
  obtain rfl := a9.uniq b9
  obtain rfl := Option.some.inj (a10.symm.trans b10)
  obtain rfl := a11.uniq b11
  rfl
def Lay (d : PyData) : Prop := d.canLay0 = true ∧ d.depth ≤ 60
theorem lay_ent (es : List Ent) : Lay (.tuple (es.map entD)) := ⟨(ents_lay es).1, Nat.le_trans (ents_lay es).2 (by decide)⟩
theorem lay_tup {ds : List PyData} (h : ∀ d ∈ ds, d.canLay0 = true ∧ d.depth ≤ 50) : Lay (.tuple ds) := ⟨(shaped_tup h).1, Nat.le_trans (shaped_tup h).2 (by decide)⟩
theorem lay_int (w : List Int) : Lay (.tuple (w.map PyData.int)) := lay_tup fun d hd => by
  obtain ⟨i, _, rfl⟩ := List.mem_map.mp hd
  exact ⟨rfl, Nat.zero_le _⟩
theorem lay_two {x y : V} (hx : OI x) (hy : OI y) : Lay (.tuple [oiD x, oiD y]) := lay_tup fun d hd => by
  rcases List.mem_cons.mp hd with rfl | hd
  · exact hx.lay
  · rw [List.mem_singleton.mp hd]; exact hy.lay
theorem lay_few : ∀ o : Option (List Nat), Lay (fewD o)
  | none => ⟨rfl, Nat.zero_le _⟩
  | some w => lay_tup fun d hd => by
    obtain ⟨i, _, rfl⟩ := List.mem_map.mp hd
    exact ⟨rfl, Nat.zero_le _⟩
theorem rows_fine {n : Int} {es : List Ent} (hv : Valid n es) : PyData.strOk (textS n es) = true := joined_ok fun y hy => by
  rcases List.mem_cons.mp hy with rfl | hy
  · exact (fine_head hv.n1 hv.n2).ok
  · exact (fine_line hv y hy).ok
theorem ExtD.lay {n : Int} {es : List Ent} {ds : List PyData} (h : ExtD n es ds) : ∀ d ∈ ds, Lay d := by
  rcases h with ⟨_, rfl⟩ | ⟨_, m, j, g, R, _, _, _, rfl⟩
  · exact fun d hd => nomatch hd
  · intro d hd
    simp only [List.mem_cons, List.not_mem_nil, or_false] at hd
    rcases hd with rfl | rfl | rfl | rfl | rfl
    · exact ⟨rfl, Nat.zero_le _⟩
    · exact ⟨rfl, Nat.zero_le _⟩
    · exact lay_int [g, R]
    · exact lay_few _
    · exact lay_ent _
theorem AnsD.lay {n m : Int} {es ke : List Ent} {ds : List PyData} (hv : Valid n es) (h : AnsD n es ke m ds) : ∀ d ∈ ds, Lay d := by
  obtain ⟨x1, y1, x2, y2, x3, y3, R, mk, jk, ek, ext, a1, a2, a3, a4, a5, a6, a7, a8, a9, a10, a11, rfl⟩ := h
  have o0 : OI V.non := .inl rfl
  have oi : ∀ i : Int, OI (V.int i) := fun i => .inr ⟨i, rfl⟩
  intro d hd
  rcases List.mem_append.mp hd with hd | hd
  · simp only [List.cons_append, List.nil_append, List.mem_cons, List.not_mem_nil, or_false] at hd
    rcases hd with rfl | rfl | rfl | rfl | rfl | rfl | rfl | rfl | rfl | rfl | rfl | rfl | rfl | rfl | rfl
    · exact lay_ent _
    · exact lay_two (a1.oi o0) (a2.oi o0)
    · exact lay_two (a3.oi (oi _)) (a4.oi (oi _))
    · exact lay_two (a5.oi (oi _)) (a6.oi (oi _))
    · exact lay_int _
    · exact ⟨rfl, Nat.zero_le _⟩
    · exact ⟨rows_fine hv, Nat.zero_le _⟩
    · exact lay_ent _
    · exact lay_ent _
    · exact lay_ent _
    · exact lay_ent _
    · exact ⟨rfl, Nat.zero_le _⟩
    · exact ⟨rfl, Nat.zero_le _⟩
    · exact ⟨rfl, Nat.zero_le _⟩
    · exact lay_ent _
  · exact a11.lay d hd
/-! ### things that stay -/
theorem KeepV.ext {CK : Addr} {H H' : Hp} {v : V} {p : Int} {l : Addr} {st : List (List Ent)} (s : ExtN H H') (h : KeepV CK H v p l st) : KeepV CK H' v p l st := by
  obtain ⟨q, dx, us, e, h1, h2, h3⟩ := h
  exact ⟨q, dx, us, e, s _ _ h1 (fun _ z => nomatch z), s _ _ h2 (fun _ z => nomatch z), Paired.mapP h3 fun _ _ x => TupV.ext s x⟩
theorem KeepV.but {CK : Addr} {H H' : Hp} {v : V} {p : Int} {l l2 : Addr} {us2 : List V} {st : List (List Ent)} (s : But l2 H H') (h2 : H l2 = some (.lst us2)) (ne : l ≠ l2) (h : KeepV CK H v p l st) : KeepV CK H' v p l st := by
  obtain ⟨q, dx, us, e, g1, g2, g3⟩ := h
  exact ⟨q, dx, us, e, s.keep h2 g1 (fun _ z => nomatch z), s _ _ g2 ne, Paired.mapP g3 fun _ _ x => s.tup h2 x⟩
theorem SumV.but {C : Addr} {H H' : Hp} {v : V} {n : Int} {l : Addr} {us : List V} {es : List Ent} (s : But l H H') (hl : H l = some (.lst us)) (h : SumV C H v n es) : SumV C H' v n es := by
  obtain ⟨p, dx, u, e, g1, g2⟩ := h
  exact ⟨p, dx, u, e, s.keep hl g1 (fun _ z => nomatch z), s.tup hl g2⟩
theorem tabs_but {T : List (Addr × Str)} {H H' : Hp} {l : Addr} {us : List V} (t : Tabs T H) (s : But l H H') (hl : H l = some (.lst us)) : Tabs T H' := fun q hq => by
  obtain ⟨ps, h1, h2, h3⟩ := t q hq
  refine ⟨ps, s.keep hl h1 (fun _ z => nomatch z), h2, fun pos cv hc => ?_⟩
  obtain ⟨c', e1, e2⟩ := h3 pos cv hc
  exact ⟨c', e1, s.keep hl e2 (fun _ z => by unfold CodeO at z; cases z)⟩
theorem KeepV.lst {CK : Addr} {H : Hp} {v : V} {p : Int} {l : Addr} {st : List (List Ent)} (h : KeepV CK H v p l st) : ∃ us, H l = some (.lst us) := let ⟨_, _, us, _, _, h2, _⟩ := h; ⟨us, h2⟩
theorem Thin.pos {s : Int} {es r : List Ent} (h : Thin s es r) : es ≠ [] → r ≠ [] := by
  induction h with
  | done => exact id
  | step i i1 i2 _ _ _ ih =>
    intro _
    refine ih fun z => ?_
    have := congrArg List.length z
    rw [List.length_eraseIdx, if_pos (by omega)] at this
    simp only [List.length_nil] at this
    omega
/-- found so far -/
structure Fnd (PJ : Addr) (H H' : Hp) (L : Addr) (xs : List V) (ds : List PyData) : Prop where
  e : ExtN H H'
  t : Tabs (joinT PJ) H'
  l : H' L = some (.lst xs)
  d : DDs H' xs ds
theorem Fnd.step {PJ L L2 : Addr} {H H1 H2 : Hp} {xs ys : List V} {ds es : List PyData} (F : Fnd PJ H H1 L xs ds) (x : ExtN H1 H2) (t : Tabs (joinT PJ) H2) (l : H2 L2 = some (.lst (xs ++ ys))) (d : DDs H2 ys es) : Fnd PJ H H2 L2 (xs ++ ys) (ds ++ es) := ⟨F.e.trans x, t, l, (F.d.kt (.ofN x)).app d⟩
/-- what the answers are asked of -/
structure AskK (C CK PJ : Addr) (H : Hp) (v w : V) (n : Int) (es ke : List Ent) (p : Int) (l : Addr) (st : List (List Ent)) : Prop where
  s : SumV C H v n es
  k : KeepV CK H w p l (st ++ [ke])
  t : Tabs (joinT PJ) H
theorem AskK.ext {C CK PJ : Addr} {H H' : Hp} {v w : V} {n : Int} {es ke : List Ent} {p : Int} {l : Addr} {st : List (List Ent)} (h : AskK C CK PJ H v w n es ke p l st) (e : ExtN H H') (t : Tabs (joinT PJ) H') : AskK C CK PJ H' v w n es ke p l st := ⟨SumV.ext e h.s, h.k.ext e, t⟩
end SR

set_option Elab.async false
set_option linter.all false
set_option maxRecDepth 100000
set_option maxHeartbeats 4000000
/-! The answers. -/
namespace SR
open PySem PySem.Spec PyProof.Rows L2
open LamX (Tabs ExtN TabB CodeO)

section
variable {P : Program} {w : World} {K : PySem.W.Frag} {mg : Str → Option Value} {base : Heap} {C CK C_NoRow C_NoEntry C_Full C_BadCount C_BadIndex C_BadParts C_BadValue C_BadRank C_TooLong C_InvalidText fI PJ : Addr}
def spAnsK (C CK PJ : Addr) : Sp := fun vs H Q _ => ∃ (v u : V) (n : Int) (es ke : List Ent) (p : Int) (l : Addr) (st : List (List Ent)), vs = [v, u] ∧ AskK C CK PJ H v u n es ke p l st ∧ Valid n es ∧ Fits n es ∧ n ≤ 8 ∧ es.length ≤ 6 ∧ 1 ≤ st.length ∧ ke ≠ [] ∧ ke.length ≤ 60 ∧
  ∀ H' q xs ds, Fnd PJ H H' q xs ds → xs.length ≤ 20 → AnsD n es ke st.length ds → Q (.ref q) H'
theorem sc__law_answers : FnScope ["_law_made", "_law_keeper", "_law_found"] ["_law_made", "_law_keeper"] (defScope s__law_answers) := ⟨rfl, rfl, rfl, by decide +kernel, rfl, by decide +kernel, by decide +kernel⟩
set_option maxHeartbeats 64000000 in
theorem ok__law_answers {f : Addr} {fd : FuncData} (F : Fun K "_law_answers" "_law_answers" s__law_answers f fd)  (D_row_for : DnX P w K mg base "row_for" ["summary"] 11 (spRowForX C C_NoRow)) (D_up_to : Dn P w K mg base "up_to" ["summary", "value"] 10 (spBelow C 1)) (D_below : Dn P w K mg base "below" ["summary", "value"] 10 (spBelow C 0)) (D_values_at : Dn P w K mg base "values_at" ["summary", "rank"] 10 (spValues C)) (D_tightened : Dn P w K mg base "tightened" ["summary"] 8 (spTight C)) (T : SumT K mg C) (DE : Pr P w K mg base C "entries" 1 (getSp C "_entries")) (D_put_in : DnX P w K mg base "put_in" ["summary", "value"] 10 (spPut C C_NoRow C_Full)) (D_write_summary : Dn P w K mg base "write_summary" ["summary"] 3 (spWriteT C)) (D_leaves : Dn P w K mg base "leaves" ["row", "summary"] 4 (spLeavesP C)) (TK : KeepT K mg CK) (DKM : Pr P w K mg base CK "many" 2 (spKMany CK)) (DKE : Pr P w K mg base CK "entries" 2 (spKEnt CK)) (D_kept_from : Dn P w K mg base "kept_from" ["row", "ranks"] 8 (spKept C)) (D_joined : DnX P w K mg base "joined" ["one", "other"] 11 (spJoin C C_NoRow C_Full C_BadCount PJ)) (D_read_summary : DnX P w K mg base "read_summary" ["text"] 8 (spReadT C C_InvalidText)) (DK_answer : MtX P w K mg base CK "answer" ["self", "rank"] 5 (spKAns K CK C_BadRank)) (m_len : mg "len" = none) (DLK : DLenK P w K mg base CK) (DL : DLen P w K mg base C) (D_without : DnX P w K mg base "without" ["summary", "index"] 8 (spWithout C C_BadIndex)) (D_fewest : DnX P w K mg base "fewest" ["summary", "error"] 10 (spFew C C_NoRow)) (D_worst : DnX P w K mg base "worst" ["summary"] 11 (spWorst C C_NoRow C_NoEntry)) (D_error_at : Dn P w K mg base "error_at" ["summary", "rank"] 11 (spErrAt C)) (D_answer : Dn P w K mg base "answer" ["summary", "rank"] 11 (spAns C))  : FnOk P w K mg base CX0 12 f fd ["_law_made", "_law_keeper"] (spAnsK C CK PJ) := by
  obtain ⟨fLK, fdLK, GLK, hsLK, hfLK, bLK⟩ := DLK
  obtain ⟨fL, fdL, GL, hsL, hfL, bL⟩ := DL
  refine F.ok sc__law_answers (fun vs H Q E h => ?_) (fun cdv A outer s H vs Q E hr h => ?_)
  · obtain ⟨v, u, n, es, ke, p, l, st, rfl, _⟩ := h
    rfl
  · obtain ⟨v, u, n, es, ke, p, l, st, rfl, hA, hv, hF, n8, h6, h1, hne, h60, k⟩ := h
    have nd := sc__law_answers.nd
    have hr2 : Room 2 _ := hr.mono (by decide)
    have hr3 : Room 3 _ := hr.mono (by decide)
    have hr4 : Room 4 _ := hr.mono (by decide)
    have hr5 : Room 5 _ := hr.mono (by decide)
    have hr8 : Room 8 _ := hr.mono (by decide)
    have hr10 : Room 10 _ := hr.mono (by decide)
    have hr11 : Room 11 _ := hr.mono (by decide)
    refine ⟨_, pss_cons (ps_set (i := 2) nd rfl (Or.inl rfl) (pe_lst (pa_cons (pe_pr DE T.ic.cl hr2 (pe_dn D_tightened hr8 (pa_cons (pv 0) pa_nil))) (pa_cons (pe_dn D_values_at hr10 (pa_cons (pv 0) (pa_cons pe_int pa_nil))) (pa_cons (pe_dn D_below hr10 (pa_cons (pv 0) (pa_cons pe_int pa_nil))) (pa_cons (pe_dn D_up_to hr10 (pa_cons (pv 0) (pa_cons pe_int pa_nil))) (pa_cons (pe_dn0 D_row_for hr11 (pa_cons (pv 0) pa_nil)) pa_nil)))))))
        (pss_cons (ps_set (i := 2) nd rfl (Or.inl rfl) (pe_op op_cat (pv 2) (pe_lst (pa_cons (pe_dn D_leaves hr4 (pa_cons (pe_dn0 D_row_for hr11 (pa_cons (pv 0) pa_nil)) (pa_cons (pv 0) pa_nil))) (pa_cons (pe_dn D_write_summary hr3 (pa_cons (pv 0) pa_nil)) (pa_cons (pe_pr DE T.ic.cl hr2 (pe_dn0 D_put_in hr10 (pa_cons (pv 0) (pa_cons pe_int pa_nil)))) pa_nil))))))
        (pss_cons (ps_set (i := 2) nd rfl (Or.inl rfl) (pe_op op_cat (pv 2) (pe_lst (pa_cons (pe_pr DE T.ic.cl hr2 (pe_dn0 D_joined hr11 (pa_cons (pv 0) (pa_cons (pv 0) pa_nil)))) (pa_cons (pe_pr DE T.ic.cl hr2 (pe_dn D_kept_from hr8 (pa_cons (pe_tup (pa_cons pe_int (pa_cons pe_int pa_nil))) (pa_cons (pe_tup (pa_cons pe_int pa_nil)) pa_nil)))) (pa_cons (pe_pr DKE TK.cl hr3 (pv 1)) (pa_cons (pe_pr DKM TK.cl hr3 (pv 1)) pa_nil)))))))
        (pss_cons (ps_set (i := 2) nd rfl (Or.inl rfl) (pe_op op_cat (pv 2) (pe_lst (pa_cons (pe_callB (call_lenO GLK hr2 hsLK hfLK bLK pass0) (by rfl) m_len PySem.boot_len (pa_cons (pv 1) pa_nil)) (pa_cons (pe_mtX0 DK_answer TK.cl hr5 (pv 1) (pa_cons pe_int pa_nil)) (pa_cons (pe_pr DE T.ic.cl hr2 (pe_dn0 D_read_summary hr8 (pa_cons (pe_dn D_write_summary hr3 (pa_cons (pv 0) pa_nil)) pa_nil))) pa_nil))))))
        (pss_cons (ps_if (pt_cmpR op_gt (pe_callB (call_lenO GL hr2 hsL hfL bL pass0) (by rfl) m_len PySem.boot_len (pa_cons (pv 0) pa_nil)) pe_int (nomark _)) (pss_one (ps_set (i := 2) nd rfl (Or.inl rfl) (pe_op op_cat (pv 2) (pe_lst (pa_cons (pe_dn D_answer hr11 (pa_cons (pv 0) (pa_cons pe_int pa_nil))) (pa_cons (pe_dn D_error_at hr11 (pa_cons (pv 0) (pa_cons pe_int pa_nil))) (pa_cons (pe_dn0 D_worst hr11 (pa_cons (pv 0) pa_nil)) (pa_cons (pe_dn0 D_fewest hr10 (pa_cons (pv 0) (pa_cons pe_int pa_nil))) (pa_cons (pe_pr DE T.ic.cl hr2 (pe_dn0 D_without hr8 (pa_cons (pv 0) (pa_cons pe_int pa_nil)))) pa_nil))))))))) pss_nil)
        (pss_one (ps_ret (pv 2))))))), ?_⟩
    have l1 : 1 ≤ sizeLine := by show 1 ≤ sizeLine; decide
    have l2 : 2 ≤ sizeLine := by show 2 ≤ sizeLine; decide
    have l3 : 3 ≤ sizeLine := by show 3 ≤ sizeLine; decide
    have l4 : 4 ≤ sizeLine := by show 4 ≤ sizeLine; decide
    have l5 : 5 ≤ sizeLine := by show 5 ≤ sizeLine; decide
    have n1 := hv.n1
    have tl := tight_len n es
    have txl := text_len hv
    obtain ⟨qk, dk0, uk0, eu0, _, _, _⟩ := id hA.k
    cases eu0
    obtain ⟨hS, hK, hT⟩ := id hA
    have oN : OI V.non := .inl rfl
    have oI : ∀ i : Int, OI (V.int i) := fun i => .inr ⟨i, rfl⟩
    -- the first five
    refine ⟨_, rfl, v, n, es, rfl, hS, hv, fun h => absurd hF h, fun _ H1 p1 s1 hp1 => ?_⟩
    obtain ⟨p1', dx1, u1, e1, hq1, hu1⟩ := id hp1
    cases e1
    refine ⟨p1, dx1, _, rfl, hq1, p1, dx1, _, _, rfl, hq1, sfl_entries _ _, ?_⟩
    refine ⟨_, rfl, v, n, 1, es, rfl, hS.mono s1, hv, hF, by decide, n1, fun H2 p2 x1 y1 s2 h2 ox1 oy1 => ?_⟩
    have s12 := s1.trans s2
    refine ⟨_, rfl, v, n, 3, es, rfl, hS.mono s12, hv, hF, fun H3 p3 x2 y2 s3 h3 ox2 oy2 => ?_⟩
    have s13 := s12.trans s3
    refine ⟨_, rfl, v, n, 3, es, rfl, hS.mono s13, hv, hF, fun H4 p4 x3 y3 s4 h4 ox3 oy3 => ?_⟩
    have s14 := s13.trans s4
    refine ⟨_, rfl, v, n, es, rfl, hS.mono s14, hv, by omega, fun h => absurd hF h, fun _ H5 p5 R s5 _ h5 _ _ _ hR => ?_⟩
    refine ⟨l5, fun L1 nL1 => ?_⟩
    have t5 := Same_new (o := .lst [u1, .ref p2, .ref p3, .ref p4, .ref p5]) nL1
    obtain ⟨H6, e6⟩ : ∃ H6, H6 = upd H5 L1 (.lst [u1, .ref p2, .ref p3, .ref p4, .ref p5]) := ⟨_, rfl⟩
    have F6 : Fnd PJ H H6 L1 [u1, .ref p2, .ref p3, .ref p4, .ref p5] [PyData.tuple ((tightL n es).map entD), .tuple [oiD x1, oiD y1], .tuple [oiD x2, oiD y2], .tuple [oiD x3, oiD y3], .tuple (R.map PyData.int)] := by
      rw [e6]
      have s45 := s5.trans t5
      have s35 := s4.trans s45
      have s25 := s3.trans s35
      have s15 := s2.trans s25
      have s0 := (s14.trans s5).trans t5
      exact ⟨.of s0, hT.ext s0, upd_same, .cons (hu1.mono s15).dd (.cons (.tup (s25 _ _ h2) (.cons (ox1.oi oN).dd (.cons (oy1.oi oN).dd .nil))) (.cons (.tup (s35 _ _ h3) (.cons (ox2.oi (oI _)).dd (.cons (oy2.oi (oI _)).dd .nil))) (.cons (.tup (s45 _ _ h4) (.cons (ox3.oi (oI _)).dd (.cons (oy3.oi (oI _)).dd .nil))) (.cons (.tup (t5 _ _ h5) (dds_ints R)) .nil))))⟩
    rw [← e6]
    clear e6 t5 nL1 h5 s5 h4 s4 h3 s3 h2 s2 hq1 hu1 hp1 s1 s12 s13 s14
    dsimp only [gName]
    refine st_eq (σ' := [some v, some (.ref qk), some (.ref L1)]) rfl ?_
    -- three more
    have A6 := hA.ext F6.e F6.t
    refine ⟨_, rfl, ?_⟩
    refine ⟨_, rfl, v, n, es, rfl, A6.s, hv, by omega, fun h => absurd hF h, fun _ H7 p7 R7 s7 _ h7 hl7 hup7 hlv7 _ => ?_⟩
    refine ⟨_, rfl, .ref p7, v, R7, n, es, rfl, ⟨p7, rfl, h7⟩, by omega, by omega, A6.s.mono s7, hv, fun H8 b s8 hb => ?_⟩
    obtain rfl : b = true := (hb R7 (.refl _) hup7).mpr ⟨hl7, hlv7⟩
    have s78 := s7.trans s8
    refine ⟨_, rfl, v, n, es, rfl, A6.s.mono s78, hv, fun H9 s9 => ?_⟩
    have s79 := s78.trans s9
    refine ⟨_, rfl, v, n, 2, es, rfl, A6.s.mono s79, hv, by decide, by decide, by omega, fun h => absurd hF h, fun _ h => absurd h (by omega), fun _ _ H10 p10 s10 hp10 => ?_⟩
    obtain ⟨p10', dx10, u10, e10, hq10, hu10⟩ := id hp10
    cases e10
    refine ⟨p10, dx10, _, rfl, hq10, p10, dx10, _, _, rfl, hq10, sfl_entries _ _, l3, fun M nM => ?_⟩
    have tM := Same_new (o := .lst [.bl true, .str (textS n es), u10]) nM
    have s7M := (s79.trans s10).trans tM
    refine ⟨L1, M, _, _, rfl, rfl, s7M _ _ F6.l, upd_same, (by show 5 + 3 ≤ sizeLine; decide), fun L2 nL2 => ?_⟩
    have tL := Same_new (o := .lst ([u1, .ref p2, .ref p3, .ref p4, .ref p5] ++ [.bl true, .str (textS n es), u10])) nL2
    obtain ⟨H11, e11⟩ : ∃ H11, H11 = upd (upd H10 M (.lst [.bl true, .str (textS n es), u10])) L2 (.lst ([u1, .ref p2, .ref p3, .ref p4, .ref p5] ++ [.bl true, .str (textS n es), u10])) := ⟨_, rfl⟩
    have sA := s7M.trans tL
    have hA1 := (hu10.mono tM).mono tL
    rw [← e11] at sA hA1
    have F11 := F6.step (.of sA) (F6.t.ext sA) (by rw [e11]; exact upd_same) (.cons (.bl true) (.cons (.str (textS n es)) (.cons hA1.dd .nil)))
    rw [← e11]
    clear sA hA1
    clear e11 tL nL2 tM nM s7M hq10 hu10 hp10 s10 s79 s9 s78 hb s8 h7 s7 A6 F6
    dsimp only [gName]
    refine st_eq (σ' := [some v, some (.ref qk), some (.ref L2)]) rfl ?_
    -- four more
    have A11 := hA.ext F11.e F11.t
    refine ⟨_, rfl, ?_⟩
    refine ⟨_, rfl, _, rfl, v, v, n, n, es, es, rfl, A11.s, hv, A11.s, hv, A11.t, fun h => absurd ⟨hF, hF⟩ h, fun _ _ h => absurd h (by omega), fun _ _ _ h => absurd h (by omega), fun _ _ _ _ H12 p12 x12 T12 hp12 => ?_⟩
    obtain ⟨p12', dx12, u12, e12, hq12, hu12⟩ := id hp12
    cases e12
    have A12 := A11.ext x12 T12
    refine ⟨p12, dx12, _, rfl, hq12, p12, dx12, _, _, rfl, hq12, sfl_entries _ _, ?_⟩
    refine ⟨l2, fun z1 m1 => ⟨l1, fun z2 m2 => ?_⟩⟩
    have w1 := Same_new (o := .tup ([3, 1].map V.int)) m1
    have w2 := Same_new (o := .tup ([2].map V.int)) m2
    refine ⟨.ref z1, .ref z2, [3, 1], [2], rfl, ⟨z1, rfl, w2 _ _ upd_same⟩, ⟨z2, rfl, upd_same⟩, by decide, by decide, by decide +kernel, ⟨by decide, by decide, by decide⟩, fun H13 p13 s s13 _ hperm hup _ hp13 => ?_⟩
    obtain rfl : s = [1, 3] := sorted_eq (hperm.trans (by decide)) hup (by decide)
    obtain ⟨p13', dx13, u13, e13, hq13, hu13⟩ := id hp13
    cases e13
    refine ⟨p13, dx13, _, rfl, hq13, p13, dx13, _, _, rfl, hq13, sfl_entries _ _, ?_⟩
    have s0 := (w1.trans w2).trans s13
    have K13 := A12.k.mono s0
    obtain ⟨qk', dxk, usk, ek, hqk, hlk, hpk⟩ := id K13
    cases ek
    refine ⟨_, rfl, qk, dxk, _, rfl, hqk, _, p, l, st, ke, rfl, K13, fun uk huk => ?_⟩
    refine ⟨_, rfl, qk, dxk, _, rfl, hqk, _, p, l, _, rfl, K13, ?_⟩
    have es1 : (((st ++ [ke]).length : Nat) : Int) - 1 = st.length := by rw [List.length_append, List.length_singleton]; omega
    rw [es1]
    refine ⟨l4, fun M nM => ?_⟩
    have tM := Same_new (o := .lst [u12, u13, uk, .int (st.length : Int)]) nM
    have sM := s0.trans tM
    have x1M := x12.trans (.of sM)
    refine ⟨L2, M, _, _, rfl, rfl, x1M _ _ F11.l (fun _ z => nomatch z), upd_same, (by show 8 + 4 ≤ sizeLine; decide), fun L3 nL3 => ?_⟩
    have tL := Same_new (o := .lst ([u1, .ref p2, .ref p3, .ref p4, .ref p5] ++ [.bl true, .str (textS n es), u10] ++ [u12, u13, uk, .int (st.length : Int)])) nL3
    obtain ⟨H14, e14⟩ : ∃ H14, H14 = upd (upd H13 M (.lst [u12, u13, uk, .int (st.length : Int)])) L3 (.lst ([u1, .ref p2, .ref p3, .ref p4, .ref p5] ++ [.bl true, .str (textS n es), u10] ++ [u12, u13, uk, .int (st.length : Int)])) := ⟨_, rfl⟩
    have sA := sM.trans tL
    have hA1 := (hu12.mono sM).mono tL
    have hA2 := (hu13.mono tM).mono tL
    have hA3 := (huk.mono tM).mono tL
    rw [← e14] at sA hA1 hA2 hA3
    have F14 := F11.step (x12.trans (.of sA)) (T12.ext sA) (by rw [e14]; exact upd_same) (.cons hA1.dd (.cons hA2.dd (.cons hA3.dd (.cons (.int (st.length : Int)) .nil))))
    rw [← e14]
    clear sA hA1 hA2 hA3
    clear e14 tL nL3 x1M sM tM nM huk hlk hpk hqk K13 s0 hq13 hu13 hp13 s13 w1 w2 m1 m2 A12 hq12 hu12 hp12 T12 x12 A11 F11
    dsimp only [gName]
    refine st_eq (σ' := [some v, some (.ref qk), some (.ref L3)]) rfl ?_
    -- three more
    have A14 := hA.ext F14.e F14.t
    obtain ⟨qk', dxk, usk, ek, hqk, hlk, hpk⟩ := id A14.k
    cases ek
    refine ⟨_, rfl, ?_⟩
    refine ⟨_, rfl, qk, dxk, _, rfl, hqk, _, p, l, st, ke, rfl, A14.k, _, rfl, by omega, by omega, ?_⟩
    refine ⟨_, rfl, qk, dxk, _, rfl, hqk, rfl, ?_⟩
    refine ⟨_, .int 1, _, p, l, st, ke, rfl, .int 1, A14.k, h60, fun h => ?_, fun r e _ _ => ?_⟩
    · have : (decide ((1 : Int) ≤ 1) && decide ((1 : Int) ≤ st.length)) = false := h
      rw [decide_eq_true (show (1 : Int) ≤ 1 by decide), decide_eq_true (show (1 : Int) ≤ st.length by omega)] at this
      cases this
    cases e
    refine ⟨hne, fun H15 mk jk ek s15 hmk hjk hek => ?_⟩
    refine ⟨_, rfl, v, n, es, rfl, A14.s.mono s15, hv, fun H16 s16 => ?_⟩
    refine ⟨textS n es, rfl, size1000 (by omega), rows_fine hv, fun n' es' he H17 p17 s17 hp17 => ?_, fun r hr => absurd (hr.symm.trans (textS_reads hv)) (by intro z; cases z)⟩
    rw [textS_reads hv] at he
    injection he with he
    injection he with ea eb
    subst ea eb
    obtain ⟨p17', dx17, u17, e17, hq17, hu17⟩ := id hp17
    cases e17
    refine ⟨p17, dx17, _, rfl, hq17, p17, dx17, _, _, rfl, hq17, sfl_entries _ _, l3, fun M nM => ?_⟩
    have tM := Same_new (o := .lst [.int (ke.length : Int), .int ek.1, u17]) nM
    have sM := ((s15.trans s16).trans s17).trans tM
    refine ⟨L3, M, _, _, rfl, rfl, sM _ _ F14.l, upd_same, (by show 12 + 3 ≤ sizeLine; decide), fun L4 nL4 => ?_⟩
    have tL := Same_new (o := .lst ([u1, .ref p2, .ref p3, .ref p4, .ref p5] ++ [.bl true, .str (textS n es), u10] ++ [u12, u13, uk, .int (st.length : Int)] ++ [.int (ke.length : Int), .int ek.1, u17])) nL4
    obtain ⟨H18, e18⟩ : ∃ H18, H18 = upd (upd H17 M (.lst [.int (ke.length : Int), .int ek.1, u17])) L4 (.lst ([u1, .ref p2, .ref p3, .ref p4, .ref p5] ++ [.bl true, .str (textS n es), u10] ++ [u12, u13, uk, .int (st.length : Int)] ++ [.int (ke.length : Int), .int ek.1, u17])) := ⟨_, rfl⟩
    have sA := sM.trans tL
    have hA1 := (hu17.mono tM).mono tL
    rw [← e18] at sA hA1
    have F18 := F14.step (.of sA) (F14.t.ext sA) (by rw [e18]; exact upd_same) (.cons (.int (ke.length : Int)) (.cons (.int ek.1) (.cons hA1.dd .nil)))
    rw [← e18]
    clear sA hA1
    clear e18 tL nL4 sM tM nM hq17 hu17 hp17 s17 s16 s15 hlk hpk hqk A14 F14
    dsimp only [gName]
    refine st_eq (σ' := [some v, some (.ref qk), some (.ref L4)]) rfl ?_
    -- the last five
    have A18 := hA.ext F18.e F18.t
    refine seq_ifj (fun σ H' => ∃ L xs ds ext, σ = [some v, some (.ref qk), some (.ref L)] ∧ Fnd PJ H H' L xs ds ∧ xs.length ≤ 20 ∧ ExtD n es ext ∧ ds = [PyData.tuple ((tightL n es).map entD), .tuple [oiD x1, oiD y1], .tuple [oiD x2, oiD y2], .tuple [oiD x3, oiD y3], .tuple (R.map PyData.int)] ++ [.bool true, .str (textS n es), .tuple ((putE n es 2).map entD)] ++ [.tuple ((joinE n es n es).map entD), .tuple ((keptE [1, 3] [2]).map entD), .tuple (ke.map entD), .int (st.length : Int)] ++ [.int (ke.length : Int), .int ek.1, .tuple (es.map entD)] ++ ext) (fun N hN => ?_) ?_
    · obtain ⟨pm, dxm, um, em, hqm, hum⟩ := id A18.s
      cases em
      refine ⟨_, rfl, pm, dxm, _, rfl, hqm, _, n, es, rfl, A18.s, _, rfl, by omega, by omega, _, _, rfl, rfl, _, rfl, ite2 (fun c => ?_) (fun c => ?_)⟩
      · have c' : (0 : Int) < es.length := of_decide_eq_true c
        have hes : es ≠ [] := fun z => by rw [z] at c'; exact absurd c' (by decide)
        refine ⟨_, rfl, ?_⟩
        refine ⟨_, rfl, _, n, 1, es, rfl, A18.s, hv, hF, hes, by decide, n1, fun H19 m19 j19 s19 hm19 hj19 => ?_⟩
        refine ⟨_, rfl, _, n, 1, es, rfl, A18.s.mono s19, hv, hF, hes, by decide, n1, fun H20 m20 s20 hm20 => ?_⟩
        obtain rfl := hm20.uniq hm19
        have s1 := s19.trans s20
        refine ⟨_, rfl, _, n, es, rfl, A18.s.mono s1, hv, fun h => absurd hF h, fun _ h => absurd h hes, fun _ _ H21 p21 g R21 s21 hW h21 => ?_⟩
        have s2 := s1.trans s21
        refine ⟨_, rfl, _, n, 3, es, rfl, A18.s.mono s2, hv, by decide, fun h => absurd hF h, fun _ H22 x22 s22 h22 => ?_⟩
        have s3 := s2.trans s22
        refine ⟨_, rfl, _, n, 0, es, rfl, A18.s.mono s3, hv, fun h => absurd h (by omega), fun _ H23 p23 s23 hp23 => ?_⟩
        obtain ⟨p23', dx23, u23, e23, hq23, hu23⟩ := id hp23
        cases e23
        refine ⟨p23, dx23, _, rfl, hq23, p23, dx23, _, _, rfl, hq23, sfl_entries _ _, l5, fun M nM => ?_⟩
        have tM := Same_new (o := .lst [.int ((j19 : Nat) : Int), .int m20, .ref p21, x22, u23]) nM
        have sM := (s3.trans s23).trans tM
        refine ⟨L4, M, _, _, rfl, rfl, sM _ _ F18.l, upd_same, (by show 15 + 5 ≤ sizeLine; decide), fun L5 nL5 => ?_⟩
        have tL := Same_new (o := .lst ([u1, .ref p2, .ref p3, .ref p4, .ref p5] ++ [.bl true, .str (textS n es), u10] ++ [u12, u13, uk, .int (st.length : Int)] ++ [.int (ke.length : Int), .int ek.1, u17] ++ [.int ((j19 : Nat) : Int), .int m20, .ref p21, x22, u23])) nL5
        have s4 := sM.trans tL
        have tML := tM.trans tL
        refine hN _ _ ⟨L5, _, _, _, rfl, F18.step (.of s4) (F18.t.ext s4) upd_same (.cons (.int ((j19 : Nat) : Int)) (.cons (.int m20) (.cons (.tup (tML _ _ (s23 _ _ (s22 _ _ h21))) (dds_ints [g, R21])) (.cons (h22.dd.kt (.of (s23.trans tML))) (.cons (hu23.mono tML).dd .nil))))), by show 15 + 5 ≤ 20; decide, .inr ⟨hes, m20, j19, g, R21, hm19, hj19, hW, rfl⟩, rfl⟩
      · have c' : es = [] := by
          cases es with
          | nil => rfl
          | cons e t =>
            refine absurd (decide_eq_true ?_) c
            show (0 : Int) < ((t.length + 1 : Nat) : Int)
            omega
        exact hN _ _ ⟨L4, _, _, [], rfl, F18, by show 15 ≤ 20; decide, .inl ⟨c', rfl⟩, (List.append_nil _).symm⟩
    · rintro σ H' ⟨L, xs, ds, ext, rfl, F, h20, hext, rfl⟩
      exact ⟨_, rfl, k H' L xs _ F h20 ⟨x1, y1, x2, y2, x3, y3, R, mk, jk, ek, ext, ox1, oy1, ox2, oy2, ox3, oy3, hR, hmk, hjk, hek, hext, rfl⟩⟩
-- @prem _law_answers _law_answers  : D_row_for D_up_to D_below D_values_at D_tightened T DE D_put_in D_write_summary D_leaves TK DKM DKE D_kept_from D_joined D_read_summary DK_answer m_len DLK DL D_without D_fewest D_worst D_error_at D_answer
end
end SR

set_option Elab.async false
set_option linter.all false
set_option maxRecDepth 100000
set_option maxHeartbeats 4000000
/-! Asked again: the law. -/
namespace SR
open PySem PySem.Spec PyProof.Rows L2
open LamX (Tabs ExtN TabB CodeO)

/-- entries with the ranks that they were made of -/
def RkJ (rs : List Int) (i : Nat) (es : List Ent) : Prop := ∃ J : List (Ent × Int), J.map (·.1) = es ∧ (J.Pairwise fun a b => a.2 < b.2) ∧ ∀ q ∈ J, 0 < q.2 ∧ q.2 ≤ (i : Int) ∧ q.1.2.1 ≤ q.2 ∧ q.2 ≤ q.1.2.2 ∧ rat rs q.2 = q.1.1
theorem RkJ.zero (rs : List Int) : RkJ rs 0 [] := ⟨[], rfl, .nil, fun q h => nomatch h⟩
theorem RkJ.skip {rs : List Int} {i : Nat} {es : List Ent} (h : RkJ rs i es) : RkJ rs (i + 1) es := by
  obtain ⟨J, e, p, h⟩ := h
  refine ⟨J, e, p, fun q hq => ?_⟩
  have := h q hq
  push_cast
  exact ⟨this.1, by omega, this.2.2⟩
theorem RkJ.snoc {rs : List Int} {i : Nat} {es : List Ent} (h : RkJ rs i es) {e : Ent} (h1 : e.2.1 ≤ (i : Int) + 1) (h2 : (i : Int) + 1 ≤ e.2.2) (h3 : rat rs ((i : Int) + 1) = e.1) : RkJ rs (i + 1) (es ++ [e]) := by
  obtain ⟨J, rfl, p, h⟩ := h
  refine ⟨J ++ [(e, (i : Int) + 1)], by simp, List.pairwise_append.mpr ⟨p, List.pairwise_singleton _ _, fun a ha b hb => ?_⟩, fun q hq => ?_⟩
  · rw [List.mem_singleton.mp hb]
    have := (h a ha).2.1
    show a.2 < (i : Int) + 1
    omega
  · push_cast
    rcases List.mem_append.mp hq with hq | hq
    · have := h q hq
      exact ⟨this.1, by omega, this.2.2⟩
    · rw [List.mem_singleton.mp hq]
      exact ⟨by show 0 < (i : Int) + 1; omega, by show (i : Int) + 1 ≤ (i : Int) + 1; omega, h1, h2, h3⟩
theorem RkJ.lvs {rs : List Int} {i : Nat} {es : List Ent} (h : RkJ rs i es) : Lvs rs es := by
  obtain ⟨J, rfl, p, h⟩ := h
  exact Lv.pairs J 0 p fun q hq => ⟨(h q hq).1, (h q hq).2.2⟩
section
variable {P : Program} {w : World} {K : PySem.W.Frag} {mg : Str → Option Value} {base : Heap} {C CK C_BadParts C_BadValue C_Full C_TooLong PJ : Addr}
def spLawT (PJ : Addr) (K : PySem.W.Frag) : Sp := fun vs H Q _ => ∃ (a : Addr) (ns : List Int), vs = [.ref a] ∧ SqL K H a (ns.map V.int) ∧ ns.length ≤ 63 ∧ Tabs (joinT PJ) H ∧ ∀ H', Q (.bl true) H'
def LkP (H1 : Hp) (a p c r q : Addr) (n : Int) (rs : List Int) (i : Nat) (σ : L2.St) (H' : Hp) : Prop := ∃ (y5 : Option V) (us : List V) (es : List Ent), σ = [some (.ref a), some (.ref p), some (.int n), some (.ref r), some (.ref q), y5, none, none, none, none, none, none] ∧ DrawAt H' p c ∧ SameD p c H1 H' ∧
  H' r = some (.lst (rs.map V.int)) ∧ H' q = some (.lst us) ∧ EntsV H' us es ∧ SmI 6 n rs i es ∧ RkJ rs i es
theorem sc_law : FnScope ["_law_script", "_law_h", "_law_size", "_law_row", "_law_entries", "_law_rank", "_law_made", "_law_keeper", "_law_x", "_law_told", "_law_other", "_law_k"] ["_law_script"] (defScope s_law) := ⟨rfl, rfl, rfl, by decide +kernel, rfl, by decide +kernel, by decide +kernel⟩
set_option maxHeartbeats 64000000 in
theorem ok_law {f : Addr} {fd : FuncData} (F : Fun K "law" "law" s_law f fd)  (D__law_mix : Dn P w K mg base "_law_mix" ["_law_script", "_law_seed"] 1 (spMix K)) (D__law_next : Dn P w K mg base "_law_next" ["_law_h", "_law_bound"] 1 (spNext)) (m_sorted : mg "sorted" = none) (m_range : mg "range" = none) (m_len : mg "len" = none) (m_min : mg "min" = none) (m_max : mg "max" = none) (TK : KeepT K mg CK) (DKS : DnMkK P w K mg base CK C_BadParts) (T : SumT K mg C) (DS : DnMk P w K mg base C) (m_tuple : mg "tuple" = none) (DK_see : MtX P w K mg base CK "see" ["self", "value"] 6 (spKSee K CK C_BadValue C_Full C_TooLong)) (D__law_answers : Dn P w K mg base "_law_answers" ["_law_made", "_law_keeper"] 12 (spAnsK C CK PJ)) (DK_copy : Mt P w K mg base CK "copy" ["self"] 5 (spKCopy CK)) (DK_undo : Mt P w K mg base CK "undo" ["self"] 4 (spKUndo CK)) (DQ : DEq P w K mg base C) (DKM : Pr P w K mg base CK "many" 2 (spKMany CK))  : FnOk P w K mg base CX0 13 f fd ["_law_script"] (spLawT PJ K) := by
  obtain ⟨fQ, fdQ, GQ, hsQ, hfQ, bQ⟩ := DQ
  refine F.ok sc_law (fun vs H Q E h => ?_) (fun cdv A outer s H vs Q E hr h => ?_)
  · obtain ⟨a, ns, rfl, _⟩ := h
    rfl
  · obtain ⟨a, ns, rfl, hSc, h63, hT, k⟩ := h
    have nd := sc_law.nd
    have hr1 : Room 1 _ := hr.mono (by decide)
    have hr3 : Room 3 _ := hr.mono (by decide)
    have hr4 : Room 4 _ := hr.mono (by decide)
    have hr5 : Room 5 _ := hr.mono (by decide)
    have hr6 : Room 6 _ := hr.mono (by decide)
    have hr7 : Room 7 _ := hr.mono (by decide)
    have hr12 : Room 12 _ := hr.mono (by decide)
    refine ⟨_, pss_cons (ps_set (i := 1) nd rfl (Or.inr rfl) (pe_dn D__law_mix hr1 (pa_cons (pv 0) (pa_cons pe_int pa_nil))))
        (pss_cons (ps_set (i := 2) nd rfl (Or.inl rfl) (pe_op op_add pe_int (pe_dn D__law_next hr1 (pa_cons (pv 1) (pa_cons pe_int pa_nil)))))
        (pss_cons (ps_set (i := 3) nd rfl (Or.inl rfl) (pe_callB cr_sortedI (by rfl) m_sorted (by decide +kernel) (pa_cons (pe_lc (own := [("_law_k", 11)]) (g := gName 11) (tt := tYes) (te := tCall (spNext) [] E0 (tCons (tVar 1) (tCons (tC (.int 6)) tNil))) rfl nd (pi_range1 (by rfl) m_range (pa_cons (pv 2) pa_nil)) (blkOk_by (own := [("_law_k", 11)]) (N := ["_law_script", "_law_h", "_law_size", "_law_row", "_law_entries", "_law_rank", "_law_made", "_law_keeper", "_law_x", "_law_told", "_law_other", "_law_k"]) (sc := defScope s_law) (by decide +kernel)) (fun _ _ _ _ _ => (pg_name (i := 11) nd rfl (Or.inl rfl))) (fun _ _ _ _ _ => pts_nil) (fun _ _ _ _ _ => (pe_dn D__law_next hr1 (pa_cons (pv 1) (pa_cons pe_int pa_nil))))) pa_nil)))
        (pss_cons (ps_set (i := 4) nd rfl (Or.inl rfl) (pe_lst pa_nil))
        (pss_cons (ps_for PassesOwn.never rfl (pi_range2 (by rfl) m_range (pa_cons pe_int (pa_cons (pe_op op_add (pv 2) pe_int) pa_nil))) (pg_name (i := 5) nd rfl (Or.inl rfl))
        (pss_one (ps_if (PW.pt (pw_and (pt_cmpR op_eq (pe_dn D__law_next hr1 (pa_cons (pv 1) (pa_cons pe_int pa_nil))) pe_int (nomark _)) (pw_and1 (pt_cmpR op_lt (pe_callB call_len_seq (by rfl) m_len PySem.boot_len (pa_cons (pv 4) pa_nil)) pe_int (nomark _))))) (pss_one (ps_expr (pe_bm PySem.F.plainAttrs_list PySem.F.slot_list_append PySem.F.type_list_append mt_append (pv 4) (pa_cons (pe_tup (pa_cons (pe_ix ix_list (pv 3) (pe_op op_sub (pv 5) pe_int) (fun _ _ => rfl)) (pa_cons (pe_callB (call_max2 rfl) (by rfl) m_max (by decide +kernel) (pa_cons pe_int (pa_cons (pe_op op_sub (pv 5) (pe_dn D__law_next hr1 (pa_cons (pv 1) (pa_cons pe_int pa_nil)))) pa_nil))) (pa_cons (pe_callB (call_min2 rfl) (by rfl) m_min (by decide +kernel) (pa_cons (pv 2) (pa_cons (pe_op op_add (pv 5) (pe_dn D__law_next hr1 (pa_cons (pv 1) (pa_cons pe_int pa_nil)))) pa_nil))) pa_nil)))) pa_nil)))) pss_nil)))
        (pss_cons (ps_par (i := 6) (j := 7) rfl nd rfl rfl (by decide) rfl rfl (pa_cons (pe_mkS DS T hr7 (pa_cons (pv 2) (pa_cons (pe_callTy (T := "tuple") call_tupK (by rfl) m_tuple (by decide +kernel) (pa_cons (pv 4) pa_nil)) pa_nil))) (pa_cons (pe_mkK DKS TK hr4 (pa_cons (pe_op op_add pe_int (pe_dn D__law_next hr1 (pa_cons (pv 1) (pa_cons pe_int pa_nil)))) pa_nil)) pa_nil)) (by rfl))
        (pss_cons (ps_for PassesOwn.never rfl (pi_list (pv 3)) (pg_name (i := 8) nd rfl (Or.inl rfl))
        (pss_one (ps_expr (pe_mtX0 DK_see TK.cl hr6 (pv 7) (pa_cons (pv 8) pa_nil)))))
        (pss_cons (ps_set (i := 9) nd rfl (Or.inl rfl) (pe_dn D__law_answers hr12 (pa_cons (pv 6) (pa_cons (pv 7) pa_nil))))
        (pss_cons (ps_if (pt_cmpR (op_neD hr.units) (pv 9) (pe_dn D__law_answers hr12 (pa_cons (pv 6) (pa_cons (pv 7) pa_nil))) (nomark _)) (pss_one (ps_ret pe_bl)) pss_nil)
        (pss_cons (ps_set (i := 10) nd rfl (Or.inl rfl) (pe_mt0 DK_copy TK.cl hr5 (pv 7)))
        (pss_cons (ps_expr (pe_mtX0 DK_see TK.cl hr6 (pv 10) (pa_cons pe_int pa_nil)))
        (pss_cons (ps_expr (pe_mt0 DK_undo TK.cl hr4 (pv 10)))
        (pss_cons (ps_expr (pe_mt0 DK_undo TK.cl hr4 (pv 10)))
        (pss_cons (ps_if (PW.pt (pw_or (pt_cmpR (op_neD hr.units) (pe_dn D__law_answers hr12 (pa_cons (pv 6) (pa_cons (pv 7) pa_nil))) (pv 9) (nomark _)) (pw_or1 (pt_not (pt_cmpR (op_eqO GQ hr1 hsQ hfQ bQ pass0) (pv 6) (pe_mkS DS T hr7 (pa_cons (pv 2) (pa_cons (pe_callTy (T := "tuple") call_tupK (by rfl) m_tuple (by decide +kernel) (pa_cons (pv 4) pa_nil)) pa_nil))) (nomark _)))))) (pss_one (ps_ret pe_bl)) pss_nil)
        (pss_one (ps_ret (pe_and (pe_cmpR op_eq (pe_pr DKM TK.cl hr3 (pv 7)) (pv 2) (nomark _)) (pe_one (pe_cmpR op_eq (pe_pr DKM TK.cl hr3 (pv 10)) (pe_op op_sub (pv 2) pe_int) (nomark _))))))))))))))))))), ?_⟩
    refine ⟨_, rfl, a, ns, 12, rfl, hSc, h63, by decide, by decide, fun H1 p c s1 np nc D1 => ?_⟩
    have hT1 := hT.ext s1
    -- size
    refine ⟨_, rfl, p, c, 8, rfl, D1, by decide, by decide, fun H2 r0 a0 a1 D2 s2 => ?_⟩
    refine ⟨_, _, rfl, rfl, ?_⟩
    dsimp only
    generalize hn : (1 : Int) + r0 = n
    have n1 : 1 ≤ n := by omega
    have n8 : n ≤ 8 := by omega
    -- row
    refine ⟨_, rfl, n, rfl, by omega, by omega, fun D nD => ?_⟩
    have dp : D ≠ p := fun z => by obtain ⟨_, _, _, e, _⟩ := D2; rw [z, e] at nD; cases nD
    have dc : D ≠ c := fun z => by obtain ⟨_, _, _, _, e, _⟩ := D2; rw [z, e] at nD; cases nD
    refine lc_range (lo := 0) (n := n.toNat) (fun i H' => ∃ rs : List Int, H' D = some (.lst (rs.map V.int)) ∧ rs.length = i ∧ (∀ x ∈ rs, 0 ≤ x ∧ x < 6) ∧ DrawAt H' p c ∧ SameD p c H1 H')
      ⟨[], upd_same, rfl, fun x hx => (nomatch hx), D2.mono (Same_new nD), s2.trans (sameD_of (Same_new nD))⟩ ?_ ?_
    · rintro i H' hi ⟨rs, hrs, hl, hb, D3, s3⟩
      refine ⟨rfl, tyes_of ?_⟩
      rw [if_pos rfl]
      refine ⟨_, rfl, p, c, 6, rfl, D3, by decide, by decide, fun H4 r b0 b1 D4 s4 => ?_⟩
      refine ⟨_, s4 _ _ hrs dp dc, ?_, rs ++ [r], ?_, ?_, ?_, ?_, ?_⟩
      · rw [List.length_map]
        exact small1000 (by omega)
      · rw [upd_same, List.map_append]; rfl
      · rw [List.length_append, hl]; rfl
      · intro x hx
        rcases List.mem_append.mp hx with hx | hx
        · exact hb x hx
        · rw [List.mem_singleton.mp hx]; exact ⟨b0, b1⟩
      · obtain ⟨s', i', cs, g1, g2, g3⟩ := D4
        exact ⟨s', i', cs, by rw [upd_ne (Ne.symm dp)]; exact g1, by rw [upd_ne (Ne.symm dc)]; exact g2, g3⟩
      · exact fun a o ha h1 h2 => by
          have ne : a ≠ D := fun z => by
            subst z
            have := s2 _ _ ha h1 h2
            rw [this] at nD; cases nD
          rw [upd_ne ne]
          exact s4 _ _ (s3 _ _ ha h1 h2) h1 h2
    rintro H3 ⟨ms, hms, hml, hmb, D3, s3⟩
    refine ⟨D, ms, rfl, SqL.of hms, fun rs r perm asc nr => ?_⟩
    have hrl : rs.length = n.toNat := by rw [perm.length_eq]; exact hml
    have hrb : ∀ x ∈ rs, 0 ≤ x ∧ x < 6 := fun x hx => hmb x (perm.mem_iff.mp hx)
    have D4 := D3.mono (Same_new (o := .lst (rs.map V.int)) nr)
    have s4 := s3.trans (sameD_of (Same_new (o := .lst (rs.map V.int)) nr))
    have rp : r ≠ p := fun z => by obtain ⟨_, _, _, e, _⟩ := D3; rw [z, e] at nr; cases nr
    have rc : r ≠ c := fun z => by obtain ⟨_, _, _, _, e, _⟩ := D3; rw [z, e] at nr; cases nr
    -- entries
    refine ⟨Nat.zero_le _, fun q nq => ?_⟩
    have qp : q ≠ p := fun z => by obtain ⟨_, _, _, e, _⟩ := D4; rw [z, e] at nq; cases nq
    have qc : q ≠ c := fun z => by obtain ⟨_, _, _, _, e, _⟩ := D4; rw [z, e] at nq; cases nq
    have qr : r ≠ q := fun z => by subst z; rw [upd_same] at nq; cases nq
    have hqH : ∀ a o, H1 a = some o → a ≠ p → a ≠ c → a ≠ q := fun a o ha h1 h2 z => by
      subst z
      have := s4 _ _ ha h1 h2
      rw [this] at nq; cases nq
    refine ⟨_, rfl, _, _, rfl, rfl, _, _, rfl, ⟨by omega, by omega, by omega, by omega⟩, ?_⟩
    rw [show (n + 1 - 1).toNat = n.toNat by omega]
    refine for_range (lo := 1) (n := n.toNat) (LkP H1 a p c r q n rs)
      ⟨none, [], [], rfl, D4.mono (Same_new nq), s4.trans (sameD_of (Same_new nq)), Same_new nq _ _ upd_same, upd_same, .nil, SmI.zero 6 n rs, RkJ.zero rs⟩ ?_ ?_
    · rintro i σ H4 hi ⟨y5, us, es, rfl, D4, s4, hr4, hq4, he4, I4, J4⟩
      have hir : i < rs.length := by omega
      have hval := hrb rs[i] (List.getElem_mem hir)
      refine ⟨_, rfl, p, c, 2, rfl, D4, by decide, by decide, fun H5 r5 b0 b1 D5 s5 => ?_⟩
      have hr5 := s5 _ _ hr4 rp rc
      have hq5 := s5 _ _ hq4 qp qc
      have he5 := s5.ents D4 he4
      refine ⟨rfl, _, rfl, ite2 (fun _ => ?_) (fun _ => iteF ⟨_, us, es, rfl, D5, s4.trans s5, hr5, hq5, he5, I4.skip, J4.skip⟩)⟩
      refine ⟨_, rfl, q, us, rfl, .inl (SqL.of hq5), _, _, rfl, rfl, _, rfl, ite2 (fun h6 => ?_) (fun _ => ⟨_, us, es, rfl, D5, s4.trans s5, hr5, hq5, he5, I4.skip, J4.skip⟩)⟩
      have h6' : (us.length : Int) < 6 := of_decide_eq_true h6
      have h66 : es.length < 6 := by have := he5.len; omega
      refine ⟨_, rfl, .inl ⟨rfl, _, SqL.of hq5⟩, _, rfl, _, rfl, _, _, rfl, rfl, r, _, _, .int rs[i], rfl, rfl, SqL.of hr5, at_of (j := i) (by omega) ?_, ?_⟩
      · rw [List.getElem?_map, List.getElem?_eq_getElem hir]; rfl
      refine ⟨_, rfl, _, rfl, p, c, 3, rfl, D5, by decide, by decide, fun H6 r6 c0 c1 D6 s6 => ?_⟩
      refine ⟨_, _, rfl, rfl, _, _, rfl, ?_⟩
      refine ⟨_, rfl, _, rfl, _, rfl, p, c, 3, rfl, D6, by decide, by decide, fun H7 r7 d0 d1 D7 s7 => ?_⟩
      refine ⟨_, _, rfl, rfl, _, _, rfl, (by show 3 ≤ sizeLine; decide), fun t nt => ?_⟩
      rw [max_if, min_if]
      have s57 : SameD p c H5 H7 := s6.trans s7
      have hr8 := s57 _ _ hr5 rp rc
      have hq8 := s57 _ _ hq5 qp qc
      have he8 := s57.ents D5 he5
      have s48 := (s4.trans s5).trans s57
      refine ⟨q, _, _, rfl, rfl, Same_new nt _ _ hq8, ?_, ?_⟩
      · exact small1000 (by omega)
      · have tq : t ≠ q := fun z => by subst z; rw [hq8] at nt; cases nt
        obtain ⟨lo, hlo⟩ : ∃ lo, lo = max 1 (1 + (i : Int) - r6) := ⟨_, rfl⟩
        obtain ⟨hi', hhi⟩ : ∃ hi', hi' = min n (1 + (i : Int) + r7) := ⟨_, rfl⟩
        rw [← hlo, ← hhi]
        have sq : ∀ (b : Addr) (o : HO), H7 b = some o → b ≠ q → upd (upd H7 t (.tup [.int rs[i], .int lo, .int hi'])) q (.lst (us ++ [.ref t])) b = some o := fun b o hb hne => by
          rw [upd_ne hne]
          exact Same_new nt _ _ hb
        have hD9 : DrawAt (upd (upd H7 t (.tup [.int rs[i], .int lo, .int hi'])) q (.lst (us ++ [.ref t]))) p c := by
          obtain ⟨s', i', cs, g1, g2, g3⟩ := D7
          exact ⟨s', i', cs, sq _ _ g1 (Ne.symm qp), sq _ _ g2 (Ne.symm qc), g3⟩
        have hrat : rat rs ((i : Int) + 1) = rs[i] := by
          unfold rat
          rw [show ((i : Int) + 1 - 1).toNat = i by omega, List.getD_eq_getElem?_getD, List.getElem?_eq_getElem hir]
          rfl
        refine ⟨_, us ++ [.ref t], es ++ [(rs[i], lo, hi')], rfl, hD9, fun a o ha h1 h2 => sq _ _ (s48 _ _ ha h1 h2) (hqH a o ha h1 h2), sq _ _ hr8 qr, upd_same, ?_, I4.snoc asc hir h66 ⟨by show -10 ^ 30 ≤ rs[i]; omega, by show rs[i] ≤ 10 ^ 30; omega, by show 1 ≤ lo; omega, by show lo ≤ hi'; omega, by show hi' ≤ n; omega⟩ rfl hval, J4.snoc (by show lo ≤ (i : Int) + 1; omega) (by show (i : Int) + 1 ≤ hi'; omega) hrat⟩
        refine pr_app (Paired.mapP he8 fun v e' ⟨t', ev, et⟩ => ⟨t', ev, sq _ _ et (ne_of et hq8 (by intro z; cases z))⟩) (.cons ⟨t, rfl, ?_⟩ .nil)
        rw [upd_ne tq, upd_same]
    rintro σ H4 ⟨y5, us, es, rfl, D4, s4, hr4, hq4, he4, I4, J4⟩
    have hv : Valid n es := valid_of n1 (by omega) (by have := I4.l6; omega) I4.ok I4.asc
    have hF : Fits n es := Lvs.fits hv J4.lvs
    have l6 := I4.l6
    have hT4 := tabs_draw hT1 s4 D1
    -- the summary, the keeper
    refine ⟨_, rfl, _, rfl, q, us, rfl, .inl ⟨SqL.of hq4, fun ta nta => ?_⟩⟩
    have t5 := Same_new (o := .tup us) nta
    refine fun xm dxm nxm ndm nem => sum_mk (u := .ref ta) ⟨ta, us, rfl, upd_same, he4.mono t5⟩ hv nxm ndm nem fun H5 s5 hS5 => ?_
    have s45 := t5.trans s5
    refine ⟨_, rfl, p, c, 4, rfl, D4.mono s45, by decide, by decide, fun H6 r6 e0 e1 D6 s6 => ?_⟩
    refine ⟨_, _, rfl, rfl, ?_⟩
    dsimp only
    obtain ⟨pk, hpk⟩ : ∃ pk : Int, pk = 2 + r6 := ⟨_, rfl⟩
    rw [← hpk]
    have pk2 : 2 ≤ pk := by omega
    have pk20 : pk ≤ 20 := by omega
    have D5 := D4.mono s45
    have hr6 := s6 _ _ (s45 _ _ hr4) rp rc
    have hq6 := s6 _ _ (s45 _ _ hq4) qp qc
    have he6 := s6.ents D5 (he4.mono s45)
    have hS6 := s6.sum D5 hS5
    have hT6 := tabs_draw (hT4.ext s45) s6 D5
    refine fun xk dxk nxk ndk nek => keep_mk pk2 pk20 nxk ndk nek fun H7 l s7 nl hk7 => ?_
    have hr7 := s7 _ _ hr6
    have hq7 := s7 _ _ hq6
    have he7 := he6.mono s7
    have hS7 := hS6.mono s7
    have hT7 := hT6.ext s7
    have rl : r ≠ l := fun z => by rw [z, nl] at hr6; cases hr6
    have ql : q ≠ l := fun z => by rw [z, nl] at hq6; cases hq6
    clear hr6 hq6 he6 hS6 hT6 D5 s45 D6 s6 hS5 s5 t5 hT4 he4 hq4 hr4 s4 D4 I4 hqH
    refine ⟨_, _, rfl, ?_⟩
    refine st_eq (σ' := [some (.ref a), some (.ref p), some (.int n), some (.ref r), some (.ref q), y5, some (.ref xm), some (.ref xk), none, none, none, none]) rfl ?_
    -- the row is seen
    refine ⟨_, rfl, r, rfl, ⟨_, SqL.of hr7⟩, ?_⟩
    refine for_list (K := K) (a := r) (xs := rs.map V.int) (fun i σ H' => ∃ (y8 : Option V) (st : List (List Ent)) (ke : List Ent), σ = [some (.ref a), some (.ref p), some (.int n), some (.ref r), some (.ref q), y5, some (.ref xm), some (.ref xk), y8, none, none, none] ∧ KeepV CK H' (.ref xk) pk l (st ++ [ke]) ∧ st.length = i ∧ ke.length ≤ i ∧ (1 ≤ i → ke ≠ []) ∧ But l H7 H')
      ⟨none, [], [], rfl, hk7, rfl, Nat.le_refl _, fun h => absurd h (by decide), fun _ _ e _ => e⟩ (fun i σ H' _ ⟨_, _, _, _, _, _, _, _, b⟩ => SqL.of (b _ _ hr7 rl)) ?_ ?_
    · rintro i x σ H' hx ⟨y8, st, ke, rfl, hk, hst, hke, _, b⟩
      obtain ⟨z, hz, rfl⟩ := map_int_at hx
      have hil : i < rs.length := (List.getElem?_eq_some_iff.mp hz).1
      have hzb := hrb z (List.mem_of_getElem? hz)
      obtain ⟨qk, dk, uk, ek, hqk, hlk, hpk'⟩ := id hk
      cases ek
      dsimp only [gName]
      refine ⟨_, rfl, xk, dk, _, rfl, hqk, rfl, ?_⟩
      refine see_goV rfl ?_
      refine see_okB hk pk2 pk20 (by omega) (by omega) (by omega) (by omega) (fun H'' rr b' hr' hne hk'' => ?_) (fun m => ewL_len1 m ke z) (fun g => g.pos fun e => by have := ewL_len1 st.length ke z; rw [e] at this; simp at this)
      refine ⟨_, st ++ [ke], rr, rfl, hk'', ?_, by omega, fun _ => hne, b.trans b'⟩
      rw [List.length_append, hst]
      rfl
    rintro σ H8 ⟨y8, st, ke, rfl, hk8, hst, hke, hne, b8⟩
    rw [List.length_map] at hst hke hne
    have hl7 := hk7.lst
    obtain ⟨ul7, hl7⟩ := hl7
    have hr8 := b8 _ _ hr7 rl
    have hq8 := b8 _ _ hq7 ql
    have he8 := b8.ents hl7 he7
    have hS8 := hS7.but b8 hl7
    have hT8 := tabs_but hT7 b8 hl7
    have A8 : AskK C CK PJ H8 (.ref xm) (.ref xk) n es ke pk l st := ⟨hS8, hk8, hT8⟩
    have hst1 : 1 ≤ st.length := by omega
    have hke0 : ke ≠ [] := hne (by omega)
    clear hS8 hT8 he7 hq7 hr7 hS7 hT7 hl7 b8
    -- told
    refine ⟨_, rfl, _, rfl, _, _, n, es, ke, pk, l, st, rfl, A8, hv, hF, n8, l6, hst1, hke0, by omega, fun H9 L xs ds F9 h20 hA9 => ?_⟩
    have A9 := A8.ext F9.e F9.t
    have hq9 := F9.e _ _ hq8 (fun _ z => nomatch z)
    have he9 := EntsV.ext F9.e he8
    have lay := hA9.lay hv
    have shp : SeqAt.shaped (.list ds) = true := shaped_lst lay
    dsimp only [gName]
    refine st_eq (σ' := [some (.ref a), some (.ref p), some (.int n), some (.ref r), some (.ref q), y5, some (.ref xm), some (.ref xk), y8, some (.ref L), none, none]) rfl ?_
    refine seq_ifs (fun H' => ExtN H9 H' ∧ Tabs (joinT PJ) H') (fun Q' kq => ?_) (fun H10 x10 => ?_)
    · refine ⟨_, rfl, _, rfl, _, rfl, _, _, n, es, ke, pk, l, st, rfl, A9, hv, hF, n8, l6, hst1, hke0, by omega, fun H10 L2 xs2 ds2 F10 _ hA10 => ?_⟩
      obtain rfl := hA10.uniq hA9
      refine ⟨.list ds2, .list ds2, .lst (SqL.of (F10.e _ _ F9.l (fun _ z => nomatch z))) (F9.d.kt (.ofN F10.e)).dp, .lst (SqL.of F10.l) F10.d.dp, shp, shp, ?_⟩
      rw [show PyData.eqv (.list ds2) (.list ds2) = true from F10.d.self]
      exact ⟨false, rfl, kq _ ⟨F10.e, F10.t⟩⟩
    obtain ⟨x10, hT10⟩ := x10
    have A10 := A9.ext x10 hT10
    have hq10 := x10 _ _ hq9 (fun _ z => nomatch z)
    have he10 := EntsV.ext x10 he9
    have hL10 := x10 _ _ F9.l (fun _ z => nomatch z)
    have hd10 := F9.d.kt (.ofN x10)
    -- a copy
    obtain ⟨qk, dk, uk, ek, hqk, hlk, hpk'⟩ := id A10.k
    cases ek
    refine ⟨_, rfl, xk, dk, _, rfl, hqk, rfl, _, pk, l, st ++ [ke], rfl, A10.k, pk2, pk20, by rw [List.length_append, List.length_singleton]; omega, fun H11 w2 l2 s11 nl2 hk11 => ?_⟩
    have hl11 := hk11.lst
    obtain ⟨ul2, hl11⟩ := hl11
    have L2n : L ≠ l2 := fun z => by rw [z, nl2] at hL10; cases hL10
    have ll2 : l ≠ l2 := fun z => by rw [z, nl2] at hlk; cases hlk
    have ql2 : q ≠ l2 := fun z => by rw [z, nl2] at hq10; cases hq10
    have hL11 := s11 _ _ hL10
    have hq11 := s11 _ _ hq10
    have he11 := he10.mono s11
    have hd11 := hd10.kt (.of s11)
    have A11 := A10.ext (.of s11) (hT10.ext s11)
    clear hqk hlk hpk' hd10 hL10 he10 hq10 A10 he9 hq9 A9 A8 he8 hq8 hr8
    obtain ⟨q2, d2, u2, e2, hq2, _, _⟩ := id hk11
    cases e2
    dsimp only [gName]
    refine st_eq (σ' := [some (.ref a), some (.ref p), some (.int n), some (.ref r), some (.ref q), y5, some (.ref xm), some (.ref xk), y8, some (.ref L), some (.ref q2), none]) rfl ?_
    refine ⟨_, rfl, q2, d2, _, rfl, hq2, rfl, ?_⟩
    refine see_go ?_
    refine see_okB hk11 pk2 pk20 (by omega) (by omega) (by decide) (by decide) (fun H12 rr b12 _ _ hk12 => ?_) (fun m => ewL_len1 m ke 9) (fun g => g.pos fun e => by have := ewL_len1 st.length ke 9; rw [e] at this; simp at this)
    obtain ⟨q2', d2', u2', e2, hq2, _, _⟩ := id hk12
    cases e2
    refine ⟨_, rfl, q2, d2', _, rfl, hq2, rfl, _, pk, l2, st ++ [ke], rr, rfl, hk12, fun z => absurd z (by simp), fun _ H13 b13 hk13 => ?_⟩
    obtain ⟨q2', d2', u2', e2, hq2, _, _⟩ := id hk13
    cases e2
    refine ⟨_, rfl, q2, d2', _, rfl, hq2, rfl, _, pk, l2, st, ke, rfl, hk13, fun z => absurd hst1 (by rw [z]; decide), fun _ H14 b14 hk14 => ?_⟩
    have bb := (b12.trans b13).trans b14
    have kt14 := KTup.ofB bb hl11
    have hL14 := bb _ _ hL11 L2n
    have hq14 := bb _ _ hq11 ql2
    have he14 := bb.ents hl11 he11
    have hd14 := hd11.kt kt14
    have A14 : AskK C CK PJ H14 (.ref xm) (.ref xk) n es ke pk l st := ⟨A11.s.but bb hl11, A11.k.but bb hl11 ll2, tabs_but A11.t bb hl11⟩
    -- asked once more
    dsimp only
    refine seq_ifs (fun H' => ExtN H14 H') (fun Q' kq => ?_) (fun H15 x15 => ?_)
    · refine ⟨_, rfl, _, rfl, _, _, n, es, ke, pk, l, st, rfl, A14, hv, hF, n8, l6, hst1, hke0, by omega, fun H15 L3 xs3 ds3 F15 _ hA15 => ?_⟩
      obtain rfl := hA15.uniq hA9
      refine ⟨_, rfl, .list ds3, .list ds3, .lst (SqL.of F15.l) F15.d.dp, .lst (SqL.of (F15.e _ _ hL14 (fun _ z => nomatch z))) (hd14.kt (.ofN F15.e)).dp, shp, shp, ?_⟩
      rw [show PyData.eqv (.list ds3) (.list ds3) = true from F15.d.self]
      refine ⟨false, rfl, iteF ?_⟩
      have A15 := A14.ext F15.e F15.t
      have hq15 := F15.e _ _ hq14 (fun _ z => nomatch z)
      have he15 := EntsV.ext F15.e he14
      refine ⟨_, rfl, _, rfl, _, rfl, q, us, rfl, .inl ⟨SqL.of hq15, fun tb ntb => ?_⟩⟩
      have t16 := Same_new (o := .tup us) ntb
      refine fun x dx nx nd' ne => sum_mk (u := .ref tb) ⟨tb, us, rfl, upd_same, he15.mono t16⟩ hv nx nd' ne fun H16 s16 hs16 => eq_sum T ((A15.s.mono t16).mono s16) hs16 ?_
      rw [decide_eq_true rfl, decide_eq_true rfl]
      exact ⟨true, rfl, kq _ (F15.e.trans (.of (t16.trans s16)))⟩
    have hk15 := A14.k.ext x15
    have ho15 := hk14.ext x15
    obtain ⟨qk, dk, uk, ek, hqk, _, _⟩ := id hk15
    cases ek
    obtain ⟨q3, d3, u3, e3, hq3, _, _⟩ := id ho15
    cases e3
    have es1 : (((st ++ [ke]).length : Nat) : Int) - 1 = n := by rw [List.length_append, List.length_singleton]; omega
    have es2 : ((st.length : Nat) : Int) - 1 = n - 1 := by omega
    refine ⟨_, rfl, xk, dk, _, rfl, hqk, _, pk, l, _, rfl, hk15, _, rfl, rfl, ?_⟩
    rw [es1, decide_eq_true rfl]
    refine ⟨true, rfl, iteT ?_⟩
    refine ⟨_, rfl, q2, d3, _, rfl, hq3, _, pk, l2, _, rfl, ho15, _, rfl, _, _, rfl, rfl, rfl, ?_⟩
    rw [es2, decide_eq_true rfl]
    exact k _
-- @prem law law  : D__law_mix D__law_next m_sorted m_range m_len m_min m_max TK DKS T DS m_tuple DK_see D__law_answers DK_copy DK_undo DQ DKM
end
end SR

set_option Elab.async false
set_option linter.all false
set_option maxRecDepth 100000
set_option maxHeartbeats 4000000
namespace SR
open PySem PySem.Spec PyProof.Rows L2
theorem kit_no {K : PySem.W.Frag} {C : Addr} {T : String} (h1 : PySem.W.isClsIn K C = true) (h2 : PySem.W.typeIn K (.ref C) = some (.type "type")) (h3 : PySem.W.subIn K (.type T) (.ref C) = some false) : PySem.W.kitOne K (.type T) (.ref C) = some false := by
  have h1' : (PySem.W.clsIn K C).isSome = true := h1
  have e1 : ((PySem.W.clsIn K C).isSome && PySem.W.typeIn K (.ref C) == some (.type "type")) = true := by rw [h1', h2] <;> rfl
  show (if (Value.type T == Value.ref C) = true then some true else (if ((PySem.W.clsIn K C).isSome && PySem.W.typeIn K (.ref C) == some (.type "type")) = true then PySem.W.subIn K (.type T) (.ref C) else none)) = some false
  rw [show (Value.type T == Value.ref C) = false from rfl, if_neg Bool.false_ne_true, if_pos e1]
  exact h3
open PySem.HandSPX PySem.W PySem.Calls in
theorem exm_b {K : PySem.W.Frag} {A S : Addr} {b : Bool} (h1 : PySem.W.subIn K (.ref S) (.type "BaseException") = some true) (h2 : PySem.W.isClsIn K S = true) (h3 : PySem.W.typeIn K (.ref S) = some (.type "type")) (h4 : PySem.W.subIn K (.ref A) (.ref S) = some b) : PySem.W.exmOne K (.ref A) (.ref S) = some b := by
  have e1 : (PySem.W.subIn K (.ref S) (.type "BaseException") == some true) = true := by rw [h1] <;> rfl
  have e2 : ((PySem.W.clsIn K S).isSome && PySem.W.typeIn K (.ref S) == some (.type "type")) = true := by
    have h2' : (PySem.W.clsIn K S).isSome = true := h2
    rw [h2', h3] <;> rfl
  show (if (PySem.W.subIn K (.ref S) (.type "BaseException") == some true) = true then (if ((PySem.W.clsIn K S).isSome && PySem.W.typeIn K (.ref S) == some (.type "type")) = true then PySem.W.subIn K (.ref A) (.ref S) else none) else none) = some b
  rw [if_pos e1, if_pos e2]
  exact h4
set_option maxHeartbeats 16000000 in
open PySem.HandSPX PySem.W PySem.Calls in
theorem all_mk {l : PySem.W.OpenLaw} {w : World} {K : PySem.W.Frag} {h : Heap} {mg : Str → Option Value} {fa C cL PL f_Sinit p_Smany f_Smany p_Sentries f_Sentries f_Slen f_Seq CK f_Kinit p_Kmany f_Kmany p_Kentries f_Kentries f_Ksee f_Kanswer f_Kundo f_Kcopy f_Klen f_Rinit C_NoRow C_Full C_BadCount C_TooLong C_NoEntry C_BadIndex C_BadParts C_BadValue C_BadRank C_InvalidText f_XInvalidText f_is_integer f_is_between f_is_value f__is_entry f__check_entries f_check_summary f__least_ranks f__greatest_ranks f_tightened f_surely_tightened f__with_entries f_check_rank f__errors f_best_index f__peaks f_answer f_error_at f_worst f__check_value f__many_below f_values_at f_below f_up_to f_check_short f_surely_short f_filled f_row_for f__check_row f__have_places f_leaves f__check_ranks f_kept_from f__keeps f_fewest f_without f__raised f__check_room f_check_value f_entries_with f_put_in f_joined f__first_to_leave_out f__thinned f__words f__number f__number_at f__check_end f__read_count f__read_entry f_write_summary f_read_summary f__law_mix f__law_next f__law_answers f_law : Addr} {oc_Sinit kV_Sinit dc_Sinit pm_Sinit cd_Sinit ct_Sinit oc_Smany kV_Smany dc_Smany pm_Smany cd_Smany ct_Smany oc_Sentries kV_Sentries dc_Sentries pm_Sentries cd_Sentries ct_Sentries oc_Slen kV_Slen dc_Slen pm_Slen cd_Slen ct_Slen oc_Seq kV_Seq dc_Seq pm_Seq cd_Seq ct_Seq oc_Kinit kV_Kinit dc_Kinit pm_Kinit cd_Kinit ct_Kinit oc_Kmany kV_Kmany dc_Kmany pm_Kmany cd_Kmany ct_Kmany oc_Kentries kV_Kentries dc_Kentries pm_Kentries cd_Kentries ct_Kentries oc_Ksee kV_Ksee dc_Ksee pm_Ksee cd_Ksee ct_Ksee oc_Kanswer kV_Kanswer dc_Kanswer pm_Kanswer cd_Kanswer ct_Kanswer oc_Kundo kV_Kundo dc_Kundo pm_Kundo cd_Kundo ct_Kundo oc_Kcopy kV_Kcopy dc_Kcopy pm_Kcopy cd_Kcopy ct_Kcopy oc_Klen kV_Klen dc_Klen pm_Klen cd_Klen ct_Klen oc_Rinit kV_Rinit dc_Rinit pm_Rinit cd_Rinit ct_Rinit oc_XInvalidText kV_XInvalidText dc_XInvalidText pm_XInvalidText cd_XInvalidText ct_XInvalidText oc_is_integer kV_is_integer dc_is_integer pm_is_integer cd_is_integer ct_is_integer oc_is_between kV_is_between dc_is_between pm_is_between cd_is_between ct_is_between oc_is_value kV_is_value dc_is_value pm_is_value cd_is_value ct_is_value oc__is_entry kV__is_entry dc__is_entry pm__is_entry cd__is_entry ct__is_entry oc__check_entries kV__check_entries dc__check_entries pm__check_entries cd__check_entries ct__check_entries oc_check_summary kV_check_summary dc_check_summary pm_check_summary cd_check_summary ct_check_summary oc__least_ranks kV__least_ranks dc__least_ranks pm__least_ranks cd__least_ranks ct__least_ranks oc__greatest_ranks kV__greatest_ranks dc__greatest_ranks pm__greatest_ranks cd__greatest_ranks ct__greatest_ranks oc_tightened kV_tightened dc_tightened pm_tightened cd_tightened ct_tightened oc_surely_tightened kV_surely_tightened dc_surely_tightened pm_surely_tightened cd_surely_tightened ct_surely_tightened oc__with_entries kV__with_entries dc__with_entries pm__with_entries cd__with_entries ct__with_entries oc_check_rank kV_check_rank dc_check_rank pm_check_rank cd_check_rank ct_check_rank oc__errors kV__errors dc__errors pm__errors cd__errors ct__errors oc_best_index kV_best_index dc_best_index pm_best_index cd_best_index ct_best_index oc__peaks kV__peaks dc__peaks pm__peaks cd__peaks ct__peaks oc_answer kV_answer dc_answer pm_answer cd_answer ct_answer oc_error_at kV_error_at dc_error_at pm_error_at cd_error_at ct_error_at oc_worst kV_worst dc_worst pm_worst cd_worst ct_worst oc__check_value kV__check_value dc__check_value pm__check_value cd__check_value ct__check_value oc__many_below kV__many_below dc__many_below pm__many_below cd__many_below ct__many_below oc_values_at kV_values_at dc_values_at pm_values_at cd_values_at ct_values_at oc_below kV_below dc_below pm_below cd_below ct_below oc_up_to kV_up_to dc_up_to pm_up_to cd_up_to ct_up_to oc_check_short kV_check_short dc_check_short pm_check_short cd_check_short ct_check_short oc_surely_short kV_surely_short dc_surely_short pm_surely_short cd_surely_short ct_surely_short oc_filled kV_filled dc_filled pm_filled cd_filled ct_filled oc_row_for kV_row_for dc_row_for pm_row_for cd_row_for ct_row_for oc__check_row kV__check_row dc__check_row pm__check_row cd__check_row ct__check_row oc__have_places kV__have_places dc__have_places pm__have_places cd__have_places ct__have_places oc_leaves kV_leaves dc_leaves pm_leaves cd_leaves ct_leaves oc__check_ranks kV__check_ranks dc__check_ranks pm__check_ranks cd__check_ranks ct__check_ranks oc_kept_from kV_kept_from dc_kept_from pm_kept_from cd_kept_from ct_kept_from oc__keeps kV__keeps dc__keeps pm__keeps cd__keeps ct__keeps oc_fewest kV_fewest dc_fewest pm_fewest cd_fewest ct_fewest oc_without kV_without dc_without pm_without cd_without ct_without oc__raised kV__raised dc__raised pm__raised cd__raised ct__raised oc__check_room kV__check_room dc__check_room pm__check_room cd__check_room ct__check_room oc_check_value kV_check_value dc_check_value pm_check_value cd_check_value ct_check_value oc_entries_with kV_entries_with dc_entries_with pm_entries_with cd_entries_with ct_entries_with oc_put_in kV_put_in dc_put_in pm_put_in cd_put_in ct_put_in oc_joined kV_joined dc_joined pm_joined cd_joined ct_joined oc__first_to_leave_out kV__first_to_leave_out dc__first_to_leave_out pm__first_to_leave_out cd__first_to_leave_out ct__first_to_leave_out oc__thinned kV__thinned dc__thinned pm__thinned cd__thinned ct__thinned oc__words kV__words dc__words pm__words cd__words ct__words oc__number kV__number dc__number pm__number cd__number ct__number oc__number_at kV__number_at dc__number_at pm__number_at cd__number_at ct__number_at oc__check_end kV__check_end dc__check_end pm__check_end cd__check_end ct__check_end oc__read_count kV__read_count dc__read_count pm__read_count cd__read_count ct__read_count oc__read_entry kV__read_entry dc__read_entry pm__read_entry cd__read_entry ct__read_entry oc_write_summary kV_write_summary dc_write_summary pm_write_summary cd_write_summary ct_write_summary oc_read_summary kV_read_summary dc_read_summary pm_read_summary cd_read_summary ct_read_summary oc__law_mix kV__law_mix dc__law_mix pm__law_mix cd__law_mix ct__law_mix oc__law_next kV__law_next dc__law_next pm__law_next cd__law_next ct__law_next oc__law_answers kV__law_answers dc__law_answers pm__law_answers cd__law_answers ct__law_answers oc_law kV_law dc_law pm_law cd_law ct_law : Value} {od_Sinit an_Sinit od_Smany an_Smany od_Sentries an_Sentries od_Slen an_Slen od_Seq an_Seq od_Kinit an_Kinit od_Kmany an_Kmany od_Kentries an_Kentries od_Ksee an_Ksee od_Kanswer an_Kanswer od_Kundo an_Kundo od_Kcopy an_Kcopy od_Klen an_Klen od_Rinit an_Rinit od_XInvalidText an_XInvalidText od_is_integer an_is_integer od_is_between an_is_between od_is_value an_is_value od__is_entry an__is_entry od__check_entries an__check_entries od_check_summary an_check_summary od__least_ranks an__least_ranks od__greatest_ranks an__greatest_ranks od_tightened an_tightened od_surely_tightened an_surely_tightened od__with_entries an__with_entries od_check_rank an_check_rank od__errors an__errors od_best_index an_best_index od__peaks an__peaks od_answer an_answer od_error_at an_error_at od_worst an_worst od__check_value an__check_value od__many_below an__many_below od_values_at an_values_at od_below an_below od_up_to an_up_to od_check_short an_check_short od_surely_short an_surely_short od_filled an_filled od_row_for an_row_for od__check_row an__check_row od__have_places an__have_places od_leaves an_leaves od__check_ranks an__check_ranks od_kept_from an_kept_from od__keeps an__keeps od_fewest an_fewest od_without an_without od__raised an__raised od__check_room an__check_room od_check_value an_check_value od_entries_with an_entries_with od_put_in an_put_in od_joined an_joined od__first_to_leave_out an__first_to_leave_out od__thinned an__thinned od__words an__words od__number an__number od__number_at an__number_at od__check_end an__check_end od__read_count an__read_count od__read_entry an__read_entry od_write_summary an_write_summary od_read_summary an_read_summary od__law_mix an__law_mix od__law_next an__law_next od__law_answers an__law_answers od_law an_law : Option Addr} {sl_Sinit sl_Smany sl_Sentries sl_Slen sl_Seq sl_Kinit sl_Kmany sl_Kentries sl_Ksee sl_Kanswer sl_Kundo sl_Kcopy sl_Klen sl_Rinit sl_XInvalidText sl_is_integer sl_is_between sl_is_value sl__is_entry sl__check_entries sl_check_summary sl__least_ranks sl__greatest_ranks sl_tightened sl_surely_tightened sl__with_entries sl_check_rank sl__errors sl_best_index sl__peaks sl_answer sl_error_at sl_worst sl__check_value sl__many_below sl_values_at sl_below sl_up_to sl_check_short sl_surely_short sl_filled sl_row_for sl__check_row sl__have_places sl_leaves sl__check_ranks sl_kept_from sl__keeps sl_fewest sl_without sl__raised sl__check_room sl_check_value sl_entries_with sl_put_in sl_joined sl__first_to_leave_out sl__thinned sl__words sl__number sl__number_at sl__check_end sl__read_count sl__read_entry sl_write_summary sl_read_summary sl__law_mix sl__law_next sl__law_answers sl_law : Array (Option Value)} {v_GREATEST_COUNT v_GREATEST_VALUE v_MOST_ENTRIES v_MOST_NUMBERS v_MOST_DIGITS v_LEAST_PARTS v_MOST_PARTS v_MOST_KEPT v_MOST_SEEN : Int} {t_GREATEST_COUNT t_GREATEST_VALUE t_MOST_ENTRIES t_MOST_NUMBERS t_MOST_DIGITS t_LEAST_PARTS t_MOST_PARTS t_MOST_KEPT t_MOST_SEEN : Tok} {rs_Smany rs_Sentries rs_Kmany rs_Kentries : List Value} {C_RankError : Addr} {nm_NoRow q_NoRow : Str} {N_NoRow : Addr} {bs_NoRow sub_NoRow : List Value} {sn_NoRow : List Str} {ab_NoRow : Bool} {col_NoRow : Option Bool} {dd_NoRow : Option Addr} {j0_NoRow j1_NoRow j2_NoRow j3_NoRow j5_NoRow : Option Value} {nm_Full q_Full : Str} {N_Full : Addr} {bs_Full sub_Full : List Value} {sn_Full : List Str} {ab_Full : Bool} {col_Full : Option Bool} {dd_Full : Option Addr} {j0_Full j1_Full j2_Full j3_Full j5_Full : Option Value} {nm_BadCount q_BadCount : Str} {N_BadCount : Addr} {bs_BadCount sub_BadCount : List Value} {sn_BadCount : List Str} {ab_BadCount : Bool} {col_BadCount : Option Bool} {dd_BadCount : Option Addr} {j0_BadCount j1_BadCount j2_BadCount j3_BadCount j5_BadCount : Option Value} {nm_TooLong q_TooLong : Str} {N_TooLong : Addr} {bs_TooLong sub_TooLong : List Value} {sn_TooLong : List Str} {ab_TooLong : Bool} {col_TooLong : Option Bool} {dd_TooLong : Option Addr} {j0_TooLong j1_TooLong j2_TooLong j3_TooLong j5_TooLong : Option Value} {nm_NoEntry q_NoEntry : Str} {N_NoEntry : Addr} {bs_NoEntry sub_NoEntry : List Value} {sn_NoEntry : List Str} {ab_NoEntry : Bool} {col_NoEntry : Option Bool} {dd_NoEntry : Option Addr} {j0_NoEntry j1_NoEntry j2_NoEntry j3_NoEntry j5_NoEntry : Option Value} {nm_BadIndex q_BadIndex : Str} {N_BadIndex : Addr} {bs_BadIndex sub_BadIndex : List Value} {sn_BadIndex : List Str} {ab_BadIndex : Bool} {col_BadIndex : Option Bool} {dd_BadIndex : Option Addr} {j0_BadIndex j1_BadIndex j2_BadIndex j3_BadIndex j5_BadIndex : Option Value} {nm_BadParts q_BadParts : Str} {N_BadParts : Addr} {bs_BadParts sub_BadParts : List Value} {sn_BadParts : List Str} {ab_BadParts : Bool} {col_BadParts : Option Bool} {dd_BadParts : Option Addr} {j0_BadParts j1_BadParts j2_BadParts j3_BadParts j5_BadParts : Option Value} {nm_BadValue q_BadValue : Str} {N_BadValue : Addr} {bs_BadValue sub_BadValue : List Value} {sn_BadValue : List Str} {ab_BadValue : Bool} {col_BadValue : Option Bool} {dd_BadValue : Option Addr} {j0_BadValue j1_BadValue j2_BadValue j3_BadValue j5_BadValue : Option Value} {nm_BadRank q_BadRank : Str} {N_BadRank : Addr} {bs_BadRank sub_BadRank : List Value} {sn_BadRank : List Str} {ab_BadRank : Bool} {col_BadRank : Option Bool} {dd_BadRank : Option Addr} {j0_BadRank j1_BadRank j2_BadRank j3_BadRank j5_BadRank : Option Value} {nm_InvalidText q_InvalidText : Str} {N_InvalidText : Addr} {bs_InvalidText sub_InvalidText : List Value} {sn_InvalidText : List Str} {ab_InvalidText : Bool} {col_InvalidText : Option Bool} {dd_InvalidText : Option Addr} {j0_InvalidText j1_InvalidText j2_InvalidText j3_InvalidText j5_InvalidText : Option Value}
    (X : K.In h) (G : h.Ns mainGlobals mg) (hfa : mg "law" = some (.ref fa))
    (z_isinstance : PySem.W.nsIn K mainGlobals "isinstance" = some none)
    (z_int : PySem.W.nsIn K mainGlobals "int" = some none)
    (z_bool : PySem.W.nsIn K mainGlobals "bool" = some none)
    (z_tuple : PySem.W.nsIn K mainGlobals "tuple" = some none)
    (z_len : PySem.W.nsIn K mainGlobals "len" = some none)
    (z_enumerate : PySem.W.nsIn K mainGlobals "enumerate" = some none)
    (z_max : PySem.W.nsIn K mainGlobals "max" = some none)
    (z_min : PySem.W.nsIn K mainGlobals "min" = some none)
    (z_reversed : PySem.W.nsIn K mainGlobals "reversed" = some none)
    (z_zip : PySem.W.nsIn K mainGlobals "zip" = some none)
    (z_list : PySem.W.nsIn K mainGlobals "list" = some none)
    (z_sorted : PySem.W.nsIn K mainGlobals "sorted" = some none)
    (z_range : PySem.W.nsIn K mainGlobals "range" = some none)
    (z_all : PySem.W.nsIn K mainGlobals "all" = some none)
    (z_str : PySem.W.nsIn K mainGlobals "str" = some none)
    (z_abs : PySem.W.nsIn K mainGlobals "abs" = some none)
    (t_tab : PySem.W.tabIn K "joined" = some (cL, PL))
    (hcd : PySem.W.codeHdIn K cL PL = true)
    (nPL : K.lookup PL = none)
    (hPt : h.get? PL = some { cls := .none, data := .fields #[] })
    (g_combinations : PySem.W.nsIn K mainGlobals "combinations" = some (some (.type "itertools.combinations")))
    (g_GREATEST_COUNT : PySem.W.nsIn K mainGlobals "GREATEST_COUNT" = some (some (.int v_GREATEST_COUNT t_GREATEST_COUNT)))
    (e_GREATEST_COUNT : v_GREATEST_COUNT = 10 ^ 30)
    (g_GREATEST_VALUE : PySem.W.nsIn K mainGlobals "GREATEST_VALUE" = some (some (.int v_GREATEST_VALUE t_GREATEST_VALUE)))
    (e_GREATEST_VALUE : v_GREATEST_VALUE = 10 ^ 30)
    (g_MOST_ENTRIES : PySem.W.nsIn K mainGlobals "MOST_ENTRIES" = some (some (.int v_MOST_ENTRIES t_MOST_ENTRIES)))
    (e_MOST_ENTRIES : v_MOST_ENTRIES = 12)
    (g_MOST_NUMBERS : PySem.W.nsIn K mainGlobals "MOST_NUMBERS" = some (some (.int v_MOST_NUMBERS t_MOST_NUMBERS)))
    (e_MOST_NUMBERS : v_MOST_NUMBERS = 40)
    (g_MOST_DIGITS : PySem.W.nsIn K mainGlobals "MOST_DIGITS" = some (some (.int v_MOST_DIGITS t_MOST_DIGITS)))
    (e_MOST_DIGITS : v_MOST_DIGITS = 31)
    (g_LEAST_PARTS : PySem.W.nsIn K mainGlobals "LEAST_PARTS" = some (some (.int v_LEAST_PARTS t_LEAST_PARTS)))
    (e_LEAST_PARTS : v_LEAST_PARTS = 2)
    (g_MOST_PARTS : PySem.W.nsIn K mainGlobals "MOST_PARTS" = some (some (.int v_MOST_PARTS t_MOST_PARTS)))
    (e_MOST_PARTS : v_MOST_PARTS = 20)
    (g_MOST_KEPT : PySem.W.nsIn K mainGlobals "MOST_KEPT" = some (some (.int v_MOST_KEPT t_MOST_KEPT)))
    (e_MOST_KEPT : v_MOST_KEPT = 40)
    (g_MOST_SEEN : PySem.W.nsIn K mainGlobals "MOST_SEEN" = some (some (.int v_MOST_SEEN t_MOST_SEEN)))
    (e_MOST_SEEN : v_MOST_SEEN = 200)
    (aC : PySem.W.nsIn K mainGlobals "Summary" = some (some (.ref C)))
    (a_Sinit : PySem.W.findIn K (.ref C) "__init__" = some (some (.ref f_Sinit)))
    (i_Sinit : PySem.W.isFn K (.ref f_Sinit) = true)
    (l_Sinit : K.lookup f_Sinit = some ⟨oc_Sinit, od_Sinit, .func (PySem.W.fnOf "__init__" "Summary.__init__" (defArgs s_Summary_init) (defBody s_Summary_init) (defScope s_Summary_init) .none kV_Sinit dc_Sinit pm_Sinit an_Sinit cd_Sinit ct_Sinit), sl_Sinit⟩)
    (c_Sinit : PySem.W.codeIn K cd_Sinit "Summary.__init__" = true)
    (k_Sinit : PySem.W.keepIn K (.ref f_Sinit) = true)
    (a_Smany : PySem.W.findIn K (.ref C) "many" = some (some (.ref p_Smany)))
    (q_Smany : PySem.W.specialIn K (.ref p_Smany) "__get__" = some (some (.builtin "property.__get__")))
    (t_Smany : PySem.W.takesIn K (.ref p_Smany) = some true)
    (r_Smany : PySem.W.recIn K p_Smany "property" = some (.ref f_Smany :: rs_Smany))
    (l_Smany : K.lookup f_Smany = some ⟨oc_Smany, od_Smany, .func (PySem.W.fnOf "many" "Summary.many" (defArgs s_Summary_many) (defBody s_Summary_many) (defScope s_Summary_many) .none kV_Smany dc_Smany pm_Smany an_Smany cd_Smany ct_Smany), sl_Smany⟩)
    (c_Smany : PySem.W.codeIn K cd_Smany "Summary.many" = true)
    (k_Smany : PySem.W.keepIn K (.ref f_Smany) = true)
    (a_Sentries : PySem.W.findIn K (.ref C) "entries" = some (some (.ref p_Sentries)))
    (q_Sentries : PySem.W.specialIn K (.ref p_Sentries) "__get__" = some (some (.builtin "property.__get__")))
    (t_Sentries : PySem.W.takesIn K (.ref p_Sentries) = some true)
    (r_Sentries : PySem.W.recIn K p_Sentries "property" = some (.ref f_Sentries :: rs_Sentries))
    (l_Sentries : K.lookup f_Sentries = some ⟨oc_Sentries, od_Sentries, .func (PySem.W.fnOf "entries" "Summary.entries" (defArgs s_Summary_entries) (defBody s_Summary_entries) (defScope s_Summary_entries) .none kV_Sentries dc_Sentries pm_Sentries an_Sentries cd_Sentries ct_Sentries), sl_Sentries⟩)
    (c_Sentries : PySem.W.codeIn K cd_Sentries "Summary.entries" = true)
    (k_Sentries : PySem.W.keepIn K (.ref f_Sentries) = true)
    (a_Slen : PySem.W.findIn K (.ref C) "__len__" = some (some (.ref f_Slen)))
    (i_Slen : PySem.W.isFn K (.ref f_Slen) = true)
    (l_Slen : K.lookup f_Slen = some ⟨oc_Slen, od_Slen, .func (PySem.W.fnOf "__len__" "Summary.__len__" (defArgs s_Summary_len) (defBody s_Summary_len) (defScope s_Summary_len) .none kV_Slen dc_Slen pm_Slen an_Slen cd_Slen ct_Slen), sl_Slen⟩)
    (c_Slen : PySem.W.codeIn K cd_Slen "Summary.__len__" = true)
    (k_Slen : PySem.W.keepIn K (.ref f_Slen) = true)
    (a_Seq : PySem.W.findIn K (.ref C) "__eq__" = some (some (.ref f_Seq)))
    (i_Seq : PySem.W.isFn K (.ref f_Seq) = true)
    (l_Seq : K.lookup f_Seq = some ⟨oc_Seq, od_Seq, .func (PySem.W.fnOf "__eq__" "Summary.__eq__" (defArgs s_Summary_eq) (defBody s_Summary_eq) (defScope s_Summary_eq) .none kV_Seq dc_Seq pm_Seq an_Seq cd_Seq ct_Seq), sl_Seq⟩)
    (c_Seq : PySem.W.codeIn K cd_Seq "Summary.__eq__" = true)
    (k_Seq : PySem.W.keepIn K (.ref f_Seq) = true)
    (pg : PySem.W.plainGet K C Str.empty = true)
    (hd : PySem.W.hasDictIn K C = true)
    (po : PySem.W.plainOver K C = true)
    (sa : PySem.W.findIn K (.ref C) "__setattr__" = some (some (.builtin "object.__setattr__")))
    (mk : PySem.W.makesIn K C = true)
    (kc : PySem.W.keepIn K (.ref C) = true)
    (ha : PySem.W.findIn K (.ref C) "__class__" = some (some (.builtin "object.__class__")))
    (hn : PySem.W.specialIn K (.builtin "object.__class__") "__get__" = some (some (.builtin "getset_descriptor.__get__")))
    (htk : PySem.W.takesIn K (.builtin "object.__class__") = some true)
    (hm : PySem.W.mroIn K C (.type "object") = some true)
    (nM : PySem.W.findIn K (.ref C) "_many" = some none)
    (nE : PySem.W.findIn K (.ref C) "_entries" = some none)
    (ic : PySem.W.isClsIn K C = true)
    (ty : PySem.W.typeIn K (.ref C) = some (.type "type"))
    (st : PySem.W.subIn K (.type "tuple") (.ref C) = some false)
    (nf1 : PySem.W.notFirst K C (.ref C) = true)
    (nf2 : PySem.W.notFirst K C (.type "tuple") = true)
    (aCK : PySem.W.nsIn K mainGlobals "Keeper" = some (some (.ref CK)))
    (a_Kinit : PySem.W.findIn K (.ref CK) "__init__" = some (some (.ref f_Kinit)))
    (i_Kinit : PySem.W.isFn K (.ref f_Kinit) = true)
    (l_Kinit : K.lookup f_Kinit = some ⟨oc_Kinit, od_Kinit, .func (PySem.W.fnOf "__init__" "Keeper.__init__" (defArgs s_Keeper_init) (defBody s_Keeper_init) (defScope s_Keeper_init) .none kV_Kinit dc_Kinit pm_Kinit an_Kinit cd_Kinit ct_Kinit), sl_Kinit⟩)
    (c_Kinit : PySem.W.codeIn K cd_Kinit "Keeper.__init__" = true)
    (k_Kinit : PySem.W.keepIn K (.ref f_Kinit) = true)
    (a_Kmany : PySem.W.findIn K (.ref CK) "many" = some (some (.ref p_Kmany)))
    (q_Kmany : PySem.W.specialIn K (.ref p_Kmany) "__get__" = some (some (.builtin "property.__get__")))
    (t_Kmany : PySem.W.takesIn K (.ref p_Kmany) = some true)
    (r_Kmany : PySem.W.recIn K p_Kmany "property" = some (.ref f_Kmany :: rs_Kmany))
    (l_Kmany : K.lookup f_Kmany = some ⟨oc_Kmany, od_Kmany, .func (PySem.W.fnOf "many" "Keeper.many" (defArgs s_Keeper_many) (defBody s_Keeper_many) (defScope s_Keeper_many) .none kV_Kmany dc_Kmany pm_Kmany an_Kmany cd_Kmany ct_Kmany), sl_Kmany⟩)
    (c_Kmany : PySem.W.codeIn K cd_Kmany "Keeper.many" = true)
    (k_Kmany : PySem.W.keepIn K (.ref f_Kmany) = true)
    (a_Kentries : PySem.W.findIn K (.ref CK) "entries" = some (some (.ref p_Kentries)))
    (q_Kentries : PySem.W.specialIn K (.ref p_Kentries) "__get__" = some (some (.builtin "property.__get__")))
    (t_Kentries : PySem.W.takesIn K (.ref p_Kentries) = some true)
    (r_Kentries : PySem.W.recIn K p_Kentries "property" = some (.ref f_Kentries :: rs_Kentries))
    (l_Kentries : K.lookup f_Kentries = some ⟨oc_Kentries, od_Kentries, .func (PySem.W.fnOf "entries" "Keeper.entries" (defArgs s_Keeper_entries) (defBody s_Keeper_entries) (defScope s_Keeper_entries) .none kV_Kentries dc_Kentries pm_Kentries an_Kentries cd_Kentries ct_Kentries), sl_Kentries⟩)
    (c_Kentries : PySem.W.codeIn K cd_Kentries "Keeper.entries" = true)
    (k_Kentries : PySem.W.keepIn K (.ref f_Kentries) = true)
    (a_Ksee : PySem.W.findIn K (.ref CK) "see" = some (some (.ref f_Ksee)))
    (i_Ksee : PySem.W.isFn K (.ref f_Ksee) = true)
    (l_Ksee : K.lookup f_Ksee = some ⟨oc_Ksee, od_Ksee, .func (PySem.W.fnOf "see" "Keeper.see" (defArgs s_Keeper_see) (defBody s_Keeper_see) (defScope s_Keeper_see) .none kV_Ksee dc_Ksee pm_Ksee an_Ksee cd_Ksee ct_Ksee), sl_Ksee⟩)
    (c_Ksee : PySem.W.codeIn K cd_Ksee "Keeper.see" = true)
    (k_Ksee : PySem.W.keepIn K (.ref f_Ksee) = true)
    (a_Kanswer : PySem.W.findIn K (.ref CK) "answer" = some (some (.ref f_Kanswer)))
    (i_Kanswer : PySem.W.isFn K (.ref f_Kanswer) = true)
    (l_Kanswer : K.lookup f_Kanswer = some ⟨oc_Kanswer, od_Kanswer, .func (PySem.W.fnOf "answer" "Keeper.answer" (defArgs s_Keeper_answer) (defBody s_Keeper_answer) (defScope s_Keeper_answer) .none kV_Kanswer dc_Kanswer pm_Kanswer an_Kanswer cd_Kanswer ct_Kanswer), sl_Kanswer⟩)
    (c_Kanswer : PySem.W.codeIn K cd_Kanswer "Keeper.answer" = true)
    (k_Kanswer : PySem.W.keepIn K (.ref f_Kanswer) = true)
    (a_Kundo : PySem.W.findIn K (.ref CK) "undo" = some (some (.ref f_Kundo)))
    (i_Kundo : PySem.W.isFn K (.ref f_Kundo) = true)
    (l_Kundo : K.lookup f_Kundo = some ⟨oc_Kundo, od_Kundo, .func (PySem.W.fnOf "undo" "Keeper.undo" (defArgs s_Keeper_undo) (defBody s_Keeper_undo) (defScope s_Keeper_undo) .none kV_Kundo dc_Kundo pm_Kundo an_Kundo cd_Kundo ct_Kundo), sl_Kundo⟩)
    (c_Kundo : PySem.W.codeIn K cd_Kundo "Keeper.undo" = true)
    (k_Kundo : PySem.W.keepIn K (.ref f_Kundo) = true)
    (a_Kcopy : PySem.W.findIn K (.ref CK) "copy" = some (some (.ref f_Kcopy)))
    (i_Kcopy : PySem.W.isFn K (.ref f_Kcopy) = true)
    (l_Kcopy : K.lookup f_Kcopy = some ⟨oc_Kcopy, od_Kcopy, .func (PySem.W.fnOf "copy" "Keeper.copy" (defArgs s_Keeper_copy) (defBody s_Keeper_copy) (defScope s_Keeper_copy) .none kV_Kcopy dc_Kcopy pm_Kcopy an_Kcopy cd_Kcopy ct_Kcopy), sl_Kcopy⟩)
    (c_Kcopy : PySem.W.codeIn K cd_Kcopy "Keeper.copy" = true)
    (k_Kcopy : PySem.W.keepIn K (.ref f_Kcopy) = true)
    (a_Klen : PySem.W.findIn K (.ref CK) "__len__" = some (some (.ref f_Klen)))
    (i_Klen : PySem.W.isFn K (.ref f_Klen) = true)
    (l_Klen : K.lookup f_Klen = some ⟨oc_Klen, od_Klen, .func (PySem.W.fnOf "__len__" "Keeper.__len__" (defArgs s_Keeper_len) (defBody s_Keeper_len) (defScope s_Keeper_len) .none kV_Klen dc_Klen pm_Klen an_Klen cd_Klen ct_Klen), sl_Klen⟩)
    (c_Klen : PySem.W.codeIn K cd_Klen "Keeper.__len__" = true)
    (k_Klen : PySem.W.keepIn K (.ref f_Klen) = true)
    (pgK : PySem.W.plainGet K CK Str.empty = true)
    (hdK : PySem.W.hasDictIn K CK = true)
    (poK : PySem.W.plainOver K CK = true)
    (saK : PySem.W.findIn K (.ref CK) "__setattr__" = some (some (.builtin "object.__setattr__")))
    (mkK : PySem.W.makesIn K CK = true)
    (kcK : PySem.W.keepIn K (.ref CK) = true)
    (nPK : PySem.W.findIn K (.ref CK) "_parts" = some none)
    (nSK : PySem.W.findIn K (.ref CK) "_stages" = some none)
    (g_NoRow : PySem.W.nsIn K mainGlobals "NoRow" = some (some (.ref C_NoRow)))
    (n_NoRow : PySem.W.findIn K (.ref C_NoRow) "__init__" = some (some (.ref f_Rinit)))
    (tf_R : PySem.W.typeIn K (.ref f_Rinit) = some (.type "function"))
    (l_Rinit : K.lookup f_Rinit = some ⟨oc_Rinit, od_Rinit, .func (PySem.W.fnOf "__init__" "RankError.__init__" (defArgs s_RankError_init) (defBody s_RankError_init) (defScope s_RankError_init) .none kV_Rinit dc_Rinit pm_Rinit an_Rinit cd_Rinit ct_Rinit), sl_Rinit⟩)
    (c_Rinit : PySem.W.codeIn K cd_Rinit "RankError.__init__" = true)
    (k_Rinit : PySem.W.keepIn K (.ref f_Rinit) = true)
    (o_NoRow : K.lookup C_NoRow = some (excClassObj nm_NoRow q_NoRow C_NoRow N_NoRow bs_NoRow [.ref C_RankError, .type "ValueError", .type "Exception", .type "BaseException", .type "object"] true sn_NoRow sub_NoRow ab_NoRow col_NoRow dd_NoRow j0_NoRow j1_NoRow j2_NoRow j3_NoRow j5_NoRow "ValueError.__new__"))
    (kp_NoRow : PySem.W.keepIn K (.ref C_NoRow) = true)
    (sb_NoRow : PySem.W.subIn K (.ref C_NoRow) (.type "BaseException") = some true)
    (ty_NoRow : PySem.W.typeIn K (.ref C_NoRow) = some (.type "type"))
    (ic_NoRow : PySem.W.isClsIn K C_NoRow = true)
    (ss_NoRow : PySem.W.subIn K (.ref C_NoRow) (.ref C_NoRow) = some true)
    (g_Full : PySem.W.nsIn K mainGlobals "Full" = some (some (.ref C_Full)))
    (o_Full : K.lookup C_Full = some (excClassObj nm_Full q_Full C_Full N_Full bs_Full [.ref C_RankError, .type "ValueError", .type "Exception", .type "BaseException", .type "object"] true sn_Full sub_Full ab_Full col_Full dd_Full j0_Full j1_Full j2_Full j3_Full j5_Full "ValueError.__new__"))
    (n_Full : PySem.W.findIn K (.ref C_Full) "__init__" = some (some (.ref f_Rinit)))
    (kp_Full : PySem.W.keepIn K (.ref C_Full) = true)
    (sb_Full : PySem.W.subIn K (.ref C_Full) (.type "BaseException") = some true)
    (ty_Full : PySem.W.typeIn K (.ref C_Full) = some (.type "type"))
    (ic_Full : PySem.W.isClsIn K C_Full = true)
    (ss_Full : PySem.W.subIn K (.ref C_Full) (.ref C_Full) = some true)
    (g_BadCount : PySem.W.nsIn K mainGlobals "BadCount" = some (some (.ref C_BadCount)))
    (o_BadCount : K.lookup C_BadCount = some (excClassObj nm_BadCount q_BadCount C_BadCount N_BadCount bs_BadCount [.ref C_RankError, .type "ValueError", .type "Exception", .type "BaseException", .type "object"] true sn_BadCount sub_BadCount ab_BadCount col_BadCount dd_BadCount j0_BadCount j1_BadCount j2_BadCount j3_BadCount j5_BadCount "ValueError.__new__"))
    (n_BadCount : PySem.W.findIn K (.ref C_BadCount) "__init__" = some (some (.ref f_Rinit)))
    (kp_BadCount : PySem.W.keepIn K (.ref C_BadCount) = true)
    (sb_BadCount : PySem.W.subIn K (.ref C_BadCount) (.type "BaseException") = some true)
    (ty_BadCount : PySem.W.typeIn K (.ref C_BadCount) = some (.type "type"))
    (ic_BadCount : PySem.W.isClsIn K C_BadCount = true)
    (ss_BadCount : PySem.W.subIn K (.ref C_BadCount) (.ref C_BadCount) = some true)
    (g_TooLong : PySem.W.nsIn K mainGlobals "TooLong" = some (some (.ref C_TooLong)))
    (o_TooLong : K.lookup C_TooLong = some (excClassObj nm_TooLong q_TooLong C_TooLong N_TooLong bs_TooLong [.ref C_RankError, .type "ValueError", .type "Exception", .type "BaseException", .type "object"] true sn_TooLong sub_TooLong ab_TooLong col_TooLong dd_TooLong j0_TooLong j1_TooLong j2_TooLong j3_TooLong j5_TooLong "ValueError.__new__"))
    (n_TooLong : PySem.W.findIn K (.ref C_TooLong) "__init__" = some (some (.ref f_Rinit)))
    (kp_TooLong : PySem.W.keepIn K (.ref C_TooLong) = true)
    (sb_TooLong : PySem.W.subIn K (.ref C_TooLong) (.type "BaseException") = some true)
    (ty_TooLong : PySem.W.typeIn K (.ref C_TooLong) = some (.type "type"))
    (ic_TooLong : PySem.W.isClsIn K C_TooLong = true)
    (ss_TooLong : PySem.W.subIn K (.ref C_TooLong) (.ref C_TooLong) = some true)
    (g_NoEntry : PySem.W.nsIn K mainGlobals "NoEntry" = some (some (.ref C_NoEntry)))
    (o_NoEntry : K.lookup C_NoEntry = some (excClassObj nm_NoEntry q_NoEntry C_NoEntry N_NoEntry bs_NoEntry [.ref C_RankError, .type "ValueError", .type "Exception", .type "BaseException", .type "object"] true sn_NoEntry sub_NoEntry ab_NoEntry col_NoEntry dd_NoEntry j0_NoEntry j1_NoEntry j2_NoEntry j3_NoEntry j5_NoEntry "ValueError.__new__"))
    (n_NoEntry : PySem.W.findIn K (.ref C_NoEntry) "__init__" = some (some (.ref f_Rinit)))
    (kp_NoEntry : PySem.W.keepIn K (.ref C_NoEntry) = true)
    (sb_NoEntry : PySem.W.subIn K (.ref C_NoEntry) (.type "BaseException") = some true)
    (ty_NoEntry : PySem.W.typeIn K (.ref C_NoEntry) = some (.type "type"))
    (ic_NoEntry : PySem.W.isClsIn K C_NoEntry = true)
    (ss_NoEntry : PySem.W.subIn K (.ref C_NoEntry) (.ref C_NoEntry) = some true)
    (g_BadIndex : PySem.W.nsIn K mainGlobals "BadIndex" = some (some (.ref C_BadIndex)))
    (o_BadIndex : K.lookup C_BadIndex = some (excClassObj nm_BadIndex q_BadIndex C_BadIndex N_BadIndex bs_BadIndex [.ref C_RankError, .type "ValueError", .type "Exception", .type "BaseException", .type "object"] true sn_BadIndex sub_BadIndex ab_BadIndex col_BadIndex dd_BadIndex j0_BadIndex j1_BadIndex j2_BadIndex j3_BadIndex j5_BadIndex "ValueError.__new__"))
    (n_BadIndex : PySem.W.findIn K (.ref C_BadIndex) "__init__" = some (some (.ref f_Rinit)))
    (kp_BadIndex : PySem.W.keepIn K (.ref C_BadIndex) = true)
    (sb_BadIndex : PySem.W.subIn K (.ref C_BadIndex) (.type "BaseException") = some true)
    (ty_BadIndex : PySem.W.typeIn K (.ref C_BadIndex) = some (.type "type"))
    (ic_BadIndex : PySem.W.isClsIn K C_BadIndex = true)
    (ss_BadIndex : PySem.W.subIn K (.ref C_BadIndex) (.ref C_BadIndex) = some true)
    (g_BadParts : PySem.W.nsIn K mainGlobals "BadParts" = some (some (.ref C_BadParts)))
    (o_BadParts : K.lookup C_BadParts = some (excClassObj nm_BadParts q_BadParts C_BadParts N_BadParts bs_BadParts [.ref C_RankError, .type "ValueError", .type "Exception", .type "BaseException", .type "object"] true sn_BadParts sub_BadParts ab_BadParts col_BadParts dd_BadParts j0_BadParts j1_BadParts j2_BadParts j3_BadParts j5_BadParts "ValueError.__new__"))
    (n_BadParts : PySem.W.findIn K (.ref C_BadParts) "__init__" = some (some (.ref f_Rinit)))
    (kp_BadParts : PySem.W.keepIn K (.ref C_BadParts) = true)
    (sb_BadParts : PySem.W.subIn K (.ref C_BadParts) (.type "BaseException") = some true)
    (ty_BadParts : PySem.W.typeIn K (.ref C_BadParts) = some (.type "type"))
    (ic_BadParts : PySem.W.isClsIn K C_BadParts = true)
    (ss_BadParts : PySem.W.subIn K (.ref C_BadParts) (.ref C_BadParts) = some true)
    (g_BadValue : PySem.W.nsIn K mainGlobals "BadValue" = some (some (.ref C_BadValue)))
    (o_BadValue : K.lookup C_BadValue = some (excClassObj nm_BadValue q_BadValue C_BadValue N_BadValue bs_BadValue [.ref C_RankError, .type "ValueError", .type "Exception", .type "BaseException", .type "object"] true sn_BadValue sub_BadValue ab_BadValue col_BadValue dd_BadValue j0_BadValue j1_BadValue j2_BadValue j3_BadValue j5_BadValue "ValueError.__new__"))
    (n_BadValue : PySem.W.findIn K (.ref C_BadValue) "__init__" = some (some (.ref f_Rinit)))
    (kp_BadValue : PySem.W.keepIn K (.ref C_BadValue) = true)
    (sb_BadValue : PySem.W.subIn K (.ref C_BadValue) (.type "BaseException") = some true)
    (ty_BadValue : PySem.W.typeIn K (.ref C_BadValue) = some (.type "type"))
    (ic_BadValue : PySem.W.isClsIn K C_BadValue = true)
    (ss_BadValue : PySem.W.subIn K (.ref C_BadValue) (.ref C_BadValue) = some true)
    (g_BadRank : PySem.W.nsIn K mainGlobals "BadRank" = some (some (.ref C_BadRank)))
    (o_BadRank : K.lookup C_BadRank = some (excClassObj nm_BadRank q_BadRank C_BadRank N_BadRank bs_BadRank [.ref C_RankError, .type "ValueError", .type "Exception", .type "BaseException", .type "object"] true sn_BadRank sub_BadRank ab_BadRank col_BadRank dd_BadRank j0_BadRank j1_BadRank j2_BadRank j3_BadRank j5_BadRank "ValueError.__new__"))
    (n_BadRank : PySem.W.findIn K (.ref C_BadRank) "__init__" = some (some (.ref f_Rinit)))
    (kp_BadRank : PySem.W.keepIn K (.ref C_BadRank) = true)
    (sb_BadRank : PySem.W.subIn K (.ref C_BadRank) (.type "BaseException") = some true)
    (ty_BadRank : PySem.W.typeIn K (.ref C_BadRank) = some (.type "type"))
    (ic_BadRank : PySem.W.isClsIn K C_BadRank = true)
    (ss_BadRank : PySem.W.subIn K (.ref C_BadRank) (.ref C_BadRank) = some true)
    (g_InvalidText : PySem.W.nsIn K mainGlobals "InvalidText" = some (some (.ref C_InvalidText)))
    (n_InvalidText : PySem.W.findIn K (.ref C_InvalidText) "__init__" = some (some (.ref f_XInvalidText)))
    (tf_InvalidText : PySem.W.typeIn K (.ref f_XInvalidText) = some (.type "function"))
    (l_XInvalidText : K.lookup f_XInvalidText = some ⟨oc_XInvalidText, od_XInvalidText, .func (PySem.W.fnOf "__init__" "InvalidText.__init__" (defArgs s_InvalidText_init) (defBody s_InvalidText_init) (defScope s_InvalidText_init) .none kV_XInvalidText dc_XInvalidText pm_XInvalidText an_XInvalidText cd_XInvalidText ct_XInvalidText), sl_XInvalidText⟩)
    (c_XInvalidText : PySem.W.codeIn K cd_XInvalidText "InvalidText.__init__" = true)
    (k_XInvalidText : PySem.W.keepIn K (.ref f_XInvalidText) = true)
    (o_InvalidText : K.lookup C_InvalidText = some (excClassObj nm_InvalidText q_InvalidText C_InvalidText N_InvalidText bs_InvalidText [.ref C_RankError, .type "ValueError", .type "Exception", .type "BaseException", .type "object"] true sn_InvalidText sub_InvalidText ab_InvalidText col_InvalidText dd_InvalidText j0_InvalidText j1_InvalidText j2_InvalidText j3_InvalidText j5_InvalidText "ValueError.__new__"))
    (kp_InvalidText : PySem.W.keepIn K (.ref C_InvalidText) = true)
    (sb_InvalidText : PySem.W.subIn K (.ref C_InvalidText) (.type "BaseException") = some true)
    (ty_InvalidText : PySem.W.typeIn K (.ref C_InvalidText) = some (.type "type"))
    (ic_InvalidText : PySem.W.isClsIn K C_InvalidText = true)
    (ss_InvalidText : PySem.W.subIn K (.ref C_InvalidText) (.ref C_InvalidText) = some true)
    (sa_InvalidText : PySem.W.findIn K (.ref C_InvalidText) "__setattr__" = some (some (.builtin "object.__setattr__")))
    (xa_InvalidText : PySem.W.findIn K (.ref C_InvalidText) "__getattribute__" = some (some (.builtin "BaseException.__getattribute__")))
    (xg_InvalidText : PySem.W.findIn K (.ref C_InvalidText) "__getattr__" = some none)
    (xd_InvalidText : PySem.W.hasDictIn K C_InvalidText = true)
    (nf_InvalidText_line : PySem.W.findIn K (.ref C_InvalidText) "line" = some none)
    (nf_InvalidText_word : PySem.W.findIn K (.ref C_InvalidText) "word" = some none)
    (a_is_integer : PySem.W.nsIn K mainGlobals "is_integer" = some (some (.ref f_is_integer)))
    (l_is_integer : K.lookup f_is_integer = some ⟨oc_is_integer, od_is_integer, .func (PySem.W.fnOf "is_integer" "is_integer" (defArgs s_is_integer) (defBody s_is_integer) (defScope s_is_integer) .none kV_is_integer dc_is_integer pm_is_integer an_is_integer cd_is_integer ct_is_integer), sl_is_integer⟩)
    (c_is_integer : PySem.W.codeIn K cd_is_integer "is_integer" = true)
    (k_is_integer : PySem.W.keepIn K (.ref f_is_integer) = true)
    (a_is_between : PySem.W.nsIn K mainGlobals "is_between" = some (some (.ref f_is_between)))
    (l_is_between : K.lookup f_is_between = some ⟨oc_is_between, od_is_between, .func (PySem.W.fnOf "is_between" "is_between" (defArgs s_is_between) (defBody s_is_between) (defScope s_is_between) .none kV_is_between dc_is_between pm_is_between an_is_between cd_is_between ct_is_between), sl_is_between⟩)
    (c_is_between : PySem.W.codeIn K cd_is_between "is_between" = true)
    (k_is_between : PySem.W.keepIn K (.ref f_is_between) = true)
    (a_is_value : PySem.W.nsIn K mainGlobals "is_value" = some (some (.ref f_is_value)))
    (l_is_value : K.lookup f_is_value = some ⟨oc_is_value, od_is_value, .func (PySem.W.fnOf "is_value" "is_value" (defArgs s_is_value) (defBody s_is_value) (defScope s_is_value) .none kV_is_value dc_is_value pm_is_value an_is_value cd_is_value ct_is_value), sl_is_value⟩)
    (c_is_value : PySem.W.codeIn K cd_is_value "is_value" = true)
    (k_is_value : PySem.W.keepIn K (.ref f_is_value) = true)
    (a__is_entry : PySem.W.nsIn K mainGlobals "_is_entry" = some (some (.ref f__is_entry)))
    (l__is_entry : K.lookup f__is_entry = some ⟨oc__is_entry, od__is_entry, .func (PySem.W.fnOf "_is_entry" "_is_entry" (defArgs s__is_entry) (defBody s__is_entry) (defScope s__is_entry) .none kV__is_entry dc__is_entry pm__is_entry an__is_entry cd__is_entry ct__is_entry), sl__is_entry⟩)
    (c__is_entry : PySem.W.codeIn K cd__is_entry "_is_entry" = true)
    (k__is_entry : PySem.W.keepIn K (.ref f__is_entry) = true)
    (a__check_entries : PySem.W.nsIn K mainGlobals "_check_entries" = some (some (.ref f__check_entries)))
    (l__check_entries : K.lookup f__check_entries = some ⟨oc__check_entries, od__check_entries, .func (PySem.W.fnOf "_check_entries" "_check_entries" (defArgs s__check_entries) (defBody s__check_entries) (defScope s__check_entries) .none kV__check_entries dc__check_entries pm__check_entries an__check_entries cd__check_entries ct__check_entries), sl__check_entries⟩)
    (c__check_entries : PySem.W.codeIn K cd__check_entries "_check_entries" = true)
    (k__check_entries : PySem.W.keepIn K (.ref f__check_entries) = true)
    (a_check_summary : PySem.W.nsIn K mainGlobals "check_summary" = some (some (.ref f_check_summary)))
    (l_check_summary : K.lookup f_check_summary = some ⟨oc_check_summary, od_check_summary, .func (PySem.W.fnOf "check_summary" "check_summary" (defArgs s_check_summary) (defBody s_check_summary) (defScope s_check_summary) .none kV_check_summary dc_check_summary pm_check_summary an_check_summary cd_check_summary ct_check_summary), sl_check_summary⟩)
    (c_check_summary : PySem.W.codeIn K cd_check_summary "check_summary" = true)
    (k_check_summary : PySem.W.keepIn K (.ref f_check_summary) = true)
    (a__least_ranks : PySem.W.nsIn K mainGlobals "_least_ranks" = some (some (.ref f__least_ranks)))
    (l__least_ranks : K.lookup f__least_ranks = some ⟨oc__least_ranks, od__least_ranks, .func (PySem.W.fnOf "_least_ranks" "_least_ranks" (defArgs s__least_ranks) (defBody s__least_ranks) (defScope s__least_ranks) .none kV__least_ranks dc__least_ranks pm__least_ranks an__least_ranks cd__least_ranks ct__least_ranks), sl__least_ranks⟩)
    (c__least_ranks : PySem.W.codeIn K cd__least_ranks "_least_ranks" = true)
    (k__least_ranks : PySem.W.keepIn K (.ref f__least_ranks) = true)
    (a__greatest_ranks : PySem.W.nsIn K mainGlobals "_greatest_ranks" = some (some (.ref f__greatest_ranks)))
    (l__greatest_ranks : K.lookup f__greatest_ranks = some ⟨oc__greatest_ranks, od__greatest_ranks, .func (PySem.W.fnOf "_greatest_ranks" "_greatest_ranks" (defArgs s__greatest_ranks) (defBody s__greatest_ranks) (defScope s__greatest_ranks) .none kV__greatest_ranks dc__greatest_ranks pm__greatest_ranks an__greatest_ranks cd__greatest_ranks ct__greatest_ranks), sl__greatest_ranks⟩)
    (c__greatest_ranks : PySem.W.codeIn K cd__greatest_ranks "_greatest_ranks" = true)
    (k__greatest_ranks : PySem.W.keepIn K (.ref f__greatest_ranks) = true)
    (a_tightened : PySem.W.nsIn K mainGlobals "tightened" = some (some (.ref f_tightened)))
    (l_tightened : K.lookup f_tightened = some ⟨oc_tightened, od_tightened, .func (PySem.W.fnOf "tightened" "tightened" (defArgs s_tightened) (defBody s_tightened) (defScope s_tightened) .none kV_tightened dc_tightened pm_tightened an_tightened cd_tightened ct_tightened), sl_tightened⟩)
    (c_tightened : PySem.W.codeIn K cd_tightened "tightened" = true)
    (k_tightened : PySem.W.keepIn K (.ref f_tightened) = true)
    (a_surely_tightened : PySem.W.nsIn K mainGlobals "surely_tightened" = some (some (.ref f_surely_tightened)))
    (l_surely_tightened : K.lookup f_surely_tightened = some ⟨oc_surely_tightened, od_surely_tightened, .func (PySem.W.fnOf "surely_tightened" "surely_tightened" (defArgs s_surely_tightened) (defBody s_surely_tightened) (defScope s_surely_tightened) .none kV_surely_tightened dc_surely_tightened pm_surely_tightened an_surely_tightened cd_surely_tightened ct_surely_tightened), sl_surely_tightened⟩)
    (c_surely_tightened : PySem.W.codeIn K cd_surely_tightened "surely_tightened" = true)
    (k_surely_tightened : PySem.W.keepIn K (.ref f_surely_tightened) = true)
    (a__with_entries : PySem.W.nsIn K mainGlobals "_with_entries" = some (some (.ref f__with_entries)))
    (l__with_entries : K.lookup f__with_entries = some ⟨oc__with_entries, od__with_entries, .func (PySem.W.fnOf "_with_entries" "_with_entries" (defArgs s__with_entries) (defBody s__with_entries) (defScope s__with_entries) .none kV__with_entries dc__with_entries pm__with_entries an__with_entries cd__with_entries ct__with_entries), sl__with_entries⟩)
    (c__with_entries : PySem.W.codeIn K cd__with_entries "_with_entries" = true)
    (k__with_entries : PySem.W.keepIn K (.ref f__with_entries) = true)
    (a_check_rank : PySem.W.nsIn K mainGlobals "check_rank" = some (some (.ref f_check_rank)))
    (l_check_rank : K.lookup f_check_rank = some ⟨oc_check_rank, od_check_rank, .func (PySem.W.fnOf "check_rank" "check_rank" (defArgs s_check_rank) (defBody s_check_rank) (defScope s_check_rank) .none kV_check_rank dc_check_rank pm_check_rank an_check_rank cd_check_rank ct_check_rank), sl_check_rank⟩)
    (c_check_rank : PySem.W.codeIn K cd_check_rank "check_rank" = true)
    (k_check_rank : PySem.W.keepIn K (.ref f_check_rank) = true)
    (a__errors : PySem.W.nsIn K mainGlobals "_errors" = some (some (.ref f__errors)))
    (l__errors : K.lookup f__errors = some ⟨oc__errors, od__errors, .func (PySem.W.fnOf "_errors" "_errors" (defArgs s__errors) (defBody s__errors) (defScope s__errors) .none kV__errors dc__errors pm__errors an__errors cd__errors ct__errors), sl__errors⟩)
    (c__errors : PySem.W.codeIn K cd__errors "_errors" = true)
    (k__errors : PySem.W.keepIn K (.ref f__errors) = true)
    (a_best_index : PySem.W.nsIn K mainGlobals "best_index" = some (some (.ref f_best_index)))
    (l_best_index : K.lookup f_best_index = some ⟨oc_best_index, od_best_index, .func (PySem.W.fnOf "best_index" "best_index" (defArgs s_best_index) (defBody s_best_index) (defScope s_best_index) .none kV_best_index dc_best_index pm_best_index an_best_index cd_best_index ct_best_index), sl_best_index⟩)
    (c_best_index : PySem.W.codeIn K cd_best_index "best_index" = true)
    (k_best_index : PySem.W.keepIn K (.ref f_best_index) = true)
    (a__peaks : PySem.W.nsIn K mainGlobals "_peaks" = some (some (.ref f__peaks)))
    (l__peaks : K.lookup f__peaks = some ⟨oc__peaks, od__peaks, .func (PySem.W.fnOf "_peaks" "_peaks" (defArgs s__peaks) (defBody s__peaks) (defScope s__peaks) .none kV__peaks dc__peaks pm__peaks an__peaks cd__peaks ct__peaks), sl__peaks⟩)
    (c__peaks : PySem.W.codeIn K cd__peaks "_peaks" = true)
    (k__peaks : PySem.W.keepIn K (.ref f__peaks) = true)
    (a_answer : PySem.W.nsIn K mainGlobals "answer" = some (some (.ref f_answer)))
    (l_answer : K.lookup f_answer = some ⟨oc_answer, od_answer, .func (PySem.W.fnOf "answer" "answer" (defArgs s_answer) (defBody s_answer) (defScope s_answer) .none kV_answer dc_answer pm_answer an_answer cd_answer ct_answer), sl_answer⟩)
    (c_answer : PySem.W.codeIn K cd_answer "answer" = true)
    (k_answer : PySem.W.keepIn K (.ref f_answer) = true)
    (a_error_at : PySem.W.nsIn K mainGlobals "error_at" = some (some (.ref f_error_at)))
    (l_error_at : K.lookup f_error_at = some ⟨oc_error_at, od_error_at, .func (PySem.W.fnOf "error_at" "error_at" (defArgs s_error_at) (defBody s_error_at) (defScope s_error_at) .none kV_error_at dc_error_at pm_error_at an_error_at cd_error_at ct_error_at), sl_error_at⟩)
    (c_error_at : PySem.W.codeIn K cd_error_at "error_at" = true)
    (k_error_at : PySem.W.keepIn K (.ref f_error_at) = true)
    (a_worst : PySem.W.nsIn K mainGlobals "worst" = some (some (.ref f_worst)))
    (l_worst : K.lookup f_worst = some ⟨oc_worst, od_worst, .func (PySem.W.fnOf "worst" "worst" (defArgs s_worst) (defBody s_worst) (defScope s_worst) .none kV_worst dc_worst pm_worst an_worst cd_worst ct_worst), sl_worst⟩)
    (c_worst : PySem.W.codeIn K cd_worst "worst" = true)
    (k_worst : PySem.W.keepIn K (.ref f_worst) = true)
    (a__check_value : PySem.W.nsIn K mainGlobals "_check_value" = some (some (.ref f__check_value)))
    (l__check_value : K.lookup f__check_value = some ⟨oc__check_value, od__check_value, .func (PySem.W.fnOf "_check_value" "_check_value" (defArgs s__check_value) (defBody s__check_value) (defScope s__check_value) .none kV__check_value dc__check_value pm__check_value an__check_value cd__check_value ct__check_value), sl__check_value⟩)
    (c__check_value : PySem.W.codeIn K cd__check_value "_check_value" = true)
    (k__check_value : PySem.W.keepIn K (.ref f__check_value) = true)
    (a__many_below : PySem.W.nsIn K mainGlobals "_many_below" = some (some (.ref f__many_below)))
    (l__many_below : K.lookup f__many_below = some ⟨oc__many_below, od__many_below, .func (PySem.W.fnOf "_many_below" "_many_below" (defArgs s__many_below) (defBody s__many_below) (defScope s__many_below) .none kV__many_below dc__many_below pm__many_below an__many_below cd__many_below ct__many_below), sl__many_below⟩)
    (c__many_below : PySem.W.codeIn K cd__many_below "_many_below" = true)
    (k__many_below : PySem.W.keepIn K (.ref f__many_below) = true)
    (a_values_at : PySem.W.nsIn K mainGlobals "values_at" = some (some (.ref f_values_at)))
    (l_values_at : K.lookup f_values_at = some ⟨oc_values_at, od_values_at, .func (PySem.W.fnOf "values_at" "values_at" (defArgs s_values_at) (defBody s_values_at) (defScope s_values_at) .none kV_values_at dc_values_at pm_values_at an_values_at cd_values_at ct_values_at), sl_values_at⟩)
    (c_values_at : PySem.W.codeIn K cd_values_at "values_at" = true)
    (k_values_at : PySem.W.keepIn K (.ref f_values_at) = true)
    (a_below : PySem.W.nsIn K mainGlobals "below" = some (some (.ref f_below)))
    (l_below : K.lookup f_below = some ⟨oc_below, od_below, .func (PySem.W.fnOf "below" "below" (defArgs s_below) (defBody s_below) (defScope s_below) .none kV_below dc_below pm_below an_below cd_below ct_below), sl_below⟩)
    (c_below : PySem.W.codeIn K cd_below "below" = true)
    (k_below : PySem.W.keepIn K (.ref f_below) = true)
    (a_up_to : PySem.W.nsIn K mainGlobals "up_to" = some (some (.ref f_up_to)))
    (l_up_to : K.lookup f_up_to = some ⟨oc_up_to, od_up_to, .func (PySem.W.fnOf "up_to" "up_to" (defArgs s_up_to) (defBody s_up_to) (defScope s_up_to) .none kV_up_to dc_up_to pm_up_to an_up_to cd_up_to ct_up_to), sl_up_to⟩)
    (c_up_to : PySem.W.codeIn K cd_up_to "up_to" = true)
    (k_up_to : PySem.W.keepIn K (.ref f_up_to) = true)
    (a_check_short : PySem.W.nsIn K mainGlobals "check_short" = some (some (.ref f_check_short)))
    (l_check_short : K.lookup f_check_short = some ⟨oc_check_short, od_check_short, .func (PySem.W.fnOf "check_short" "check_short" (defArgs s_check_short) (defBody s_check_short) (defScope s_check_short) .none kV_check_short dc_check_short pm_check_short an_check_short cd_check_short ct_check_short), sl_check_short⟩)
    (c_check_short : PySem.W.codeIn K cd_check_short "check_short" = true)
    (k_check_short : PySem.W.keepIn K (.ref f_check_short) = true)
    (a_surely_short : PySem.W.nsIn K mainGlobals "surely_short" = some (some (.ref f_surely_short)))
    (l_surely_short : K.lookup f_surely_short = some ⟨oc_surely_short, od_surely_short, .func (PySem.W.fnOf "surely_short" "surely_short" (defArgs s_surely_short) (defBody s_surely_short) (defScope s_surely_short) .none kV_surely_short dc_surely_short pm_surely_short an_surely_short cd_surely_short ct_surely_short), sl_surely_short⟩)
    (c_surely_short : PySem.W.codeIn K cd_surely_short "surely_short" = true)
    (k_surely_short : PySem.W.keepIn K (.ref f_surely_short) = true)
    (a_filled : PySem.W.nsIn K mainGlobals "filled" = some (some (.ref f_filled)))
    (l_filled : K.lookup f_filled = some ⟨oc_filled, od_filled, .func (PySem.W.fnOf "filled" "filled" (defArgs s_filled) (defBody s_filled) (defScope s_filled) .none kV_filled dc_filled pm_filled an_filled cd_filled ct_filled), sl_filled⟩)
    (c_filled : PySem.W.codeIn K cd_filled "filled" = true)
    (k_filled : PySem.W.keepIn K (.ref f_filled) = true)
    (a_row_for : PySem.W.nsIn K mainGlobals "row_for" = some (some (.ref f_row_for)))
    (l_row_for : K.lookup f_row_for = some ⟨oc_row_for, od_row_for, .func (PySem.W.fnOf "row_for" "row_for" (defArgs s_row_for) (defBody s_row_for) (defScope s_row_for) .none kV_row_for dc_row_for pm_row_for an_row_for cd_row_for ct_row_for), sl_row_for⟩)
    (c_row_for : PySem.W.codeIn K cd_row_for "row_for" = true)
    (k_row_for : PySem.W.keepIn K (.ref f_row_for) = true)
    (a__check_row : PySem.W.nsIn K mainGlobals "_check_row" = some (some (.ref f__check_row)))
    (l__check_row : K.lookup f__check_row = some ⟨oc__check_row, od__check_row, .func (PySem.W.fnOf "_check_row" "_check_row" (defArgs s__check_row) (defBody s__check_row) (defScope s__check_row) .none kV__check_row dc__check_row pm__check_row an__check_row cd__check_row ct__check_row), sl__check_row⟩)
    (c__check_row : PySem.W.codeIn K cd__check_row "_check_row" = true)
    (k__check_row : PySem.W.keepIn K (.ref f__check_row) = true)
    (a__have_places : PySem.W.nsIn K mainGlobals "_have_places" = some (some (.ref f__have_places)))
    (l__have_places : K.lookup f__have_places = some ⟨oc__have_places, od__have_places, .func (PySem.W.fnOf "_have_places" "_have_places" (defArgs s__have_places) (defBody s__have_places) (defScope s__have_places) .none kV__have_places dc__have_places pm__have_places an__have_places cd__have_places ct__have_places), sl__have_places⟩)
    (c__have_places : PySem.W.codeIn K cd__have_places "_have_places" = true)
    (k__have_places : PySem.W.keepIn K (.ref f__have_places) = true)
    (a_leaves : PySem.W.nsIn K mainGlobals "leaves" = some (some (.ref f_leaves)))
    (l_leaves : K.lookup f_leaves = some ⟨oc_leaves, od_leaves, .func (PySem.W.fnOf "leaves" "leaves" (defArgs s_leaves) (defBody s_leaves) (defScope s_leaves) .none kV_leaves dc_leaves pm_leaves an_leaves cd_leaves ct_leaves), sl_leaves⟩)
    (c_leaves : PySem.W.codeIn K cd_leaves "leaves" = true)
    (k_leaves : PySem.W.keepIn K (.ref f_leaves) = true)
    (a__check_ranks : PySem.W.nsIn K mainGlobals "_check_ranks" = some (some (.ref f__check_ranks)))
    (l__check_ranks : K.lookup f__check_ranks = some ⟨oc__check_ranks, od__check_ranks, .func (PySem.W.fnOf "_check_ranks" "_check_ranks" (defArgs s__check_ranks) (defBody s__check_ranks) (defScope s__check_ranks) .none kV__check_ranks dc__check_ranks pm__check_ranks an__check_ranks cd__check_ranks ct__check_ranks), sl__check_ranks⟩)
    (c__check_ranks : PySem.W.codeIn K cd__check_ranks "_check_ranks" = true)
    (k__check_ranks : PySem.W.keepIn K (.ref f__check_ranks) = true)
    (a_kept_from : PySem.W.nsIn K mainGlobals "kept_from" = some (some (.ref f_kept_from)))
    (l_kept_from : K.lookup f_kept_from = some ⟨oc_kept_from, od_kept_from, .func (PySem.W.fnOf "kept_from" "kept_from" (defArgs s_kept_from) (defBody s_kept_from) (defScope s_kept_from) .none kV_kept_from dc_kept_from pm_kept_from an_kept_from cd_kept_from ct_kept_from), sl_kept_from⟩)
    (c_kept_from : PySem.W.codeIn K cd_kept_from "kept_from" = true)
    (k_kept_from : PySem.W.keepIn K (.ref f_kept_from) = true)
    (a__keeps : PySem.W.nsIn K mainGlobals "_keeps" = some (some (.ref f__keeps)))
    (l__keeps : K.lookup f__keeps = some ⟨oc__keeps, od__keeps, .func (PySem.W.fnOf "_keeps" "_keeps" (defArgs s__keeps) (defBody s__keeps) (defScope s__keeps) .none kV__keeps dc__keeps pm__keeps an__keeps cd__keeps ct__keeps), sl__keeps⟩)
    (c__keeps : PySem.W.codeIn K cd__keeps "_keeps" = true)
    (k__keeps : PySem.W.keepIn K (.ref f__keeps) = true)
    (a_fewest : PySem.W.nsIn K mainGlobals "fewest" = some (some (.ref f_fewest)))
    (l_fewest : K.lookup f_fewest = some ⟨oc_fewest, od_fewest, .func (PySem.W.fnOf "fewest" "fewest" (defArgs s_fewest) (defBody s_fewest) (defScope s_fewest) .none kV_fewest dc_fewest pm_fewest an_fewest cd_fewest ct_fewest), sl_fewest⟩)
    (c_fewest : PySem.W.codeIn K cd_fewest "fewest" = true)
    (k_fewest : PySem.W.keepIn K (.ref f_fewest) = true)
    (a_without : PySem.W.nsIn K mainGlobals "without" = some (some (.ref f_without)))
    (l_without : K.lookup f_without = some ⟨oc_without, od_without, .func (PySem.W.fnOf "without" "without" (defArgs s_without) (defBody s_without) (defScope s_without) .none kV_without dc_without pm_without an_without cd_without ct_without), sl_without⟩)
    (c_without : PySem.W.codeIn K cd_without "without" = true)
    (k_without : PySem.W.keepIn K (.ref f_without) = true)
    (a__raised : PySem.W.nsIn K mainGlobals "_raised" = some (some (.ref f__raised)))
    (l__raised : K.lookup f__raised = some ⟨oc__raised, od__raised, .func (PySem.W.fnOf "_raised" "_raised" (defArgs s__raised) (defBody s__raised) (defScope s__raised) .none kV__raised dc__raised pm__raised an__raised cd__raised ct__raised), sl__raised⟩)
    (c__raised : PySem.W.codeIn K cd__raised "_raised" = true)
    (k__raised : PySem.W.keepIn K (.ref f__raised) = true)
    (a__check_room : PySem.W.nsIn K mainGlobals "_check_room" = some (some (.ref f__check_room)))
    (l__check_room : K.lookup f__check_room = some ⟨oc__check_room, od__check_room, .func (PySem.W.fnOf "_check_room" "_check_room" (defArgs s__check_room) (defBody s__check_room) (defScope s__check_room) .none kV__check_room dc__check_room pm__check_room an__check_room cd__check_room ct__check_room), sl__check_room⟩)
    (c__check_room : PySem.W.codeIn K cd__check_room "_check_room" = true)
    (k__check_room : PySem.W.keepIn K (.ref f__check_room) = true)
    (a_check_value : PySem.W.nsIn K mainGlobals "check_value" = some (some (.ref f_check_value)))
    (l_check_value : K.lookup f_check_value = some ⟨oc_check_value, od_check_value, .func (PySem.W.fnOf "check_value" "check_value" (defArgs s_check_value) (defBody s_check_value) (defScope s_check_value) .none kV_check_value dc_check_value pm_check_value an_check_value cd_check_value ct_check_value), sl_check_value⟩)
    (c_check_value : PySem.W.codeIn K cd_check_value "check_value" = true)
    (k_check_value : PySem.W.keepIn K (.ref f_check_value) = true)
    (a_entries_with : PySem.W.nsIn K mainGlobals "entries_with" = some (some (.ref f_entries_with)))
    (l_entries_with : K.lookup f_entries_with = some ⟨oc_entries_with, od_entries_with, .func (PySem.W.fnOf "entries_with" "entries_with" (defArgs s_entries_with) (defBody s_entries_with) (defScope s_entries_with) .none kV_entries_with dc_entries_with pm_entries_with an_entries_with cd_entries_with ct_entries_with), sl_entries_with⟩)
    (c_entries_with : PySem.W.codeIn K cd_entries_with "entries_with" = true)
    (k_entries_with : PySem.W.keepIn K (.ref f_entries_with) = true)
    (a_put_in : PySem.W.nsIn K mainGlobals "put_in" = some (some (.ref f_put_in)))
    (l_put_in : K.lookup f_put_in = some ⟨oc_put_in, od_put_in, .func (PySem.W.fnOf "put_in" "put_in" (defArgs s_put_in) (defBody s_put_in) (defScope s_put_in) .none kV_put_in dc_put_in pm_put_in an_put_in cd_put_in ct_put_in), sl_put_in⟩)
    (c_put_in : PySem.W.codeIn K cd_put_in "put_in" = true)
    (k_put_in : PySem.W.keepIn K (.ref f_put_in) = true)
    (a_joined : PySem.W.nsIn K mainGlobals "joined" = some (some (.ref f_joined)))
    (l_joined : K.lookup f_joined = some ⟨oc_joined, od_joined, .func (PySem.W.fnOf "joined" "joined" (defArgs s_joined) (defBody s_joined) (defScope s_joined) .none kV_joined dc_joined pm_joined an_joined cd_joined ct_joined), sl_joined⟩)
    (c_joined : PySem.W.codeIn K cd_joined "joined" = true)
    (k_joined : PySem.W.keepIn K (.ref f_joined) = true)
    (cde : cd_joined = .ref cL)
    (a__first_to_leave_out : PySem.W.nsIn K mainGlobals "_first_to_leave_out" = some (some (.ref f__first_to_leave_out)))
    (l__first_to_leave_out : K.lookup f__first_to_leave_out = some ⟨oc__first_to_leave_out, od__first_to_leave_out, .func (PySem.W.fnOf "_first_to_leave_out" "_first_to_leave_out" (defArgs s__first_to_leave_out) (defBody s__first_to_leave_out) (defScope s__first_to_leave_out) .none kV__first_to_leave_out dc__first_to_leave_out pm__first_to_leave_out an__first_to_leave_out cd__first_to_leave_out ct__first_to_leave_out), sl__first_to_leave_out⟩)
    (c__first_to_leave_out : PySem.W.codeIn K cd__first_to_leave_out "_first_to_leave_out" = true)
    (k__first_to_leave_out : PySem.W.keepIn K (.ref f__first_to_leave_out) = true)
    (a__thinned : PySem.W.nsIn K mainGlobals "_thinned" = some (some (.ref f__thinned)))
    (l__thinned : K.lookup f__thinned = some ⟨oc__thinned, od__thinned, .func (PySem.W.fnOf "_thinned" "_thinned" (defArgs s__thinned) (defBody s__thinned) (defScope s__thinned) .none kV__thinned dc__thinned pm__thinned an__thinned cd__thinned ct__thinned), sl__thinned⟩)
    (c__thinned : PySem.W.codeIn K cd__thinned "_thinned" = true)
    (k__thinned : PySem.W.keepIn K (.ref f__thinned) = true)
    (a__words : PySem.W.nsIn K mainGlobals "_words" = some (some (.ref f__words)))
    (l__words : K.lookup f__words = some ⟨oc__words, od__words, .func (PySem.W.fnOf "_words" "_words" (defArgs s__words) (defBody s__words) (defScope s__words) .none kV__words dc__words pm__words an__words cd__words ct__words), sl__words⟩)
    (c__words : PySem.W.codeIn K cd__words "_words" = true)
    (k__words : PySem.W.keepIn K (.ref f__words) = true)
    (a__number : PySem.W.nsIn K mainGlobals "_number" = some (some (.ref f__number)))
    (l__number : K.lookup f__number = some ⟨oc__number, od__number, .func (PySem.W.fnOf "_number" "_number" (defArgs s__number) (defBody s__number) (defScope s__number) .none kV__number dc__number pm__number an__number cd__number ct__number), sl__number⟩)
    (c__number : PySem.W.codeIn K cd__number "_number" = true)
    (k__number : PySem.W.keepIn K (.ref f__number) = true)
    (a__number_at : PySem.W.nsIn K mainGlobals "_number_at" = some (some (.ref f__number_at)))
    (l__number_at : K.lookup f__number_at = some ⟨oc__number_at, od__number_at, .func (PySem.W.fnOf "_number_at" "_number_at" (defArgs s__number_at) (defBody s__number_at) (defScope s__number_at) .none kV__number_at dc__number_at pm__number_at an__number_at cd__number_at ct__number_at), sl__number_at⟩)
    (c__number_at : PySem.W.codeIn K cd__number_at "_number_at" = true)
    (k__number_at : PySem.W.keepIn K (.ref f__number_at) = true)
    (a__check_end : PySem.W.nsIn K mainGlobals "_check_end" = some (some (.ref f__check_end)))
    (l__check_end : K.lookup f__check_end = some ⟨oc__check_end, od__check_end, .func (PySem.W.fnOf "_check_end" "_check_end" (defArgs s__check_end) (defBody s__check_end) (defScope s__check_end) .none kV__check_end dc__check_end pm__check_end an__check_end cd__check_end ct__check_end), sl__check_end⟩)
    (c__check_end : PySem.W.codeIn K cd__check_end "_check_end" = true)
    (k__check_end : PySem.W.keepIn K (.ref f__check_end) = true)
    (a__read_count : PySem.W.nsIn K mainGlobals "_read_count" = some (some (.ref f__read_count)))
    (l__read_count : K.lookup f__read_count = some ⟨oc__read_count, od__read_count, .func (PySem.W.fnOf "_read_count" "_read_count" (defArgs s__read_count) (defBody s__read_count) (defScope s__read_count) .none kV__read_count dc__read_count pm__read_count an__read_count cd__read_count ct__read_count), sl__read_count⟩)
    (c__read_count : PySem.W.codeIn K cd__read_count "_read_count" = true)
    (k__read_count : PySem.W.keepIn K (.ref f__read_count) = true)
    (a__read_entry : PySem.W.nsIn K mainGlobals "_read_entry" = some (some (.ref f__read_entry)))
    (l__read_entry : K.lookup f__read_entry = some ⟨oc__read_entry, od__read_entry, .func (PySem.W.fnOf "_read_entry" "_read_entry" (defArgs s__read_entry) (defBody s__read_entry) (defScope s__read_entry) .none kV__read_entry dc__read_entry pm__read_entry an__read_entry cd__read_entry ct__read_entry), sl__read_entry⟩)
    (c__read_entry : PySem.W.codeIn K cd__read_entry "_read_entry" = true)
    (k__read_entry : PySem.W.keepIn K (.ref f__read_entry) = true)
    (a_write_summary : PySem.W.nsIn K mainGlobals "write_summary" = some (some (.ref f_write_summary)))
    (l_write_summary : K.lookup f_write_summary = some ⟨oc_write_summary, od_write_summary, .func (PySem.W.fnOf "write_summary" "write_summary" (defArgs s_write_summary) (defBody s_write_summary) (defScope s_write_summary) .none kV_write_summary dc_write_summary pm_write_summary an_write_summary cd_write_summary ct_write_summary), sl_write_summary⟩)
    (c_write_summary : PySem.W.codeIn K cd_write_summary "write_summary" = true)
    (k_write_summary : PySem.W.keepIn K (.ref f_write_summary) = true)
    (a_read_summary : PySem.W.nsIn K mainGlobals "read_summary" = some (some (.ref f_read_summary)))
    (l_read_summary : K.lookup f_read_summary = some ⟨oc_read_summary, od_read_summary, .func (PySem.W.fnOf "read_summary" "read_summary" (defArgs s_read_summary) (defBody s_read_summary) (defScope s_read_summary) .none kV_read_summary dc_read_summary pm_read_summary an_read_summary cd_read_summary ct_read_summary), sl_read_summary⟩)
    (c_read_summary : PySem.W.codeIn K cd_read_summary "read_summary" = true)
    (k_read_summary : PySem.W.keepIn K (.ref f_read_summary) = true)
    (a__law_mix : PySem.W.nsIn K mainGlobals "_law_mix" = some (some (.ref f__law_mix)))
    (l__law_mix : K.lookup f__law_mix = some ⟨oc__law_mix, od__law_mix, .func (PySem.W.fnOf "_law_mix" "_law_mix" (defArgs s__law_mix) (defBody s__law_mix) (defScope s__law_mix) .none kV__law_mix dc__law_mix pm__law_mix an__law_mix cd__law_mix ct__law_mix), sl__law_mix⟩)
    (c__law_mix : PySem.W.codeIn K cd__law_mix "_law_mix" = true)
    (k__law_mix : PySem.W.keepIn K (.ref f__law_mix) = true)
    (a__law_next : PySem.W.nsIn K mainGlobals "_law_next" = some (some (.ref f__law_next)))
    (l__law_next : K.lookup f__law_next = some ⟨oc__law_next, od__law_next, .func (PySem.W.fnOf "_law_next" "_law_next" (defArgs s__law_next) (defBody s__law_next) (defScope s__law_next) .none kV__law_next dc__law_next pm__law_next an__law_next cd__law_next ct__law_next), sl__law_next⟩)
    (c__law_next : PySem.W.codeIn K cd__law_next "_law_next" = true)
    (k__law_next : PySem.W.keepIn K (.ref f__law_next) = true)
    (a__law_answers : PySem.W.nsIn K mainGlobals "_law_answers" = some (some (.ref f__law_answers)))
    (l__law_answers : K.lookup f__law_answers = some ⟨oc__law_answers, od__law_answers, .func (PySem.W.fnOf "_law_answers" "_law_answers" (defArgs s__law_answers) (defBody s__law_answers) (defScope s__law_answers) .none kV__law_answers dc__law_answers pm__law_answers an__law_answers cd__law_answers ct__law_answers), sl__law_answers⟩)
    (c__law_answers : PySem.W.codeIn K cd__law_answers "_law_answers" = true)
    (k__law_answers : PySem.W.keepIn K (.ref f__law_answers) = true)
    (a_law : PySem.W.nsIn K mainGlobals "law" = some (some (.ref f_law)))
    (l_law : K.lookup f_law = some ⟨oc_law, od_law, .func (PySem.W.fnOf "law" "law" (defArgs s_law) (defBody s_law) (defScope s_law) .none kV_law dc_law pm_law an_law cd_law ct_law), sl_law⟩)
    (c_law : PySem.W.codeIn K cd_law "law" = true)
    (k_law : PySem.W.keepIn K (.ref f_law) = true) :
    LamX.LawAtS l w K CX0 13 63 "_law_script" mg fa h := by
  have e := hfa.symm.trans (PySem.W.mg_of X G a_law)
  cases e
  subst cde
  have m_isinstance := PySem.W.mg_none_of X G z_isinstance
  have m_int := PySem.W.mg_none_of X G z_int
  have m_bool := PySem.W.mg_none_of X G z_bool
  have m_tuple := PySem.W.mg_none_of X G z_tuple
  have m_len := PySem.W.mg_none_of X G z_len
  have m_enumerate := PySem.W.mg_none_of X G z_enumerate
  have m_max := PySem.W.mg_none_of X G z_max
  have m_min := PySem.W.mg_none_of X G z_min
  have m_reversed := PySem.W.mg_none_of X G z_reversed
  have m_zip := PySem.W.mg_none_of X G z_zip
  have m_list := PySem.W.mg_none_of X G z_list
  have m_sorted := PySem.W.mg_none_of X G z_sorted
  have m_range := PySem.W.mg_none_of X G z_range
  have m_all := PySem.W.mg_none_of X G z_all
  have m_str := PySem.W.mg_none_of X G z_str
  have m_abs := PySem.W.mg_none_of X G z_abs
  have m_combinations := PySem.W.mg_of X G g_combinations
  subst e_GREATEST_COUNT
  have m_GREATEST_COUNT := PySem.W.mg_of X G g_GREATEST_COUNT
  subst e_GREATEST_VALUE
  have m_GREATEST_VALUE := PySem.W.mg_of X G g_GREATEST_VALUE
  subst e_MOST_ENTRIES
  have m_MOST_ENTRIES := PySem.W.mg_of X G g_MOST_ENTRIES
  subst e_MOST_NUMBERS
  have m_MOST_NUMBERS := PySem.W.mg_of X G g_MOST_NUMBERS
  subst e_MOST_DIGITS
  have m_MOST_DIGITS := PySem.W.mg_of X G g_MOST_DIGITS
  subst e_LEAST_PARTS
  have m_LEAST_PARTS := PySem.W.mg_of X G g_LEAST_PARTS
  subst e_MOST_PARTS
  have m_MOST_PARTS := PySem.W.mg_of X G g_MOST_PARTS
  subst e_MOST_KEPT
  have m_MOST_KEPT := PySem.W.mg_of X G g_MOST_KEPT
  subst e_MOST_SEEN
  have m_MOST_SEEN := PySem.W.mg_of X G g_MOST_SEEN
  have F_Sinit := fun_mk (st := s_Summary_init) l_Sinit c_Sinit k_Sinit
  have b_Sinit := F_Sinit.binds (ps := ["self", "many", "entries"]) fun _ _ _ _ _ _ us hl => match us, hl with | [_, _, _], _ => rfl
  have F_Smany := fun_mk (st := s_Summary_many) l_Smany c_Smany k_Smany
  have b_Smany := F_Smany.binds (ps := ["self"]) fun _ _ _ _ _ _ us hl => match us, hl with | [_], _ => rfl
  have F_Sentries := fun_mk (st := s_Summary_entries) l_Sentries c_Sentries k_Sentries
  have b_Sentries := F_Sentries.binds (ps := ["self"]) fun _ _ _ _ _ _ us hl => match us, hl with | [_], _ => rfl
  have F_Slen := fun_mk (st := s_Summary_len) l_Slen c_Slen k_Slen
  have b_Slen := F_Slen.binds (ps := ["self"]) fun _ _ _ _ _ _ us hl => match us, hl with | [_], _ => rfl
  have F_Seq := fun_mk (st := s_Summary_eq) l_Seq c_Seq k_Seq
  have b_Seq := F_Seq.binds (ps := ["self", "other"]) fun _ _ _ _ _ _ us hl => match us, hl with | [_, _], _ => rfl
  have T : SumT K mg C := ⟨⟨⟨pg, hd, po, sa⟩, ha, hn, htk, hm, if_pos (beq_self_eq_true _)⟩, nM, nE, PySem.W.mg_of X G aC, kit_no ic ty st, nf1, nf2⟩
  have F_Kinit := fun_mk (st := s_Keeper_init) l_Kinit c_Kinit k_Kinit
  have b_Kinit := F_Kinit.binds (ps := ["self", "parts"]) fun _ _ _ _ _ _ us hl => match us, hl with | [_, _], _ => rfl
  have M_Kinit : L2.Meth K CK "__init__" f_Kinit := ⟨a_Kinit, i_Kinit, k_Kinit⟩
  have F_Kmany := fun_mk (st := s_Keeper_many) l_Kmany c_Kmany k_Kmany
  have b_Kmany := F_Kmany.binds (ps := ["self"]) fun _ _ _ _ _ _ us hl => match us, hl with | [_], _ => rfl
  have F_Kentries := fun_mk (st := s_Keeper_entries) l_Kentries c_Kentries k_Kentries
  have b_Kentries := F_Kentries.binds (ps := ["self"]) fun _ _ _ _ _ _ us hl => match us, hl with | [_], _ => rfl
  have F_Ksee := fun_mk (st := s_Keeper_see) l_Ksee c_Ksee k_Ksee
  have b_Ksee := F_Ksee.binds (ps := ["self", "value"]) fun _ _ _ _ _ _ us hl => match us, hl with | [_, _], _ => rfl
  have M_Ksee : L2.Meth K CK "see" f_Ksee := ⟨a_Ksee, i_Ksee, k_Ksee⟩
  have F_Kanswer := fun_mk (st := s_Keeper_answer) l_Kanswer c_Kanswer k_Kanswer
  have b_Kanswer := F_Kanswer.binds (ps := ["self", "rank"]) fun _ _ _ _ _ _ us hl => match us, hl with | [_, _], _ => rfl
  have M_Kanswer : L2.Meth K CK "answer" f_Kanswer := ⟨a_Kanswer, i_Kanswer, k_Kanswer⟩
  have F_Kundo := fun_mk (st := s_Keeper_undo) l_Kundo c_Kundo k_Kundo
  have b_Kundo := F_Kundo.binds (ps := ["self"]) fun _ _ _ _ _ _ us hl => match us, hl with | [_], _ => rfl
  have M_Kundo : L2.Meth K CK "undo" f_Kundo := ⟨a_Kundo, i_Kundo, k_Kundo⟩
  have F_Kcopy := fun_mk (st := s_Keeper_copy) l_Kcopy c_Kcopy k_Kcopy
  have b_Kcopy := F_Kcopy.binds (ps := ["self"]) fun _ _ _ _ _ _ us hl => match us, hl with | [_], _ => rfl
  have M_Kcopy : L2.Meth K CK "copy" f_Kcopy := ⟨a_Kcopy, i_Kcopy, k_Kcopy⟩
  have F_Klen := fun_mk (st := s_Keeper_len) l_Klen c_Klen k_Klen
  have b_Klen := F_Klen.binds (ps := ["self"]) fun _ _ _ _ _ _ us hl => match us, hl with | [_], _ => rfl
  have M_Klen : L2.Meth K CK "__len__" f_Klen := ⟨a_Klen, i_Klen, k_Klen⟩
  have TK : KeepT K mg CK := ⟨⟨pgK, hdK, poK, saK⟩, nPK, nSK, PySem.W.mg_of X G aCK⟩
  have F_Rinit := fun_mk (st := s_RankError_init) l_Rinit c_Rinit k_Rinit
  have b_Rinit := F_Rinit.binds (ps := ["self"]) fun _ _ _ _ _ _ us hl => match us, hl with | [_], _ => rfl
  have T_NoRow : NzTxt K mg "NoRow" C_NoRow f_Rinit := { gC := PySem.W.mg_of X G g_NoRow, cls := ⟨_, _, _, _, _, _, _, _, _, _, _, _, _, _, _, o_NoRow, rfl⟩, iC := n_NoRow, tC := tf_R, kC := kp_NoRow, exC := sb_NoRow, tyC := ty_NoRow, fn := ⟨_, _, _, _, _, _, _, _, _, _, _, _, l_Rinit, c_Rinit⟩ }
  have ex_NoRow := exm_b sb_NoRow ic_NoRow ty_NoRow ss_NoRow
  have T_Full : NzTxt K mg "Full" C_Full f_Rinit := { gC := PySem.W.mg_of X G g_Full, cls := ⟨_, _, _, _, _, _, _, _, _, _, _, _, _, _, _, o_Full, rfl⟩, iC := n_Full, tC := tf_R, kC := kp_Full, exC := sb_Full, tyC := ty_Full, fn := ⟨_, _, _, _, _, _, _, _, _, _, _, _, l_Rinit, c_Rinit⟩ }
  have ex_Full := exm_b sb_Full ic_Full ty_Full ss_Full
  have T_BadCount : NzTxt K mg "BadCount" C_BadCount f_Rinit := { gC := PySem.W.mg_of X G g_BadCount, cls := ⟨_, _, _, _, _, _, _, _, _, _, _, _, _, _, _, o_BadCount, rfl⟩, iC := n_BadCount, tC := tf_R, kC := kp_BadCount, exC := sb_BadCount, tyC := ty_BadCount, fn := ⟨_, _, _, _, _, _, _, _, _, _, _, _, l_Rinit, c_Rinit⟩ }
  have ex_BadCount := exm_b sb_BadCount ic_BadCount ty_BadCount ss_BadCount
  have T_TooLong : NzTxt K mg "TooLong" C_TooLong f_Rinit := { gC := PySem.W.mg_of X G g_TooLong, cls := ⟨_, _, _, _, _, _, _, _, _, _, _, _, _, _, _, o_TooLong, rfl⟩, iC := n_TooLong, tC := tf_R, kC := kp_TooLong, exC := sb_TooLong, tyC := ty_TooLong, fn := ⟨_, _, _, _, _, _, _, _, _, _, _, _, l_Rinit, c_Rinit⟩ }
  have ex_TooLong := exm_b sb_TooLong ic_TooLong ty_TooLong ss_TooLong
  have T_NoEntry : NzTxt K mg "NoEntry" C_NoEntry f_Rinit := { gC := PySem.W.mg_of X G g_NoEntry, cls := ⟨_, _, _, _, _, _, _, _, _, _, _, _, _, _, _, o_NoEntry, rfl⟩, iC := n_NoEntry, tC := tf_R, kC := kp_NoEntry, exC := sb_NoEntry, tyC := ty_NoEntry, fn := ⟨_, _, _, _, _, _, _, _, _, _, _, _, l_Rinit, c_Rinit⟩ }
  have ex_NoEntry := exm_b sb_NoEntry ic_NoEntry ty_NoEntry ss_NoEntry
  have T_BadIndex : NzTxt K mg "BadIndex" C_BadIndex f_Rinit := { gC := PySem.W.mg_of X G g_BadIndex, cls := ⟨_, _, _, _, _, _, _, _, _, _, _, _, _, _, _, o_BadIndex, rfl⟩, iC := n_BadIndex, tC := tf_R, kC := kp_BadIndex, exC := sb_BadIndex, tyC := ty_BadIndex, fn := ⟨_, _, _, _, _, _, _, _, _, _, _, _, l_Rinit, c_Rinit⟩ }
  have ex_BadIndex := exm_b sb_BadIndex ic_BadIndex ty_BadIndex ss_BadIndex
  have T_BadParts : NzTxt K mg "BadParts" C_BadParts f_Rinit := { gC := PySem.W.mg_of X G g_BadParts, cls := ⟨_, _, _, _, _, _, _, _, _, _, _, _, _, _, _, o_BadParts, rfl⟩, iC := n_BadParts, tC := tf_R, kC := kp_BadParts, exC := sb_BadParts, tyC := ty_BadParts, fn := ⟨_, _, _, _, _, _, _, _, _, _, _, _, l_Rinit, c_Rinit⟩ }
  have ex_BadParts := exm_b sb_BadParts ic_BadParts ty_BadParts ss_BadParts
  have T_BadValue : NzTxt K mg "BadValue" C_BadValue f_Rinit := { gC := PySem.W.mg_of X G g_BadValue, cls := ⟨_, _, _, _, _, _, _, _, _, _, _, _, _, _, _, o_BadValue, rfl⟩, iC := n_BadValue, tC := tf_R, kC := kp_BadValue, exC := sb_BadValue, tyC := ty_BadValue, fn := ⟨_, _, _, _, _, _, _, _, _, _, _, _, l_Rinit, c_Rinit⟩ }
  have ex_BadValue := exm_b sb_BadValue ic_BadValue ty_BadValue ss_BadValue
  have T_BadRank : NzTxt K mg "BadRank" C_BadRank f_Rinit := { gC := PySem.W.mg_of X G g_BadRank, cls := ⟨_, _, _, _, _, _, _, _, _, _, _, _, _, _, _, o_BadRank, rfl⟩, iC := n_BadRank, tC := tf_R, kC := kp_BadRank, exC := sb_BadRank, tyC := ty_BadRank, fn := ⟨_, _, _, _, _, _, _, _, _, _, _, _, l_Rinit, c_Rinit⟩ }
  have ex_BadRank := exm_b sb_BadRank ic_BadRank ty_BadRank ss_BadRank
  have F_XInvalidText := fun_mk (st := s_InvalidText_init) l_XInvalidText c_XInvalidText k_XInvalidText
  have b_XInvalidText := F_XInvalidText.binds (ps := ["self", "line", "word"]) fun _ _ _ _ _ _ us hl => match us, hl with | [_, _, _], _ => rfl
  have ex_InvalidText := exm_b sb_InvalidText ic_InvalidText ty_InvalidText ss_InvalidText
  have OX_InvalidText : OexC K C_InvalidText := ⟨⟨_, _, _, _, _, _, _, _, _, _, _, _, _, _, _, o_InvalidText, rfl⟩, sa_InvalidText, sb_InvalidText, ty_InvalidText, kp_InvalidText⟩
  have XX_InvalidText : XfC K C_InvalidText := ⟨xa_InvalidText, xg_InvalidText, sb_InvalidText, xd_InvalidText⟩
  have mgC_InvalidText := PySem.W.mg_of X G g_InvalidText
  have F_is_integer := fun_mk (st := s_is_integer) l_is_integer c_is_integer k_is_integer
  have b_is_integer := F_is_integer.binds (ps := ["value"]) fun _ _ _ _ _ _ us hl => match us, hl with | [_], _ => rfl
  have d_is_integer : Fd K mg "is_integer" "is_integer" s_is_integer ["value"] f_is_integer _ := ⟨F_is_integer, PySem.W.mg_of X G a_is_integer, b_is_integer⟩
  have F_is_between := fun_mk (st := s_is_between) l_is_between c_is_between k_is_between
  have b_is_between := F_is_between.binds (ps := ["value", "least", "greatest"]) fun _ _ _ _ _ _ us hl => match us, hl with | [_, _, _], _ => rfl
  have d_is_between : Fd K mg "is_between" "is_between" s_is_between ["value", "least", "greatest"] f_is_between _ := ⟨F_is_between, PySem.W.mg_of X G a_is_between, b_is_between⟩
  have F_is_value := fun_mk (st := s_is_value) l_is_value c_is_value k_is_value
  have b_is_value := F_is_value.binds (ps := ["thing"]) fun _ _ _ _ _ _ us hl => match us, hl with | [_], _ => rfl
  have d_is_value : Fd K mg "is_value" "is_value" s_is_value ["thing"] f_is_value _ := ⟨F_is_value, PySem.W.mg_of X G a_is_value, b_is_value⟩
  have F__is_entry := fun_mk (st := s__is_entry) l__is_entry c__is_entry k__is_entry
  have b__is_entry := F__is_entry.binds (ps := ["many", "thing"]) fun _ _ _ _ _ _ us hl => match us, hl with | [_, _], _ => rfl
  have d__is_entry : Fd K mg "_is_entry" "_is_entry" s__is_entry ["many", "thing"] f__is_entry _ := ⟨F__is_entry, PySem.W.mg_of X G a__is_entry, b__is_entry⟩
  have F__check_entries := fun_mk (st := s__check_entries) l__check_entries c__check_entries k__check_entries
  have b__check_entries := F__check_entries.binds (ps := ["many", "entries"]) fun _ _ _ _ _ _ us hl => match us, hl with | [_, _], _ => rfl
  have d__check_entries : Fd K mg "_check_entries" "_check_entries" s__check_entries ["many", "entries"] f__check_entries _ := ⟨F__check_entries, PySem.W.mg_of X G a__check_entries, b__check_entries⟩
  have F_check_summary := fun_mk (st := s_check_summary) l_check_summary c_check_summary k_check_summary
  have b_check_summary := F_check_summary.binds (ps := ["summary"]) fun _ _ _ _ _ _ us hl => match us, hl with | [_], _ => rfl
  have d_check_summary : Fd K mg "check_summary" "check_summary" s_check_summary ["summary"] f_check_summary _ := ⟨F_check_summary, PySem.W.mg_of X G a_check_summary, b_check_summary⟩
  have F__least_ranks := fun_mk (st := s__least_ranks) l__least_ranks c__least_ranks k__least_ranks
  have b__least_ranks := F__least_ranks.binds (ps := ["summary"]) fun _ _ _ _ _ _ us hl => match us, hl with | [_], _ => rfl
  have d__least_ranks : Fd K mg "_least_ranks" "_least_ranks" s__least_ranks ["summary"] f__least_ranks _ := ⟨F__least_ranks, PySem.W.mg_of X G a__least_ranks, b__least_ranks⟩
  have F__greatest_ranks := fun_mk (st := s__greatest_ranks) l__greatest_ranks c__greatest_ranks k__greatest_ranks
  have b__greatest_ranks := F__greatest_ranks.binds (ps := ["summary"]) fun _ _ _ _ _ _ us hl => match us, hl with | [_], _ => rfl
  have d__greatest_ranks : Fd K mg "_greatest_ranks" "_greatest_ranks" s__greatest_ranks ["summary"] f__greatest_ranks _ := ⟨F__greatest_ranks, PySem.W.mg_of X G a__greatest_ranks, b__greatest_ranks⟩
  have F_tightened := fun_mk (st := s_tightened) l_tightened c_tightened k_tightened
  have b_tightened := F_tightened.binds (ps := ["summary"]) fun _ _ _ _ _ _ us hl => match us, hl with | [_], _ => rfl
  have d_tightened : Fd K mg "tightened" "tightened" s_tightened ["summary"] f_tightened _ := ⟨F_tightened, PySem.W.mg_of X G a_tightened, b_tightened⟩
  have F_surely_tightened := fun_mk (st := s_surely_tightened) l_surely_tightened c_surely_tightened k_surely_tightened
  have b_surely_tightened := F_surely_tightened.binds (ps := ["summary"]) fun _ _ _ _ _ _ us hl => match us, hl with | [_], _ => rfl
  have d_surely_tightened : Fd K mg "surely_tightened" "surely_tightened" s_surely_tightened ["summary"] f_surely_tightened _ := ⟨F_surely_tightened, PySem.W.mg_of X G a_surely_tightened, b_surely_tightened⟩
  have F__with_entries := fun_mk (st := s__with_entries) l__with_entries c__with_entries k__with_entries
  have b__with_entries := F__with_entries.binds (ps := ["summary"]) fun _ _ _ _ _ _ us hl => match us, hl with | [_], _ => rfl
  have d__with_entries : Fd K mg "_with_entries" "_with_entries" s__with_entries ["summary"] f__with_entries _ := ⟨F__with_entries, PySem.W.mg_of X G a__with_entries, b__with_entries⟩
  have F_check_rank := fun_mk (st := s_check_rank) l_check_rank c_check_rank k_check_rank
  have b_check_rank := F_check_rank.binds (ps := ["many", "rank"]) fun _ _ _ _ _ _ us hl => match us, hl with | [_, _], _ => rfl
  have d_check_rank : Fd K mg "check_rank" "check_rank" s_check_rank ["many", "rank"] f_check_rank _ := ⟨F_check_rank, PySem.W.mg_of X G a_check_rank, b_check_rank⟩
  have F__errors := fun_mk (st := s__errors) l__errors c__errors k__errors
  have b__errors := F__errors.binds (ps := ["entries", "rank"]) fun _ _ _ _ _ _ us hl => match us, hl with | [_, _], _ => rfl
  have d__errors : Fd K mg "_errors" "_errors" s__errors ["entries", "rank"] f__errors _ := ⟨F__errors, PySem.W.mg_of X G a__errors, b__errors⟩
  have F_best_index := fun_mk (st := s_best_index) l_best_index c_best_index k_best_index
  have b_best_index := F_best_index.binds (ps := ["entries", "rank"]) fun _ _ _ _ _ _ us hl => match us, hl with | [_, _], _ => rfl
  have d_best_index : Fd K mg "best_index" "best_index" s_best_index ["entries", "rank"] f_best_index _ := ⟨F_best_index, PySem.W.mg_of X G a_best_index, b_best_index⟩
  have F__peaks := fun_mk (st := s__peaks) l__peaks c__peaks k__peaks
  have b__peaks := F__peaks.binds (ps := ["tight"]) fun _ _ _ _ _ _ us hl => match us, hl with | [_], _ => rfl
  have d__peaks : Fd K mg "_peaks" "_peaks" s__peaks ["tight"] f__peaks _ := ⟨F__peaks, PySem.W.mg_of X G a__peaks, b__peaks⟩
  have F_answer := fun_mk (st := s_answer) l_answer c_answer k_answer
  have b_answer := F_answer.binds (ps := ["summary", "rank"]) fun _ _ _ _ _ _ us hl => match us, hl with | [_, _], _ => rfl
  have d_answer : Fd K mg "answer" "answer" s_answer ["summary", "rank"] f_answer _ := ⟨F_answer, PySem.W.mg_of X G a_answer, b_answer⟩
  have F_error_at := fun_mk (st := s_error_at) l_error_at c_error_at k_error_at
  have b_error_at := F_error_at.binds (ps := ["summary", "rank"]) fun _ _ _ _ _ _ us hl => match us, hl with | [_, _], _ => rfl
  have d_error_at : Fd K mg "error_at" "error_at" s_error_at ["summary", "rank"] f_error_at _ := ⟨F_error_at, PySem.W.mg_of X G a_error_at, b_error_at⟩
  have F_worst := fun_mk (st := s_worst) l_worst c_worst k_worst
  have b_worst := F_worst.binds (ps := ["summary"]) fun _ _ _ _ _ _ us hl => match us, hl with | [_], _ => rfl
  have d_worst : Fd K mg "worst" "worst" s_worst ["summary"] f_worst _ := ⟨F_worst, PySem.W.mg_of X G a_worst, b_worst⟩
  have F__check_value := fun_mk (st := s__check_value) l__check_value c__check_value k__check_value
  have b__check_value := F__check_value.binds (ps := ["value"]) fun _ _ _ _ _ _ us hl => match us, hl with | [_], _ => rfl
  have d__check_value : Fd K mg "_check_value" "_check_value" s__check_value ["value"] f__check_value _ := ⟨F__check_value, PySem.W.mg_of X G a__check_value, b__check_value⟩
  have F__many_below := fun_mk (st := s__many_below) l__many_below c__many_below k__many_below
  have b__many_below := F__many_below.binds (ps := ["tight", "value"]) fun _ _ _ _ _ _ us hl => match us, hl with | [_, _], _ => rfl
  have d__many_below : Fd K mg "_many_below" "_many_below" s__many_below ["tight", "value"] f__many_below _ := ⟨F__many_below, PySem.W.mg_of X G a__many_below, b__many_below⟩
  have F_values_at := fun_mk (st := s_values_at) l_values_at c_values_at k_values_at
  have b_values_at := F_values_at.binds (ps := ["summary", "rank"]) fun _ _ _ _ _ _ us hl => match us, hl with | [_, _], _ => rfl
  have d_values_at : Fd K mg "values_at" "values_at" s_values_at ["summary", "rank"] f_values_at _ := ⟨F_values_at, PySem.W.mg_of X G a_values_at, b_values_at⟩
  have F_below := fun_mk (st := s_below) l_below c_below k_below
  have b_below := F_below.binds (ps := ["summary", "value"]) fun _ _ _ _ _ _ us hl => match us, hl with | [_, _], _ => rfl
  have d_below : Fd K mg "below" "below" s_below ["summary", "value"] f_below _ := ⟨F_below, PySem.W.mg_of X G a_below, b_below⟩
  have F_up_to := fun_mk (st := s_up_to) l_up_to c_up_to k_up_to
  have b_up_to := F_up_to.binds (ps := ["summary", "value"]) fun _ _ _ _ _ _ us hl => match us, hl with | [_, _], _ => rfl
  have d_up_to : Fd K mg "up_to" "up_to" s_up_to ["summary", "value"] f_up_to _ := ⟨F_up_to, PySem.W.mg_of X G a_up_to, b_up_to⟩
  have F_check_short := fun_mk (st := s_check_short) l_check_short c_check_short k_check_short
  have b_check_short := F_check_short.binds (ps := ["summary"]) fun _ _ _ _ _ _ us hl => match us, hl with | [_], _ => rfl
  have d_check_short : Fd K mg "check_short" "check_short" s_check_short ["summary"] f_check_short _ := ⟨F_check_short, PySem.W.mg_of X G a_check_short, b_check_short⟩
  have F_surely_short := fun_mk (st := s_surely_short) l_surely_short c_surely_short k_surely_short
  have b_surely_short := F_surely_short.binds (ps := ["summary"]) fun _ _ _ _ _ _ us hl => match us, hl with | [_], _ => rfl
  have d_surely_short : Fd K mg "surely_short" "surely_short" s_surely_short ["summary"] f_surely_short _ := ⟨F_surely_short, PySem.W.mg_of X G a_surely_short, b_surely_short⟩
  have F_filled := fun_mk (st := s_filled) l_filled c_filled k_filled
  have b_filled := F_filled.binds (ps := ["many", "numbers", "first"]) fun _ _ _ _ _ _ us hl => match us, hl with | [_, _, _], _ => rfl
  have d_filled : Fd K mg "filled" "filled" s_filled ["many", "numbers", "first"] f_filled _ := ⟨F_filled, PySem.W.mg_of X G a_filled, b_filled⟩
  have F_row_for := fun_mk (st := s_row_for) l_row_for c_row_for k_row_for
  have b_row_for := F_row_for.binds (ps := ["summary"]) fun _ _ _ _ _ _ us hl => match us, hl with | [_], _ => rfl
  have d_row_for : Fd K mg "row_for" "row_for" s_row_for ["summary"] f_row_for _ := ⟨F_row_for, PySem.W.mg_of X G a_row_for, b_row_for⟩
  have F__check_row := fun_mk (st := s__check_row) l__check_row c__check_row k__check_row
  have b__check_row := F__check_row.binds (ps := ["row"]) fun _ _ _ _ _ _ us hl => match us, hl with | [_], _ => rfl
  have d__check_row : Fd K mg "_check_row" "_check_row" s__check_row ["row"] f__check_row _ := ⟨F__check_row, PySem.W.mg_of X G a__check_row, b__check_row⟩
  have F__have_places := fun_mk (st := s__have_places) l__have_places c__have_places k__have_places
  have b__have_places := F__have_places.binds (ps := ["entries", "ascending"]) fun _ _ _ _ _ _ us hl => match us, hl with | [_, _], _ => rfl
  have d__have_places : Fd K mg "_have_places" "_have_places" s__have_places ["entries", "ascending"] f__have_places _ := ⟨F__have_places, PySem.W.mg_of X G a__have_places, b__have_places⟩
  have F_leaves := fun_mk (st := s_leaves) l_leaves c_leaves k_leaves
  have b_leaves := F_leaves.binds (ps := ["row", "summary"]) fun _ _ _ _ _ _ us hl => match us, hl with | [_, _], _ => rfl
  have d_leaves : Fd K mg "leaves" "leaves" s_leaves ["row", "summary"] f_leaves _ := ⟨F_leaves, PySem.W.mg_of X G a_leaves, b_leaves⟩
  have F__check_ranks := fun_mk (st := s__check_ranks) l__check_ranks c__check_ranks k__check_ranks
  have b__check_ranks := F__check_ranks.binds (ps := ["many", "ranks"]) fun _ _ _ _ _ _ us hl => match us, hl with | [_, _], _ => rfl
  have d__check_ranks : Fd K mg "_check_ranks" "_check_ranks" s__check_ranks ["many", "ranks"] f__check_ranks _ := ⟨F__check_ranks, PySem.W.mg_of X G a__check_ranks, b__check_ranks⟩
  have F_kept_from := fun_mk (st := s_kept_from) l_kept_from c_kept_from k_kept_from
  have b_kept_from := F_kept_from.binds (ps := ["row", "ranks"]) fun _ _ _ _ _ _ us hl => match us, hl with | [_, _], _ => rfl
  have d_kept_from : Fd K mg "kept_from" "kept_from" s_kept_from ["row", "ranks"] f_kept_from _ := ⟨F_kept_from, PySem.W.mg_of X G a_kept_from, b_kept_from⟩
  have F__keeps := fun_mk (st := s__keeps) l__keeps c__keeps k__keeps
  have b__keeps := F__keeps.binds (ps := ["tight", "indexes", "error"]) fun _ _ _ _ _ _ us hl => match us, hl with | [_, _, _], _ => rfl
  have d__keeps : Fd K mg "_keeps" "_keeps" s__keeps ["tight", "indexes", "error"] f__keeps _ := ⟨F__keeps, PySem.W.mg_of X G a__keeps, b__keeps⟩
  have F_fewest := fun_mk (st := s_fewest) l_fewest c_fewest k_fewest
  have b_fewest := F_fewest.binds (ps := ["summary", "error"]) fun _ _ _ _ _ _ us hl => match us, hl with | [_, _], _ => rfl
  have d_fewest : Fd K mg "fewest" "fewest" s_fewest ["summary", "error"] f_fewest _ := ⟨F_fewest, PySem.W.mg_of X G a_fewest, b_fewest⟩
  have F_without := fun_mk (st := s_without) l_without c_without k_without
  have b_without := F_without.binds (ps := ["summary", "index"]) fun _ _ _ _ _ _ us hl => match us, hl with | [_, _], _ => rfl
  have d_without : Fd K mg "without" "without" s_without ["summary", "index"] f_without _ := ⟨F_without, PySem.W.mg_of X G a_without, b_without⟩
  have F__raised := fun_mk (st := s__raised) l__raised c__raised k__raised
  have b__raised := F__raised.binds (ps := ["entry", "ranks"]) fun _ _ _ _ _ _ us hl => match us, hl with | [_, _], _ => rfl
  have d__raised : Fd K mg "_raised" "_raised" s__raised ["entry", "ranks"] f__raised _ := ⟨F__raised, PySem.W.mg_of X G a__raised, b__raised⟩
  have F__check_room := fun_mk (st := s__check_room) l__check_room c__check_room k__check_room
  have b__check_room := F__check_room.binds (ps := ["length"]) fun _ _ _ _ _ _ us hl => match us, hl with | [_], _ => rfl
  have d__check_room : Fd K mg "_check_room" "_check_room" s__check_room ["length"] f__check_room _ := ⟨F__check_room, PySem.W.mg_of X G a__check_room, b__check_room⟩
  have F_check_value := fun_mk (st := s_check_value) l_check_value c_check_value k_check_value
  have b_check_value := F_check_value.binds (ps := ["thing"]) fun _ _ _ _ _ _ us hl => match us, hl with | [_], _ => rfl
  have d_check_value : Fd K mg "check_value" "check_value" s_check_value ["thing"] f_check_value _ := ⟨F_check_value, PySem.W.mg_of X G a_check_value, b_check_value⟩
  have F_entries_with := fun_mk (st := s_entries_with) l_entries_with c_entries_with k_entries_with
  have b_entries_with := F_entries_with.binds (ps := ["many", "entries", "value"]) fun _ _ _ _ _ _ us hl => match us, hl with | [_, _, _], _ => rfl
  have d_entries_with : Fd K mg "entries_with" "entries_with" s_entries_with ["many", "entries", "value"] f_entries_with _ := ⟨F_entries_with, PySem.W.mg_of X G a_entries_with, b_entries_with⟩
  have F_put_in := fun_mk (st := s_put_in) l_put_in c_put_in k_put_in
  have b_put_in := F_put_in.binds (ps := ["summary", "value"]) fun _ _ _ _ _ _ us hl => match us, hl with | [_, _], _ => rfl
  have d_put_in : Fd K mg "put_in" "put_in" s_put_in ["summary", "value"] f_put_in _ := ⟨F_put_in, PySem.W.mg_of X G a_put_in, b_put_in⟩
  have F_joined := fun_mk (st := s_joined) l_joined c_joined k_joined
  have b_joined := F_joined.binds (ps := ["one", "other"]) fun _ _ _ _ _ _ us hl => match us, hl with | [_, _], _ => rfl
  have FC_joined : FunC K "joined" "joined" s_joined f_joined cL _ := ⟨⟨_, _, _, _, _, _, _, _, rfl, l_joined, c_joined⟩⟩
  have d_joined : Fd K mg "joined" "joined" s_joined ["one", "other"] f_joined _ := ⟨F_joined, PySem.W.mg_of X G a_joined, b_joined⟩
  have F__first_to_leave_out := fun_mk (st := s__first_to_leave_out) l__first_to_leave_out c__first_to_leave_out k__first_to_leave_out
  have b__first_to_leave_out := F__first_to_leave_out.binds (ps := ["entries", "spread"]) fun _ _ _ _ _ _ us hl => match us, hl with | [_, _], _ => rfl
  have d__first_to_leave_out : Fd K mg "_first_to_leave_out" "_first_to_leave_out" s__first_to_leave_out ["entries", "spread"] f__first_to_leave_out _ := ⟨F__first_to_leave_out, PySem.W.mg_of X G a__first_to_leave_out, b__first_to_leave_out⟩
  have F__thinned := fun_mk (st := s__thinned) l__thinned c__thinned k__thinned
  have b__thinned := F__thinned.binds (ps := ["entries", "spread"]) fun _ _ _ _ _ _ us hl => match us, hl with | [_, _], _ => rfl
  have d__thinned : Fd K mg "_thinned" "_thinned" s__thinned ["entries", "spread"] f__thinned _ := ⟨F__thinned, PySem.W.mg_of X G a__thinned, b__thinned⟩
  have F__words := fun_mk (st := s__words) l__words c__words k__words
  have b__words := F__words.binds (ps := ["line"]) fun _ _ _ _ _ _ us hl => match us, hl with | [_], _ => rfl
  have d__words : Fd K mg "_words" "_words" s__words ["line"] f__words _ := ⟨F__words, PySem.W.mg_of X G a__words, b__words⟩
  have F__number := fun_mk (st := s__number) l__number c__number k__number
  have b__number := F__number.binds (ps := ["word"]) fun _ _ _ _ _ _ us hl => match us, hl with | [_], _ => rfl
  have d__number : Fd K mg "_number" "_number" s__number ["word"] f__number _ := ⟨F__number, PySem.W.mg_of X G a__number, b__number⟩
  have F__number_at := fun_mk (st := s__number_at) l__number_at c__number_at k__number_at
  have b__number_at := F__number_at.binds (ps := ["line", "words", "word", "least", "greatest"]) fun _ _ _ _ _ _ us hl => match us, hl with | [_, _, _, _, _], _ => rfl
  have d__number_at : Fd K mg "_number_at" "_number_at" s__number_at ["line", "words", "word", "least", "greatest"] f__number_at _ := ⟨F__number_at, PySem.W.mg_of X G a__number_at, b__number_at⟩
  have F__check_end := fun_mk (st := s__check_end) l__check_end c__check_end k__check_end
  have b__check_end := F__check_end.binds (ps := ["line", "words", "last"]) fun _ _ _ _ _ _ us hl => match us, hl with | [_, _, _], _ => rfl
  have d__check_end : Fd K mg "_check_end" "_check_end" s__check_end ["line", "words", "last"] f__check_end _ := ⟨F__check_end, PySem.W.mg_of X G a__check_end, b__check_end⟩
  have F__read_count := fun_mk (st := s__read_count) l__read_count c__read_count k__read_count
  have b__read_count := F__read_count.binds (ps := ["words"]) fun _ _ _ _ _ _ us hl => match us, hl with | [_], _ => rfl
  have d__read_count : Fd K mg "_read_count" "_read_count" s__read_count ["words"] f__read_count _ := ⟨F__read_count, PySem.W.mg_of X G a__read_count, b__read_count⟩
  have F__read_entry := fun_mk (st := s__read_entry) l__read_entry c__read_entry k__read_entry
  have b__read_entry := F__read_entry.binds (ps := ["line", "words", "least", "many"]) fun _ _ _ _ _ _ us hl => match us, hl with | [_, _, _, _], _ => rfl
  have d__read_entry : Fd K mg "_read_entry" "_read_entry" s__read_entry ["line", "words", "least", "many"] f__read_entry _ := ⟨F__read_entry, PySem.W.mg_of X G a__read_entry, b__read_entry⟩
  have F_write_summary := fun_mk (st := s_write_summary) l_write_summary c_write_summary k_write_summary
  have b_write_summary := F_write_summary.binds (ps := ["summary"]) fun _ _ _ _ _ _ us hl => match us, hl with | [_], _ => rfl
  have d_write_summary : Fd K mg "write_summary" "write_summary" s_write_summary ["summary"] f_write_summary _ := ⟨F_write_summary, PySem.W.mg_of X G a_write_summary, b_write_summary⟩
  have F_read_summary := fun_mk (st := s_read_summary) l_read_summary c_read_summary k_read_summary
  have b_read_summary := F_read_summary.binds (ps := ["text"]) fun _ _ _ _ _ _ us hl => match us, hl with | [_], _ => rfl
  have d_read_summary : Fd K mg "read_summary" "read_summary" s_read_summary ["text"] f_read_summary _ := ⟨F_read_summary, PySem.W.mg_of X G a_read_summary, b_read_summary⟩
  have F__law_mix := fun_mk (st := s__law_mix) l__law_mix c__law_mix k__law_mix
  have b__law_mix := F__law_mix.binds (ps := ["_law_script", "_law_seed"]) fun _ _ _ _ _ _ us hl => match us, hl with | [_, _], _ => rfl
  have d__law_mix : Fd K mg "_law_mix" "_law_mix" s__law_mix ["_law_script", "_law_seed"] f__law_mix _ := ⟨F__law_mix, PySem.W.mg_of X G a__law_mix, b__law_mix⟩
  have F__law_next := fun_mk (st := s__law_next) l__law_next c__law_next k__law_next
  have b__law_next := F__law_next.binds (ps := ["_law_h", "_law_bound"]) fun _ _ _ _ _ _ us hl => match us, hl with | [_, _], _ => rfl
  have d__law_next : Fd K mg "_law_next" "_law_next" s__law_next ["_law_h", "_law_bound"] f__law_next _ := ⟨F__law_next, PySem.W.mg_of X G a__law_next, b__law_next⟩
  have F__law_answers := fun_mk (st := s__law_answers) l__law_answers c__law_answers k__law_answers
  have b__law_answers := F__law_answers.binds (ps := ["_law_made", "_law_keeper"]) fun _ _ _ _ _ _ us hl => match us, hl with | [_, _], _ => rfl
  have d__law_answers : Fd K mg "_law_answers" "_law_answers" s__law_answers ["_law_made", "_law_keeper"] f__law_answers _ := ⟨F__law_answers, PySem.W.mg_of X G a__law_answers, b__law_answers⟩
  have F_law := fun_mk (st := s_law) l_law c_law k_law
  have b_law := F_law.binds (ps := ["_law_script"]) fun _ _ _ _ _ _ us hl => match us, hl with | [_], _ => rfl
  refine ⟨PySem.W.fnOf "law" "law" (defArgs s_law) (defBody s_law) (defScope s_law) .none kV_law dc_law pm_law an_law cd_law ct_law, [(cL, PL)], spLawT PL K, fun p hp => by rw [List.mem_singleton.mp hp]; exact hPt, fun p hp => by rw [List.mem_singleton.mp hp]; exact nPL, fun p hp => by rw [List.mem_singleton.mp hp]; exact PySem.W.codeHd_of_K X hcd, fun s v => .of_eq rfl, fun H a ns hl _ hT hS => ⟨a, ns, rfl, hS, hl, fun q hq => by rw [List.mem_singleton.mp hq]; exact LamX.TabS.nil (hT _ (List.mem_singleton.mpr rfl)), fun _ => rfl⟩, fun base _ _ TBs => ?_⟩
  have TB := TBs _ (List.mem_singleton.mpr rfl)
  have D_is_integer := d_is_integer.dn (ok_is_integer (P := l.prog) (w := w) (base := base) d_is_integer.F m_isinstance m_int m_bool)
  have D_is_between := d_is_between.dn (ok_is_between (P := l.prog) (w := w) (base := base) d_is_between.F D_is_integer)
  have D_is_value := d_is_value.dn (ok_is_value (P := l.prog) (w := w) (base := base) d_is_value.F D_is_between m_GREATEST_VALUE)
  have D__is_entry := d__is_entry.dn (ok__is_entry (P := l.prog) (w := w) (base := base) d__is_entry.F D_is_between D_is_value m_isinstance m_tuple m_len)
  have D__check_entries := d__check_entries.dn (ok__check_entries (P := l.prog) (w := w) (base := base) d__check_entries.F D__is_entry m_isinstance m_tuple m_len m_enumerate m_GREATEST_VALUE m_MOST_ENTRIES)
  have DS : DnMk l.prog w K mg base C := ⟨f_Sinit, _, ⟨mk, a_Sinit, i_Sinit, kc⟩, ok_Summary_init F_Sinit T D_is_between D__check_entries m_GREATEST_COUNT, b_Sinit⟩
  have DM : Pr l.prog w K mg base C "many" 1 (getSp C "_many") := ⟨p_Smany, f_Smany, _, ⟨a_Smany, q_Smany, t_Smany, _, r_Smany⟩, ok_Summary_many F_Smany T, b_Smany⟩
  have DE : Pr l.prog w K mg base C "entries" 1 (getSp C "_entries") := ⟨p_Sentries, f_Sentries, _, ⟨a_Sentries, q_Sentries, t_Sentries, _, r_Sentries⟩, ok_Summary_entries F_Sentries T, b_Sentries⟩
  have D_check_summary := d_check_summary.dn (ok_check_summary (P := l.prog) (w := w) (base := base) d_check_summary.F T m_isinstance)
  have D__least_ranks := d__least_ranks.dn (ok__least_ranks (P := l.prog) (w := w) (base := base) d__least_ranks.F T DE m_max)
  have D__greatest_ranks := d__greatest_ranks.dn (ok__greatest_ranks (P := l.prog) (w := w) (base := base) d__greatest_ranks.F T DE DM m_min m_reversed)
  have D_tightened := d_tightened.dn (ok_tightened (P := l.prog) (w := w) (base := base) d_tightened.F T DE DM D_check_summary D__least_ranks D__greatest_ranks DS m_zip m_tuple)
  have DQ : DEq l.prog w K mg base C := ⟨f_Seq, _, ok_Summary_eq F_Seq T m_isinstance, a_Seq, i_Seq, b_Seq⟩
  have D_is_integerA := d_is_integer.dn (ok_is_integerA (P := l.prog) (w := w) (base := base) d_is_integer.F m_isinstance m_int m_bool)
  have D_is_betweenA := d_is_between.dn (ok_is_betweenA (P := l.prog) (w := w) (base := base) d_is_between.F D_is_integerA)
  have D_is_valueA := d_is_value.dn (ok_is_valueA (P := l.prog) (w := w) (base := base) d_is_value.F D_is_betweenA m_GREATEST_VALUE)
  have D_check_valueA := d_check_value.dnx (ok_check_valueA (P := l.prog) (w := w) (base := base) d_check_value.F D_is_valueA T_BadValue)
  have D_check_rankA := d_check_rank.dnx (ok_check_rankA (P := l.prog) (w := w) (base := base) d_check_rank.F D_is_betweenA T_BadRank)
  have DSX : DnMkX l.prog w K mg base C C_BadCount := ⟨f_Sinit, _, ⟨mk, a_Sinit, i_Sinit, kc⟩, ok_Summary_initX F_Sinit T D_is_between D__check_entries m_GREATEST_COUNT T_BadCount, b_Sinit⟩
  have DL : DLen l.prog w K mg base C := ⟨f_Slen, _, ok_Summary_len F_Slen T m_len, a_Slen, i_Slen, b_Slen⟩
  have D_surely_tightened := d_surely_tightened.dnx (ok_surely_tightened (P := l.prog) (w := w) (base := base) d_surely_tightened.F D_tightened T_NoRow)
  have D__with_entries := d__with_entries.dnx (ok__with_entries (P := l.prog) (w := w) (base := base) d__with_entries.F D_surely_tightened T_NoEntry DL m_len)
  have D_check_rank := d_check_rank.dn (ok_check_rank (P := l.prog) (w := w) (base := base) d_check_rank.F D_is_between)
  have D__errors := d__errors.dn (ok__errors (P := l.prog) (w := w) (base := base) d__errors.F m_max m_abs)
  have D_best_index := d_best_index.dn (ok_best_index (P := l.prog) (w := w) (base := base) d_best_index.F D__errors m_min)
  have D__peaks := d__peaks.dn (ok__peaks (P := l.prog) (w := w) (base := base) d__peaks.F T DE DM)
  have D_answer := d_answer.dn (ok_answer (P := l.prog) (w := w) (base := base) d_answer.F T DE DM D__with_entries D_check_rank D_best_index)
  have D_error_at := d_error_at.dn (ok_error_at (P := l.prog) (w := w) (base := base) d_error_at.F T DE DM D__with_entries D_check_rank D__errors m_min)
  have D_worst := d_worst.dnx (ok_worst (P := l.prog) (w := w) (base := base) d_worst.F T DE D__with_entries D__peaks D__errors m_min m_max m_zip)
  have D__check_value := d__check_value.dn (ok__check_value (P := l.prog) (w := w) (base := base) d__check_value.F D_is_integer)
  have D__many_below := d__many_below.dn (ok__many_below (P := l.prog) (w := w) (base := base) d__many_below.F T DE DM m_max m_min)
  have D_values_at := d_values_at.dn (ok_values_at (P := l.prog) (w := w) (base := base) d_values_at.F T DE D_surely_tightened DM D_check_rank m_max m_min)
  have D_below := d_below.dn (ok_below (P := l.prog) (w := w) (base := base) d_below.F D_surely_tightened D__check_value D__many_below)
  have D_up_to := d_up_to.dn (ok_up_to (P := l.prog) (w := w) (base := base) d_up_to.F D_surely_tightened D__check_value D__many_below)
  have D_check_short := d_check_short.dnx (ok_check_short (P := l.prog) (w := w) (base := base) d_check_short.F T DM m_MOST_NUMBERS T_TooLong)
  have D_surely_short := d_surely_short.dnx (ok_surely_short (P := l.prog) (w := w) (base := base) d_surely_short.F D_surely_tightened D_check_short)
  have D_filled := d_filled.dn (ok_filled (P := l.prog) (w := w) (base := base) d_filled.F m_range m_tuple)
  have D_row_for := d_row_for.dnx (ok_row_for (P := l.prog) (w := w) (base := base) d_row_for.F T D_surely_short D_filled DE DM m_min)
  have D__check_row := d__check_row.dn (ok__check_row (P := l.prog) (w := w) (base := base) d__check_row.F D_is_integer D_is_between m_isinstance m_tuple m_len m_all m_MOST_NUMBERS)
  have D__have_places := d__have_places.dn (ok__have_places (P := l.prog) (w := w) (base := base) d__have_places.F m_max)
  have D_leaves := d_leaves.dn (ok_leaves (P := l.prog) (w := w) (base := base) d_leaves.F T D__check_row D_check_summary D__have_places DE DM m_len m_sorted)
  have D__check_ranks := d__check_ranks.dn (ok__check_ranks (P := l.prog) (w := w) (base := base) d__check_ranks.F D_is_between m_isinstance m_tuple m_len m_MOST_ENTRIES)
  have D_kept_from := d_kept_from.dn (ok_kept_from (P := l.prog) (w := w) (base := base) d_kept_from.F T D__check_row D_is_value D__check_ranks DS m_len m_all m_sorted m_tuple)
  have D__keeps := d__keeps.dn (ok__keeps (P := l.prog) (w := w) (base := base) d__keeps.F T DE m_max DM)
  have D_fewest := d_fewest.dnx (ok_fewest (P := l.prog) (w := w) (base := base) d_fewest.F D_surely_tightened D_is_integer m_range m_len DL D__keeps m_combinations)
  have D_without := d_without.dnx (ok_without (P := l.prog) (w := w) (base := base) d_without.F D_check_summary D_is_between m_len DL T_BadIndex T DE DS DM)
  have D__raised := d__raised.dn (ok__raised (P := l.prog) (w := w) (base := base) d__raised.F )
  have D__check_room := d__check_room.dnx (ok__check_room (P := l.prog) (w := w) (base := base) d__check_room.F m_MOST_ENTRIES T_Full)
  have D_check_value := d_check_value.dn (ok_check_value (P := l.prog) (w := w) (base := base) d_check_value.F D_is_value)
  have D_entries_with := d_entries_with.dn (ok_entries_with (P := l.prog) (w := w) (base := base) d_entries_with.F m_tuple D__raised)
  have D_put_in := d_put_in.dnx (ok_put_in (P := l.prog) (w := w) (base := base) d_put_in.F D_surely_tightened D_check_value D__check_room m_len DL T DS D_entries_with DE DM)
  have D_joined := d_joined.dnx (ok_joined (P := l.prog) (w := w) (base := base) FC_joined D_check_summary D_surely_tightened D__check_room m_len DL T DE D__raised D_below D_up_to DM DSX m_tuple m_sorted TB)
  have D__first_to_leave_out := d__first_to_leave_out.dn (ok__first_to_leave_out (P := l.prog) (w := w) (base := base) d__first_to_leave_out.F m_range m_len)
  have D__thinned := d__thinned.dn (ok__thinned (P := l.prog) (w := w) (base := base) d__thinned.F m_list D__first_to_leave_out m_tuple)
  have DKS : DnMkK l.prog w K mg base CK C_BadParts := ⟨f_Kinit, _, ⟨mkK, a_Kinit, i_Kinit, kcK⟩, ok_Keeper_init F_Kinit D_is_betweenA m_MOST_PARTS m_LEAST_PARTS T_BadParts TK, b_Kinit⟩
  have DKM : Pr l.prog w K mg base CK "many" 2 (spKMany CK) := ⟨p_Kmany, f_Kmany, _, ⟨a_Kmany, q_Kmany, t_Kmany, _, r_Kmany⟩, ok_Keeper_many F_Kmany m_len TK, b_Kmany⟩
  have DKE : Pr l.prog w K mg base CK "entries" 2 (spKEnt CK) := ⟨p_Kentries, f_Kentries, _, ⟨a_Kentries, q_Kentries, t_Kentries, _, r_Kentries⟩, ok_Keeper_entries F_Kentries TK, b_Kentries⟩
  have DLK : DLenK l.prog w K mg base CK := ⟨f_Klen, _, ok_Keeper_len F_Klen m_len TK, a_Klen, i_Klen, b_Klen⟩
  have DK_see : MtX l.prog w K mg base CK "see" ["self", "value"] 6 (spKSee K CK C_BadValue C_Full C_TooLong) := ⟨f_Ksee, _, M_Ksee, ok_Keeper_see F_Ksee D_check_valueA TK DKM D__thinned D_entries_with DKE m_len m_MOST_KEPT T_Full m_MOST_SEEN T_TooLong, b_Ksee⟩
  have DK_answer : MtX l.prog w K mg base CK "answer" ["self", "rank"] 5 (spKAns K CK C_BadRank) := ⟨f_Kanswer, _, M_Kanswer, ok_Keeper_answer F_Kanswer D_check_rankA TK DKM DKE D_best_index, b_Kanswer⟩
  have DK_undo : Mt l.prog w K mg base CK "undo" ["self"] 4 (spKUndo CK) := ⟨f_Kundo, _, M_Kundo, ok_Keeper_undo F_Kundo TK DKM, b_Kundo⟩
  have DK_copy : Mt l.prog w K mg base CK "copy" ["self"] 5 (spKCopy CK) := ⟨f_Kcopy, _, M_Kcopy, ok_Keeper_copy F_Kcopy TK DKS m_list, b_Kcopy⟩
  have X_InvalidText : FxT l.prog w K mg base "InvalidText" C_InvalidText ["self", "line", "word"] (spI2 C_InvalidText "line" "word") := ⟨OX_InvalidText, XX_InvalidText, PySem.W.mg_of X G g_InvalidText, f_XInvalidText, _, n_InvalidText, tf_InvalidText, ok_InvalidText_init F_XInvalidText OX_InvalidText nf_InvalidText_line nf_InvalidText_word, b_XInvalidText⟩
  have D__words := d__words.dn (ok__words (P := l.prog) (w := w) (base := base) d__words.F )
  have D__number := d__number.dn (ok__number (P := l.prog) (w := w) (base := base) d__number.F m_len m_MOST_DIGITS m_int m_str)
  have D__number_at := d__number_at.dnx (ok__number_at (P := l.prog) (w := w) (base := base) d__number_at.F m_len D__number X_InvalidText)
  have D__check_end := d__check_end.dnx (ok__check_end (P := l.prog) (w := w) (base := base) d__check_end.F m_len X_InvalidText)
  have D__read_count := d__read_count.dnx (ok__read_count (P := l.prog) (w := w) (base := base) d__read_count.F X_InvalidText D__number_at m_GREATEST_COUNT D__check_end)
  have D__read_entry := d__read_entry.dnx (ok__read_entry (P := l.prog) (w := w) (base := base) d__read_entry.F D__number_at m_GREATEST_VALUE D__check_end)
  have D_write_summary := d_write_summary.dn (ok_write_summary (P := l.prog) (w := w) (base := base) d_write_summary.F D_check_summary T DM DE)
  have D_read_summary := d_read_summary.dnx (ok_read_summary (P := l.prog) (w := w) (base := base) d_read_summary.F D__read_count D__words m_GREATEST_VALUE m_enumerate m_len m_MOST_ENTRIES X_InvalidText D__read_entry T DS m_tuple)
  have D__law_mix := d__law_mix.dn (ok__law_mix (P := l.prog) (w := w) (base := base) d__law_mix.F m_int m_list)
  have D__law_next := d__law_next.dn (ok__law_next (P := l.prog) (w := w) (base := base) d__law_next.F m_int m_max m_len)
  have D__law_answers := d__law_answers.dn (ok__law_answers (P := l.prog) (w := w) (base := base) d__law_answers.F D_row_for D_up_to D_below D_values_at D_tightened T DE D_put_in D_write_summary D_leaves TK DKM DKE D_kept_from D_joined D_read_summary DK_answer m_len DLK DL D_without D_fewest D_worst D_error_at D_answer)
  exact ok_law F_law D__law_mix D__law_next m_sorted m_range m_len m_min m_max TK DKS T DS m_tuple DK_see D__law_answers DK_copy DK_undo DQ DKM
end SR
open PySem PySem.W PyProof.Rows
set_option maxRecDepth 100000 in
set_option maxHeartbeats 0 in
theorem PySem.Challenge.cw_shortranks_k12_asked_again_holds : PySem.Challenge.rw_shortranks_k12_asked_again.Holds := by
  w_on; o_law; k_head; (case hw => w_witness2)
  k_fill
  refine LamX.walk_ofTs (l := PySem.Challenge.rw_shortranks_k12_asked_again) (n := 63) (k := 13) (x := "_law_script") (CX := fun _ => L2.CX0) rfl (by decide) rfl ⟨rfl, by decide, by decide⟩ (fun w h Y => PySem.W.km_in_of Y) ?F (fun _ _ _ _ _ h => h)
  case F =>
    intro w mg fa h Y KX G hmg
    have hTab := PySem.W.km_tabs_of Y
    refine' SR.all_mk KX G hmg ?z_isinstance ?z_int ?z_bool ?z_tuple ?z_len ?z_enumerate ?z_max ?z_min ?z_reversed ?z_zip ?z_list ?z_sorted ?z_range ?z_all ?z_str ?z_abs ?t_tab ?hcd ?nPL ?hPt ?g_combinations ?g_GREATEST_COUNT ?e_GREATEST_COUNT ?g_GREATEST_VALUE ?e_GREATEST_VALUE ?g_MOST_ENTRIES ?e_MOST_ENTRIES ?g_MOST_NUMBERS ?e_MOST_NUMBERS ?g_MOST_DIGITS ?e_MOST_DIGITS ?g_LEAST_PARTS ?e_LEAST_PARTS ?g_MOST_PARTS ?e_MOST_PARTS ?g_MOST_KEPT ?e_MOST_KEPT ?g_MOST_SEEN ?e_MOST_SEEN ?aC ?a_Sinit ?i_Sinit ?l_Sinit ?c_Sinit ?k_Sinit ?a_Smany ?q_Smany ?t_Smany ?r_Smany ?l_Smany ?c_Smany ?k_Smany ?a_Sentries ?q_Sentries ?t_Sentries ?r_Sentries ?l_Sentries ?c_Sentries ?k_Sentries ?a_Slen ?i_Slen ?l_Slen ?c_Slen ?k_Slen ?a_Seq ?i_Seq ?l_Seq ?c_Seq ?k_Seq ?pg ?hd ?po ?sa ?mk ?kc ?ha ?hn ?htk ?hm ?nM ?nE ?ic ?ty ?st ?nf1 ?nf2 ?aCK ?a_Kinit ?i_Kinit ?l_Kinit ?c_Kinit ?k_Kinit ?a_Kmany ?q_Kmany ?t_Kmany ?r_Kmany ?l_Kmany ?c_Kmany ?k_Kmany ?a_Kentries ?q_Kentries ?t_Kentries ?r_Kentries ?l_Kentries ?c_Kentries ?k_Kentries ?a_Ksee ?i_Ksee ?l_Ksee ?c_Ksee ?k_Ksee ?a_Kanswer ?i_Kanswer ?l_Kanswer ?c_Kanswer ?k_Kanswer ?a_Kundo ?i_Kundo ?l_Kundo ?c_Kundo ?k_Kundo ?a_Kcopy ?i_Kcopy ?l_Kcopy ?c_Kcopy ?k_Kcopy ?a_Klen ?i_Klen ?l_Klen ?c_Klen ?k_Klen ?pgK ?hdK ?poK ?saK ?mkK ?kcK ?nPK ?nSK ?g_NoRow ?n_NoRow ?tf_R ?l_Rinit ?c_Rinit ?k_Rinit ?o_NoRow ?kp_NoRow ?sb_NoRow ?ty_NoRow ?ic_NoRow ?ss_NoRow ?g_Full ?o_Full ?n_Full ?kp_Full ?sb_Full ?ty_Full ?ic_Full ?ss_Full ?g_BadCount ?o_BadCount ?n_BadCount ?kp_BadCount ?sb_BadCount ?ty_BadCount ?ic_BadCount ?ss_BadCount ?g_TooLong ?o_TooLong ?n_TooLong ?kp_TooLong ?sb_TooLong ?ty_TooLong ?ic_TooLong ?ss_TooLong ?g_NoEntry ?o_NoEntry ?n_NoEntry ?kp_NoEntry ?sb_NoEntry ?ty_NoEntry ?ic_NoEntry ?ss_NoEntry ?g_BadIndex ?o_BadIndex ?n_BadIndex ?kp_BadIndex ?sb_BadIndex ?ty_BadIndex ?ic_BadIndex ?ss_BadIndex ?g_BadParts ?o_BadParts ?n_BadParts ?kp_BadParts ?sb_BadParts ?ty_BadParts ?ic_BadParts ?ss_BadParts ?g_BadValue ?o_BadValue ?n_BadValue ?kp_BadValue ?sb_BadValue ?ty_BadValue ?ic_BadValue ?ss_BadValue ?g_BadRank ?o_BadRank ?n_BadRank ?kp_BadRank ?sb_BadRank ?ty_BadRank ?ic_BadRank ?ss_BadRank ?g_InvalidText ?n_InvalidText ?tf_InvalidText ?l_XInvalidText ?c_XInvalidText ?k_XInvalidText ?o_InvalidText ?kp_InvalidText ?sb_InvalidText ?ty_InvalidText ?ic_InvalidText ?ss_InvalidText ?sa_InvalidText ?xa_InvalidText ?xg_InvalidText ?xd_InvalidText ?nf_InvalidText_line ?nf_InvalidText_word ?a_is_integer ?l_is_integer ?c_is_integer ?k_is_integer ?a_is_between ?l_is_between ?c_is_between ?k_is_between ?a_is_value ?l_is_value ?c_is_value ?k_is_value ?a__is_entry ?l__is_entry ?c__is_entry ?k__is_entry ?a__check_entries ?l__check_entries ?c__check_entries ?k__check_entries ?a_check_summary ?l_check_summary ?c_check_summary ?k_check_summary ?a__least_ranks ?l__least_ranks ?c__least_ranks ?k__least_ranks ?a__greatest_ranks ?l__greatest_ranks ?c__greatest_ranks ?k__greatest_ranks ?a_tightened ?l_tightened ?c_tightened ?k_tightened ?a_surely_tightened ?l_surely_tightened ?c_surely_tightened ?k_surely_tightened ?a__with_entries ?l__with_entries ?c__with_entries ?k__with_entries ?a_check_rank ?l_check_rank ?c_check_rank ?k_check_rank ?a__errors ?l__errors ?c__errors ?k__errors ?a_best_index ?l_best_index ?c_best_index ?k_best_index ?a__peaks ?l__peaks ?c__peaks ?k__peaks ?a_answer ?l_answer ?c_answer ?k_answer ?a_error_at ?l_error_at ?c_error_at ?k_error_at ?a_worst ?l_worst ?c_worst ?k_worst ?a__check_value ?l__check_value ?c__check_value ?k__check_value ?a__many_below ?l__many_below ?c__many_below ?k__many_below ?a_values_at ?l_values_at ?c_values_at ?k_values_at ?a_below ?l_below ?c_below ?k_below ?a_up_to ?l_up_to ?c_up_to ?k_up_to ?a_check_short ?l_check_short ?c_check_short ?k_check_short ?a_surely_short ?l_surely_short ?c_surely_short ?k_surely_short ?a_filled ?l_filled ?c_filled ?k_filled ?a_row_for ?l_row_for ?c_row_for ?k_row_for ?a__check_row ?l__check_row ?c__check_row ?k__check_row ?a__have_places ?l__have_places ?c__have_places ?k__have_places ?a_leaves ?l_leaves ?c_leaves ?k_leaves ?a__check_ranks ?l__check_ranks ?c__check_ranks ?k__check_ranks ?a_kept_from ?l_kept_from ?c_kept_from ?k_kept_from ?a__keeps ?l__keeps ?c__keeps ?k__keeps ?a_fewest ?l_fewest ?c_fewest ?k_fewest ?a_without ?l_without ?c_without ?k_without ?a__raised ?l__raised ?c__raised ?k__raised ?a__check_room ?l__check_room ?c__check_room ?k__check_room ?a_check_value ?l_check_value ?c_check_value ?k_check_value ?a_entries_with ?l_entries_with ?c_entries_with ?k_entries_with ?a_put_in ?l_put_in ?c_put_in ?k_put_in ?a_joined ?l_joined ?c_joined ?k_joined ?cde ?a__first_to_leave_out ?l__first_to_leave_out ?c__first_to_leave_out ?k__first_to_leave_out ?a__thinned ?l__thinned ?c__thinned ?k__thinned ?a__words ?l__words ?c__words ?k__words ?a__number ?l__number ?c__number ?k__number ?a__number_at ?l__number_at ?c__number_at ?k__number_at ?a__check_end ?l__check_end ?c__check_end ?k__check_end ?a__read_count ?l__read_count ?c__read_count ?k__read_count ?a__read_entry ?l__read_entry ?c__read_entry ?k__read_entry ?a_write_summary ?l_write_summary ?c_write_summary ?k_write_summary ?a_read_summary ?l_read_summary ?c_read_summary ?k_read_summary ?a__law_mix ?l__law_mix ?c__law_mix ?k__law_mix ?a__law_next ?l__law_next ?c__law_next ?k__law_next ?a__law_answers ?l__law_answers ?c__law_answers ?k__law_answers ?a_law ?l_law ?c_law ?k_law
    (case z_isinstance => k_is)
    (case z_int => k_is)
    (case z_bool => k_is)
    (case z_tuple => k_is)
    (case z_len => k_is)
    (case z_enumerate => k_is)
    (case z_max => k_is)
    (case z_min => k_is)
    (case z_reversed => k_is)
    (case z_zip => k_is)
    (case z_list => k_is)
    (case z_sorted => k_is)
    (case z_range => k_is)
    (case z_all => k_is)
    (case z_str => k_is)
    (case z_abs => k_is)
    (case t_tab => first | k_is | rfl)
    (case hcd => first | k_is | rfl | kernel_rfl)
    (case nPL => first | k_is | rfl | kernel_rfl)
    (case hPt => exact hTab _ (by first | k_mem | simp))
    (case g_combinations => k_is)
    (case g_GREATEST_COUNT => k_is)
    (case e_GREATEST_COUNT => first | rfl | decide)
    (case g_GREATEST_VALUE => k_is)
    (case e_GREATEST_VALUE => first | rfl | decide)
    (case g_MOST_ENTRIES => k_is)
    (case e_MOST_ENTRIES => first | rfl | decide)
    (case g_MOST_NUMBERS => k_is)
    (case e_MOST_NUMBERS => first | rfl | decide)
    (case g_MOST_DIGITS => k_is)
    (case e_MOST_DIGITS => first | rfl | decide)
    (case g_LEAST_PARTS => k_is)
    (case e_LEAST_PARTS => first | rfl | decide)
    (case g_MOST_PARTS => k_is)
    (case e_MOST_PARTS => first | rfl | decide)
    (case g_MOST_KEPT => k_is)
    (case e_MOST_KEPT => first | rfl | decide)
    (case g_MOST_SEEN => k_is)
    (case e_MOST_SEEN => first | rfl | decide)
    (case aC => k_is)
    (case a_Sinit => k_is)
    (case i_Sinit => k_is)
    (case l_Sinit => k_is)
    (case c_Sinit => k_is)
    (case k_Sinit => k_is)
    (case a_Smany => k_is)
    (case q_Smany => k_is)
    (case t_Smany => k_is)
    (case r_Smany => k_is)
    (case l_Smany => k_is)
    (case c_Smany => k_is)
    (case k_Smany => k_is)
    (case a_Sentries => k_is)
    (case q_Sentries => k_is)
    (case t_Sentries => k_is)
    (case r_Sentries => k_is)
    (case l_Sentries => k_is)
    (case c_Sentries => k_is)
    (case k_Sentries => k_is)
    (case a_Slen => k_is)
    (case i_Slen => k_is)
    (case l_Slen => k_is)
    (case c_Slen => k_is)
    (case k_Slen => k_is)
    (case a_Seq => k_is)
    (case i_Seq => k_is)
    (case l_Seq => k_is)
    (case c_Seq => k_is)
    (case k_Seq => k_is)
    (case pg => k_is)
    (case hd => k_is)
    (case po => k_is)
    (case sa => k_is)
    (case mk => k_is)
    (case kc => k_is)
    (case ha => k_is)
    (case hn => k_is)
    (case htk => k_is)
    (case hm => k_is)
    (case nM => k_is)
    (case nE => k_is)
    (case ic => k_is)
    (case ty => k_is)
    (case st => k_is)
    (case nf1 => k_is)
    (case nf2 => k_is)
    (case aCK => k_is)
    (case a_Kinit => k_is)
    (case i_Kinit => k_is)
    (case l_Kinit => k_is)
    (case c_Kinit => k_is)
    (case k_Kinit => k_is)
    (case a_Kmany => k_is)
    (case q_Kmany => k_is)
    (case t_Kmany => k_is)
    (case r_Kmany => k_is)
    (case l_Kmany => k_is)
    (case c_Kmany => k_is)
    (case k_Kmany => k_is)
    (case a_Kentries => k_is)
    (case q_Kentries => k_is)
    (case t_Kentries => k_is)
    (case r_Kentries => k_is)
    (case l_Kentries => k_is)
    (case c_Kentries => k_is)
    (case k_Kentries => k_is)
    (case a_Ksee => k_is)
    (case i_Ksee => k_is)
    (case l_Ksee => k_is)
    (case c_Ksee => k_is)
    (case k_Ksee => k_is)
    (case a_Kanswer => k_is)
    (case i_Kanswer => k_is)
    (case l_Kanswer => k_is)
    (case c_Kanswer => k_is)
    (case k_Kanswer => k_is)
    (case a_Kundo => k_is)
    (case i_Kundo => k_is)
    (case l_Kundo => k_is)
    (case c_Kundo => k_is)
    (case k_Kundo => k_is)
    (case a_Kcopy => k_is)
    (case i_Kcopy => k_is)
    (case l_Kcopy => k_is)
    (case c_Kcopy => k_is)
    (case k_Kcopy => k_is)
    (case a_Klen => k_is)
    (case i_Klen => k_is)
    (case l_Klen => k_is)
    (case c_Klen => k_is)
    (case k_Klen => k_is)
    (case pgK => k_is)
    (case hdK => k_is)
    (case poK => k_is)
    (case saK => k_is)
    (case mkK => k_is)
    (case kcK => k_is)
    (case nPK => k_is)
    (case nSK => k_is)
    (case g_NoRow => k_is)
    (case n_NoRow => k_is)
    (case tf_R => k_is)
    (case l_Rinit => k_is)
    (case c_Rinit => k_is)
    (case k_Rinit => k_is)
    (case o_NoRow => k_is)
    (case kp_NoRow => k_is)
    (case sb_NoRow => k_is)
    (case ty_NoRow => k_is)
    (case ic_NoRow => k_is)
    (case ss_NoRow => first | rfl | k_is)
    (case g_Full => k_is)
    (case o_Full => k_is)
    (case n_Full => k_is)
    (case kp_Full => k_is)
    (case sb_Full => k_is)
    (case ty_Full => k_is)
    (case ic_Full => k_is)
    (case ss_Full => first | rfl | k_is)
    (case g_BadCount => k_is)
    (case o_BadCount => k_is)
    (case n_BadCount => k_is)
    (case kp_BadCount => k_is)
    (case sb_BadCount => k_is)
    (case ty_BadCount => k_is)
    (case ic_BadCount => k_is)
    (case ss_BadCount => first | rfl | k_is)
    (case g_TooLong => k_is)
    (case o_TooLong => k_is)
    (case n_TooLong => k_is)
    (case kp_TooLong => k_is)
    (case sb_TooLong => k_is)
    (case ty_TooLong => k_is)
    (case ic_TooLong => k_is)
    (case ss_TooLong => first | rfl | k_is)
    (case g_NoEntry => k_is)
    (case o_NoEntry => k_is)
    (case n_NoEntry => k_is)
    (case kp_NoEntry => k_is)
    (case sb_NoEntry => k_is)
    (case ty_NoEntry => k_is)
    (case ic_NoEntry => k_is)
    (case ss_NoEntry => first | rfl | k_is)
    (case g_BadIndex => k_is)
    (case o_BadIndex => k_is)
    (case n_BadIndex => k_is)
    (case kp_BadIndex => k_is)
    (case sb_BadIndex => k_is)
    (case ty_BadIndex => k_is)
    (case ic_BadIndex => k_is)
    (case ss_BadIndex => first | rfl | k_is)
    (case g_BadParts => k_is)
    (case o_BadParts => k_is)
    (case n_BadParts => k_is)
    (case kp_BadParts => k_is)
    (case sb_BadParts => k_is)
    (case ty_BadParts => k_is)
    (case ic_BadParts => k_is)
    (case ss_BadParts => first | rfl | k_is)
    (case g_BadValue => k_is)
    (case o_BadValue => k_is)
    (case n_BadValue => k_is)
    (case kp_BadValue => k_is)
    (case sb_BadValue => k_is)
    (case ty_BadValue => k_is)
    (case ic_BadValue => k_is)
    (case ss_BadValue => first | rfl | k_is)
    (case g_BadRank => k_is)
    (case o_BadRank => k_is)
    (case n_BadRank => k_is)
    (case kp_BadRank => k_is)
    (case sb_BadRank => k_is)
    (case ty_BadRank => k_is)
    (case ic_BadRank => k_is)
    (case ss_BadRank => first | rfl | k_is)
    (case g_InvalidText => k_is)
    (case n_InvalidText => k_is)
    (case tf_InvalidText => k_is)
    (case l_XInvalidText => k_is)
    (case c_XInvalidText => k_is)
    (case k_XInvalidText => k_is)
    (case o_InvalidText => k_is)
    (case kp_InvalidText => k_is)
    (case sb_InvalidText => k_is)
    (case ty_InvalidText => k_is)
    (case ic_InvalidText => k_is)
    (case ss_InvalidText => first | rfl | k_is)
    (case sa_InvalidText => k_is)
    (case xa_InvalidText => k_is)
    (case xg_InvalidText => k_is)
    (case xd_InvalidText => k_is)
    (case nf_InvalidText_line => k_is)
    (case nf_InvalidText_word => k_is)
    (case a_is_integer => k_is)
    (case l_is_integer => k_is)
    (case c_is_integer => k_is)
    (case k_is_integer => k_is)
    (case a_is_between => k_is)
    (case l_is_between => k_is)
    (case c_is_between => k_is)
    (case k_is_between => k_is)
    (case a_is_value => k_is)
    (case l_is_value => k_is)
    (case c_is_value => k_is)
    (case k_is_value => k_is)
    (case a__is_entry => k_is)
    (case l__is_entry => k_is)
    (case c__is_entry => k_is)
    (case k__is_entry => k_is)
    (case a__check_entries => k_is)
    (case l__check_entries => k_is)
    (case c__check_entries => k_is)
    (case k__check_entries => k_is)
    (case a_check_summary => k_is)
    (case l_check_summary => k_is)
    (case c_check_summary => k_is)
    (case k_check_summary => k_is)
    (case a__least_ranks => k_is)
    (case l__least_ranks => k_is)
    (case c__least_ranks => k_is)
    (case k__least_ranks => k_is)
    (case a__greatest_ranks => k_is)
    (case l__greatest_ranks => k_is)
    (case c__greatest_ranks => k_is)
    (case k__greatest_ranks => k_is)
    (case a_tightened => k_is)
    (case l_tightened => k_is)
    (case c_tightened => k_is)
    (case k_tightened => k_is)
    (case a_surely_tightened => k_is)
    (case l_surely_tightened => k_is)
    (case c_surely_tightened => k_is)
    (case k_surely_tightened => k_is)
    (case a__with_entries => k_is)
    (case l__with_entries => k_is)
    (case c__with_entries => k_is)
    (case k__with_entries => k_is)
    (case a_check_rank => k_is)
    (case l_check_rank => k_is)
    (case c_check_rank => k_is)
    (case k_check_rank => k_is)
    (case a__errors => k_is)
    (case l__errors => k_is)
    (case c__errors => k_is)
    (case k__errors => k_is)
    (case a_best_index => k_is)
    (case l_best_index => k_is)
    (case c_best_index => k_is)
    (case k_best_index => k_is)
    (case a__peaks => k_is)
    (case l__peaks => k_is)
    (case c__peaks => k_is)
    (case k__peaks => k_is)
    (case a_answer => k_is)
    (case l_answer => k_is)
    (case c_answer => k_is)
    (case k_answer => k_is)
    (case a_error_at => k_is)
    (case l_error_at => k_is)
    (case c_error_at => k_is)
    (case k_error_at => k_is)
    (case a_worst => k_is)
    (case l_worst => k_is)
    (case c_worst => k_is)
    (case k_worst => k_is)
    (case a__check_value => k_is)
    (case l__check_value => k_is)
    (case c__check_value => k_is)
    (case k__check_value => k_is)
    (case a__many_below => k_is)
    (case l__many_below => k_is)
    (case c__many_below => k_is)
    (case k__many_below => k_is)
    (case a_values_at => k_is)
    (case l_values_at => k_is)
    (case c_values_at => k_is)
    (case k_values_at => k_is)
    (case a_below => k_is)
    (case l_below => k_is)
    (case c_below => k_is)
    (case k_below => k_is)
    (case a_up_to => k_is)
    (case l_up_to => k_is)
    (case c_up_to => k_is)
    (case k_up_to => k_is)
    (case a_check_short => k_is)
    (case l_check_short => k_is)
    (case c_check_short => k_is)
    (case k_check_short => k_is)
    (case a_surely_short => k_is)
    (case l_surely_short => k_is)
    (case c_surely_short => k_is)
    (case k_surely_short => k_is)
    (case a_filled => k_is)
    (case l_filled => k_is)
    (case c_filled => k_is)
    (case k_filled => k_is)
    (case a_row_for => k_is)
    (case l_row_for => k_is)
    (case c_row_for => k_is)
    (case k_row_for => k_is)
    (case a__check_row => k_is)
    (case l__check_row => k_is)
    (case c__check_row => k_is)
    (case k__check_row => k_is)
    (case a__have_places => k_is)
    (case l__have_places => k_is)
    (case c__have_places => k_is)
    (case k__have_places => k_is)
    (case a_leaves => k_is)
    (case l_leaves => k_is)
    (case c_leaves => k_is)
    (case k_leaves => k_is)
    (case a__check_ranks => k_is)
    (case l__check_ranks => k_is)
    (case c__check_ranks => k_is)
    (case k__check_ranks => k_is)
    (case a_kept_from => k_is)
    (case l_kept_from => k_is)
    (case c_kept_from => k_is)
    (case k_kept_from => k_is)
    (case a__keeps => k_is)
    (case l__keeps => k_is)
    (case c__keeps => k_is)
    (case k__keeps => k_is)
    (case a_fewest => k_is)
    (case l_fewest => k_is)
    (case c_fewest => k_is)
    (case k_fewest => k_is)
    (case a_without => k_is)
    (case l_without => k_is)
    (case c_without => k_is)
    (case k_without => k_is)
    (case a__raised => k_is)
    (case l__raised => k_is)
    (case c__raised => k_is)
    (case k__raised => k_is)
    (case a__check_room => k_is)
    (case l__check_room => k_is)
    (case c__check_room => k_is)
    (case k__check_room => k_is)
    (case a_check_value => k_is)
    (case l_check_value => k_is)
    (case c_check_value => k_is)
    (case k_check_value => k_is)
    (case a_entries_with => k_is)
    (case l_entries_with => k_is)
    (case c_entries_with => k_is)
    (case k_entries_with => k_is)
    (case a_put_in => k_is)
    (case l_put_in => k_is)
    (case c_put_in => k_is)
    (case k_put_in => k_is)
    (case a_joined => k_is)
    (case l_joined => k_is)
    (case c_joined => k_is)
    (case k_joined => k_is)
    (case cde => rfl)
    (case a__first_to_leave_out => k_is)
    (case l__first_to_leave_out => k_is)
    (case c__first_to_leave_out => k_is)
    (case k__first_to_leave_out => k_is)
    (case a__thinned => k_is)
    (case l__thinned => k_is)
    (case c__thinned => k_is)
    (case k__thinned => k_is)
    (case a__words => k_is)
    (case l__words => k_is)
    (case c__words => k_is)
    (case k__words => k_is)
    (case a__number => k_is)
    (case l__number => k_is)
    (case c__number => k_is)
    (case k__number => k_is)
    (case a__number_at => k_is)
    (case l__number_at => k_is)
    (case c__number_at => k_is)
    (case k__number_at => k_is)
    (case a__check_end => k_is)
    (case l__check_end => k_is)
    (case c__check_end => k_is)
    (case k__check_end => k_is)
    (case a__read_count => k_is)
    (case l__read_count => k_is)
    (case c__read_count => k_is)
    (case k__read_count => k_is)
    (case a__read_entry => k_is)
    (case l__read_entry => k_is)
    (case c__read_entry => k_is)
    (case k__read_entry => k_is)
    (case a_write_summary => k_is)
    (case l_write_summary => k_is)
    (case c_write_summary => k_is)
    (case k_write_summary => k_is)
    (case a_read_summary => k_is)
    (case l_read_summary => k_is)
    (case c_read_summary => k_is)
    (case k_read_summary => k_is)
    (case a__law_mix => k_is)
    (case l__law_mix => k_is)
    (case c__law_mix => k_is)
    (case k__law_mix => k_is)
    (case a__law_next => k_is)
    (case l__law_next => k_is)
    (case c__law_next => k_is)
    (case k__law_next => k_is)
    (case a__law_answers => k_is)
    (case l__law_answers => k_is)
    (case c__law_answers => k_is)
    (case k__law_answers => k_is)
    (case a_law => k_is)
    (case l_law => k_is)
    (case c_law => k_is)
    (case k_law => k_is)
