import PyProof.Rows.All
import Wide.All
import OpenK.AllK
import Wide.FinOn
import HandS.ForMost
import HandS.Wide
import HandS.IsInst
import HandS.Property
import HandS.Style
import HandS.TupAny
import HandS.Rev
import HandS.NoneIn
import HandS.SortInts
import HandS.Conv
import HandS.Zip
import KE.GoesEnum
import KE.GoesZip
import HandS.ForExc
import HandS.TryMany
import HandS.ExcInit
import HandS.WordsExc
import HandS.SortKw
import HandS.Sort
import HandS.DictComp
import PySem.Challenge.RW_shortranks_k09_whole_texts_refused
import KE.GoesEnumKw
import HandS.FStr
import HandS.ExcField
import KE.KExcIs
import HandS.ExcIs
import HandS.Text
import HandS.StrMore
import KE.KIntText
import KE.IntTextText
import PyProof.StrLawsTight
import PyProof.StrLawsChain
import PyProof.StrLawsAffix
import PyProof.Rows.ReprOcc
import HandS.Walk
/-! Plain mathematics of summaries: no Python here. Entries (value, low, high); lows from the left, highs from the right; ways. -/
namespace SR
abbrev Ent := Int × Int × Int
def lo (es : List Ent) (j : Nat) : Int := (es.getD j (0, 0, 0)).2.1
def hi (es : List Ent) (j : Nat) : Int := (es.getD j (0, 0, 0)).2.2
def vl (es : List Ent) (j : Nat) : Int := (es.getD j (0, 0, 0)).1
theorem getD_of {es : List Ent} {j : Nat} {e : Ent} (h : es[j]? = some e) : es.getD j (0, 0, 0) = e := by
  rw [List.getD_eq_getElem?_getD, h] <;> rfl
theorem lo_of {es : List Ent} {j : Nat} {e : Ent} (h : es[j]? = some e) : lo es j = e.2.1 := by unfold lo; rw [getD_of h]
theorem hi_of {es : List Ent} {j : Nat} {e : Ent} (h : es[j]? = some e) : hi es j = e.2.2 := by unfold hi; rw [getD_of h]
theorem vl_of {es : List Ent} {j : Nat} {e : Ent} (h : es[j]? = some e) : vl es j = e.1 := by unfold vl; rw [getD_of h]
theorem ent_at {es : List Ent} {j : Nat} (h : j < es.length) : es[j]? = some (vl es j, lo es j, hi es j) := by
  rw [List.getElem?_eq_getElem h]
  have e : es[j]? = some es[j] := List.getElem?_eq_getElem h
  rw [vl_of e, lo_of e, hi_of e]
/-- the greatest low of the first i entries, ranks rising: 0 for none -/
def lowS (es : List Ent) : Nat → Int
  | 0 => 0
  | i + 1 => max (lo es i) (lowS es i + 1)
/-- the least high of the last i entries, ranks rising: n + 1 for none -/
def hiS (n : Int) (es : List Ent) : Nat → Int
  | 0 => n + 1
  | i + 1 => min (hi es (es.length - 1 - i)) (hiS n es i - 1)
/-- low and high of entry j, tightened -/
def tlo (es : List Ent) (j : Nat) : Int := lowS es (j + 1)
def thi (n : Int) (es : List Ent) (j : Nat) : Int := hiS n es (es.length - j)
def tightL (n : Int) (es : List Ent) : List Ent := (List.range es.length).map fun j => (vl es j, tlo es j, thi n es j)
def Fits (n : Int) (es : List Ent) : Prop := ∀ j, j < es.length → tlo es j ≤ thi n es j
theorem max_if (a b : Int) : (if b > a then b else a) = max a b := by
  by_cases h : b > a
  · rw [if_pos h]; omega
  · rw [if_neg h]; omega
theorem min_if (a b : Int) : (if b < a then b else a) = min a b := by
  by_cases h : b < a
  · rw [if_pos h]; omega
  · rw [if_neg h]; omega
theorem tlo_zero (es : List Ent) : tlo es 0 = max (lo es 0) 1 := rfl
theorem tlo_succ (es : List Ent) (j : Nat) : tlo es (j + 1) = max (lo es (j + 1)) (tlo es j + 1) := rfl
theorem thi_last {n : Int} {es : List Ent} (h : 0 < es.length) : thi n es (es.length - 1) = min (hi es (es.length - 1)) n := by
  unfold thi
  rw [show es.length - (es.length - 1) = 0 + 1 by omega]
  show min (hi es (es.length - 1 - 0)) (n + 1 - 1) = _
  rw [Nat.sub_zero]
  omega
theorem thi_step {n : Int} {es : List Ent} {j : Nat} (h : j + 1 < es.length) : thi n es j = min (hi es j) (thi n es (j + 1) - 1) := by
  unfold thi
  rw [show es.length - j = (es.length - (j + 1)) + 1 by omega]
  show min (hi es (es.length - 1 - (es.length - (j + 1)))) (hiS n es (es.length - (j + 1)) - 1) = _
  rw [show es.length - 1 - (es.length - (j + 1)) = j by omega]
theorem tlo_lo (es : List Ent) (j : Nat) : lo es j ≤ tlo es j := by
  unfold tlo
  show lo es j ≤ max (lo es j) (lowS es j + 1)
  omega
theorem tlo_rise (es : List Ent) (j : Nat) : tlo es j + 1 ≤ tlo es (j + 1) := by rw [tlo_succ]; omega
theorem tlo_pos (es : List Ent) : ∀ j, 1 ≤ tlo es j
  | 0 => by rw [tlo_zero]; omega
  | j + 1 => by have := tlo_pos es j; rw [tlo_succ]; omega
theorem thi_hi {n : Int} {es : List Ent} {j : Nat} (h : j < es.length) : thi n es j ≤ hi es j := by
  by_cases h1 : j + 1 < es.length
  · rw [thi_step h1]; omega
  · have e : j = es.length - 1 := by omega
    subst e
    rw [thi_last (by omega)]; omega
theorem thi_rise {n : Int} {es : List Ent} {j : Nat} (h : j + 1 < es.length) : thi n es j + 1 ≤ thi n es (j + 1) := by rw [thi_step h]; omega
theorem hiS_le (n : Int) (es : List Ent) : ∀ i, hiS n es i ≤ n + 1
  | 0 => by show n + 1 ≤ n + 1; omega
  | i + 1 => by have := hiS_le n es i; show min _ _ ≤ _; omega
theorem thi_le {n : Int} {es : List Ent} {j : Nat} (h : j < es.length) : thi n es j ≤ n := by
  unfold thi
  rw [show es.length - j = (es.length - (j + 1)) + 1 by omega]
  have := hiS_le n es (es.length - (j + 1))
  show min _ _ ≤ _
  omega
theorem tight_len (n : Int) (es : List Ent) : (tightL n es).length = es.length := by unfold tightL; rw [List.length_map, List.length_range]
theorem tight_at {n : Int} {es : List Ent} {j : Nat} (h : j < es.length) : (tightL n es)[j]? = some (vl es j, tlo es j, thi n es j) := by
  unfold tightL
  rw [List.getElem?_map, List.getElem?_range h] <;> rfl
/-- what a Summary holds -/
structure Valid (n : Int) (es : List Ent) : Prop where
  n1 : 1 ≤ n
  n2 : n ≤ 10 ^ 30
  len : es.length ≤ 12
  ent : ∀ j, j < es.length → -10 ^ 30 ≤ vl es j ∧ vl es j ≤ 10 ^ 30 ∧ 1 ≤ lo es j ∧ lo es j ≤ hi es j ∧ hi es j ≤ n
  asc : ∀ j, j + 1 < es.length → vl es j ≤ vl es (j + 1)
theorem Valid.tight {n : Int} {es : List Ent} (v : Valid n es) (f : Fits n es) : Valid n (tightL n es) where
  n1 := v.n1
  n2 := v.n2
  len := by rw [tight_len]; exact v.len
  ent := fun j hj => by
    rw [tight_len] at hj
    have e := tight_at (n := n) hj
    rw [vl_of e, lo_of e, hi_of e]
    obtain ⟨a, b, _⟩ := v.ent j hj
    exact ⟨a, b, tlo_pos es j, f j hj, thi_le hj⟩
  asc := fun j hj => by
    rw [tight_len] at hj
    rw [vl_of (tight_at (n := n) hj), vl_of (tight_at (n := n) (show j < es.length by omega))]
    exact v.asc j hj
/-! ways -/
def extRow (row : List Int) (a b : Int) : List (List Int) :=
  (((List.range (b + 1 - a).toNat).map fun (i : Nat) => a + (i : Int)).filter fun r => row.isEmpty || decide (r > row.getLastD 0)).map fun r => row ++ [r]
def ways (es : List Ent) : Nat → List (List Int)
  | 0 => [[]]
  | i + 1 => (ways es i).flatMap fun row => extRow row (lo es i) (hi es i)
theorem mem_extRow {row w : List Int} {a b : Int} : w ∈ extRow row a b ↔ ∃ r, a ≤ r ∧ r ≤ b ∧ (row = [] ∨ row.getLastD 0 < r) ∧ w = row ++ [r] := by
  unfold extRow
  rw [List.mem_map]
  constructor
  · rintro ⟨r, hr, e⟩
    rw [List.mem_filter, List.mem_map] at hr
    obtain ⟨⟨i, hi, e2⟩, hp⟩ := hr
    rw [List.mem_range] at hi
    refine ⟨r, by omega, by omega, ?_, e.symm⟩
    rw [Bool.or_eq_true] at hp
    rcases hp with hp | hp
    · exact .inl (List.isEmpty_iff.mp hp)
    · exact .inr (of_decide_eq_true hp)
  · rintro ⟨r, h1, h2, h3, e⟩
    refine ⟨r, ?_, e.symm⟩
    rw [List.mem_filter, List.mem_map]
    refine ⟨⟨(r - a).toNat, ?_, ?_⟩, ?_⟩
    · rw [List.mem_range]; omega
    · omega
    · rw [Bool.or_eq_true]
      rcases h3 with h3 | h3
      · exact .inl (List.isEmpty_iff.mpr h3)
      · exact .inr (decide_eq_true h3)
theorem extRow_len (row : List Int) (a b : Int) : (extRow row a b).length ≤ (b + 1 - a).toNat := by
  unfold extRow
  rw [List.length_map]
  exact Nat.le_trans (List.length_filter_le _ _) (by rw [List.length_map, List.length_range]; exact Nat.le_refl _)
theorem flatMap_len {α β : Type} (f : α → List β) (k : Nat) : ∀ l : List α, (∀ x ∈ l, (f x).length ≤ k) → (l.flatMap f).length ≤ l.length * k
  | [], _ => by simp
  | x :: l, h => by
    rw [List.flatMap_cons, List.length_append, List.length_cons, Nat.add_mul]
    have h1 := h x (List.mem_cons_self ..)
    have h2 := flatMap_len f k l fun y hy => h y (List.mem_cons_of_mem _ hy)
    omega
/-- what each way keeps -/
structure IsWay (es : List Ent) (i : Nat) (w : List Int) : Prop where
  len : w.length = i
  ok : ∀ j, j < i → lo es j ≤ w.getD j 0 ∧ w.getD j 0 ≤ hi es j
  up : ∀ j, j + 1 < i → w.getD j 0 < w.getD (j + 1) 0
theorem getD_app_lt {w : List Int} {r : Int} {j : Nat} (h : j < w.length) : (w ++ [r]).getD j 0 = w.getD j 0 := by
  rw [List.getD_eq_getElem?_getD, List.getD_eq_getElem?_getD, List.getElem?_append_left h]
theorem getD_app_eq {w : List Int} {r : Int} {j : Nat} (h : j = w.length) : (w ++ [r]).getD j 0 = r := by
  subst h
  rw [List.getD_eq_getElem?_getD, List.getElem?_append_right (Nat.le_refl _)]
  simp
theorem last_getD {w : List Int} {i : Nat} (h : w.length = i + 1) : w.getLastD 0 = w.getD i 0 := by
  rw [List.getLastD_eq_getLast?, List.getLast?_eq_getElem?, h, List.getD_eq_getElem?_getD]
  rfl
theorem ways_is {es : List Ent} : ∀ i w, w ∈ ways es i → IsWay es i w
  | 0, w, h => by
    have e : w = [] := by simpa [ways] using h
    subst e
    exact ⟨rfl, fun j hj => absurd hj (Nat.not_lt_zero j), fun j hj => absurd hj (Nat.not_lt_zero _)⟩
  | i + 1, w, h => by
    have h' : w ∈ (ways es i).flatMap fun row => extRow row (lo es i) (hi es i) := h
    rw [List.mem_flatMap] at h'
    obtain ⟨row, hr, hw⟩ := h'
    obtain ⟨r, h1, h2, h3, e⟩ := mem_extRow.mp hw
    have I := ways_is i row hr
    subst e
    refine ⟨by rw [List.length_append, I.len]; rfl, fun j hj => ?_, fun j hj => ?_⟩
    · by_cases hji : j < i
      · rw [getD_app_lt (by rw [I.len]; exact hji)]; exact I.ok j hji
      · have ej : j = i := by omega
        subst ej
        rw [getD_app_eq I.len.symm]; exact ⟨h1, h2⟩
    · by_cases hji : j + 1 < i
      · rw [getD_app_lt (show j < row.length by rw [I.len]; omega), getD_app_lt (show j + 1 < row.length by rw [I.len]; omega)]; exact I.up j hji
      · have ej : i = j + 1 := by omega
        subst ej
        rw [getD_app_eq (show j + 1 = row.length from I.len.symm), getD_app_lt (by rw [I.len]; omega)]
        rcases h3 with h3 | h3
        · subst h3; have := I.len; simp at this
        · rw [last_getD I.len] at h3; exact h3
theorem way_low {es : List Ent} {i : Nat} {w : List Int} (I : IsWay es i w) (h1 : ∀ j, j < i → 1 ≤ lo es j) : ∀ j, j < i → tlo es j ≤ w.getD j 0
  | 0, hj => by have := I.ok 0 hj; have := h1 0 hj; rw [tlo_zero]; omega
  | j + 1, hj => by
    have a := way_low I h1 j (by omega)
    have b := I.up j hj
    have c := I.ok (j + 1) hj
    rw [tlo_succ]; omega
theorem way_high {n : Int} {es : List Ent} {w : List Int} (I : IsWay es es.length w) (hn : ∀ j, j < es.length → hi es j ≤ n) : ∀ i j, j < es.length → es.length - 1 - j = i → w.getD j 0 ≤ thi n es j
  | 0, j, hj, e => by
    have ej : j = es.length - 1 := by omega
    have := I.ok j hj
    have := hn j hj
    subst ej
    rw [thi_last (by omega)]; omega
  | i + 1, j, hj, e => by
    have a := way_high I hn i (j + 1) (by omega) (by omega)
    have b := I.up j (by omega)
    have c := I.ok j hj
    rw [thi_step (by omega)]; omega
theorem mem_of_way {es : List Ent} (f : Nat → Int) (h1 : ∀ j, j < es.length → lo es j ≤ f j ∧ f j ≤ hi es j) (h2 : ∀ j, j + 1 < es.length → f j < f (j + 1)) : ∀ i, i ≤ es.length → (List.range i).map f ∈ ways es i
  | 0, _ => by simp [ways]
  | i + 1, hi' => by
    have ih := mem_of_way f h1 h2 i (by omega)
    show _ ∈ (ways es i).flatMap fun row => extRow row (lo es i) (hi es i)
    rw [List.mem_flatMap]
    refine ⟨_, ih, mem_extRow.mpr ⟨f i, (h1 i (by omega)).1, (h1 i (by omega)).2, ?_, by rw [List.range_succ, List.map_append]; rfl⟩⟩
    cases i with
    | zero => exact .inl rfl
    | succ i =>
      refine .inr ?_
      rw [last_getD (i := i) (by rw [List.length_map, List.length_range])]
      have e : ((List.range (i + 1)).map f).getD i 0 = f i := by
        rw [List.getD_eq_getElem?_getD, List.getElem?_map, List.getElem?_range (by omega)]; rfl
      rw [e]
      exact h2 i (by omega)
section
variable {n : Int} {es : List Ent}
theorem low_way (f : Fits n es) : (List.range es.length).map (tlo es) ∈ ways es es.length :=
  mem_of_way (tlo es) (fun j hj => ⟨tlo_lo es j, Int.le_trans (f j hj) (thi_hi hj)⟩) (fun j hj => by have := tlo_rise es j; omega) _ (Nat.le_refl _)
theorem high_way (f : Fits n es) : (List.range es.length).map (thi n es) ∈ ways es es.length :=
  mem_of_way (thi n es) (fun j hj => ⟨Int.le_trans (tlo_lo es j) (f j hj), thi_hi hj⟩) (fun j hj => by have := thi_rise (n := n) hj; omega) _ (Nat.le_refl _)
theorem way_between (v : Valid n es) {w : List Int} (h : w ∈ ways es es.length) {j : Nat} (hj : j < es.length) : tlo es j ≤ w.getD j 0 ∧ w.getD j 0 ≤ thi n es j :=
  ⟨way_low (ways_is _ _ h) (fun j hj => (v.ent j hj).2.2.1) j hj, way_high (ways_is _ _ h) (fun j hj => (v.ent j hj).2.2.2.2) _ j hj rfl⟩
theorem no_way (v : Valid n es) (f : ¬ Fits n es) : ways es es.length = [] := by
  cases e : ways es es.length with
  | nil => rfl
  | cons w r =>
    refine absurd (fun j hj => ?_) f
    have hw : w ∈ ways es es.length := by rw [e]; exact List.mem_cons_self ..
    have := way_between v hw hj
    omega
theorem ways_len {k : Nat} (h : ∀ j, j < es.length → 1 ≤ lo es j ∧ hi es j ≤ k) : ∀ i, i ≤ es.length → (ways es i).length ≤ k ^ i
  | 0, _ => by simp [ways]
  | i + 1, hi' => by
    have ih := ways_len h i (by omega)
    have h1 := h i (by omega)
    have := flatMap_len (fun row => extRow row (lo es i) (hi es i)) k (ways es i) fun row _ => Nat.le_trans (extRow_len row _ _) (by omega)
    show ((ways es i).flatMap fun row => extRow row (lo es i) (hi es i)).length ≤ k ^ (i + 1)
    rw [Nat.pow_succ]
    exact Nat.le_trans this (Nat.mul_le_mul_right k ih)
end
end SR

set_option Elab.async false
set_option linter.all false
/-! Plain mathematics of rows that leave a summary: ranks, the least and the greatest row. -/
namespace SR
/-- the number at a rank (from 1) -/
def rat (row : List Int) (k : Int) : Int := row.getD (k - 1).toNat 0
/-- ranks for the entries, each above last -/
def Lv (row : List Int) : List Ent → Int → Prop
  | [], _ => True
  | e :: es, last => ∃ r, last < r ∧ e.2.1 ≤ r ∧ r ≤ e.2.2 ∧ rat row r = e.1 ∧ Lv row es r
theorem Lv.low {row : List Int} : ∀ {es : List Ent} {a b : Int}, Lv row es b → a ≤ b → Lv row es a
  | [], _, _, _, _ => trivial
  | _ :: _, _, _, ⟨r, h1, h2⟩, h => ⟨r, by omega, h2⟩
theorem Lv.of_fn {row : List Int} (f : Nat → Int) : ∀ (es : List Ent) (i : Nat) (last : Int), (∀ j, j < es.length → lo es j ≤ f (i + j) ∧ f (i + j) ≤ hi es j ∧ rat row (f (i + j)) = vl es j) → (∀ j, j + 1 < es.length → f (i + j) < f (i + j + 1)) → (0 < es.length → last < f i) → Lv row es last
  | [], _, _, _, _, _ => trivial
  | e :: es, i, last, h, hr, hl => by
    have h0 := h 0 (by simp)
    refine ⟨f i, hl (by simp), h0.1, h0.2.1, h0.2.2, ?_⟩
    refine Lv.of_fn f es (i + 1) (f i) (fun j hj => ?_) (fun j hj => ?_) (fun hp => ?_)
    · have := h (j + 1) (by simpa using hj)
      rw [show i + (j + 1) = i + 1 + j by omega] at this
      exact this
    · have := hr (j + 1) (by simpa using hj)
      rw [show i + (j + 1) = i + 1 + j by omega] at this
      exact this
    · exact hr 0 (by simpa using hp)
theorem Lv.fn {row : List Int} : ∀ {es : List Ent} {last : Int}, Lv row es last → ∃ f : Nat → Int, (∀ j, j < es.length → lo es j ≤ f j ∧ f j ≤ hi es j ∧ rat row (f j) = vl es j) ∧ (∀ j, j + 1 < es.length → f j < f (j + 1)) ∧ ∀ j, j < es.length → last < f j
  | [], last, _ => ⟨fun _ => 0, fun j hj => by simp at hj, fun j hj => by simp at hj, fun j hj => by simp at hj⟩
  | e :: es, last, ⟨r, h1, h2, h3, h4, h5⟩ => by
    obtain ⟨f, f1, f2, f3⟩ := Lv.fn h5
    refine ⟨fun j => match j with | 0 => r | j + 1 => f j, fun j hj => ?_, fun j hj => ?_, fun j hj => ?_⟩
    · cases j with
      | zero => exact ⟨h2, h3, h4⟩
      | succ j => exact f1 j (by simpa using hj)
    · cases j with
      | zero => exact f3 0 (by simpa using hj)
      | succ j => exact f2 j (by simpa using hj)
    · cases j with
      | zero => exact h1
      | succ j =>
        have := f3 j (by simpa using hj)
        show last < f j
        omega
/-- the row leaves the entries -/
def Lvs (row : List Int) (es : List Ent) : Prop := Lv row es 0
section
variable {n : Int} {es : List Ent} {row : List Int}
theorem Lvs.ranks (v : Valid n es) (h : Lvs row es) : ∃ f : Nat → Int, (∀ j, j < es.length → tlo es j ≤ f j ∧ f j ≤ thi n es j ∧ rat row (f j) = vl es j) ∧ ∀ j, j + 1 < es.length → f j < f (j + 1) := by
  obtain ⟨f, f1, f2, f3⟩ := Lv.fn h
  have I : IsWay es es.length ((List.range es.length).map f) := by
    have g : ∀ j, j < es.length → ((List.range es.length).map f).getD j 0 = f j := fun j hj => by
      rw [List.getD_eq_getElem?_getD, List.getElem?_map, List.getElem?_range hj]; rfl
    refine ⟨by rw [List.length_map, List.length_range], fun j hj => ?_, fun j hj => ?_⟩
    · rw [g j hj]; exact ⟨(f1 j hj).1, (f1 j hj).2.1⟩
    · rw [g j (by omega), g (j + 1) hj]; exact f2 j hj
  refine ⟨f, fun j hj => ?_, f2⟩
  have a := way_low I (fun j hj => (v.ent j hj).2.2.1) j hj
  have b := way_high I (fun j hj => (v.ent j hj).2.2.2.2) _ j hj rfl
  rw [List.getD_eq_getElem?_getD, List.getElem?_map, List.getElem?_range hj] at a b
  exact ⟨a, b, (f1 j hj).2.2⟩
theorem Lvs.fits (v : Valid n es) (h : Lvs row es) : Fits n es := fun j hj => by
  obtain ⟨f, f1, _⟩ := h.ranks v
  have := f1 j hj
  omega
theorem Lvs.of (f : Nat → Int) (h : ∀ j, j < es.length → tlo es j ≤ f j ∧ f j ≤ thi n es j ∧ rat row (f j) = vl es j) (hr : ∀ j, j + 1 < es.length → f j < f (j + 1)) : Lvs row es :=
  Lv.of_fn f es 0 0 (fun j hj => by
    rw [Nat.zero_add]
    obtain ⟨a, b, c⟩ := h j hj
    exact ⟨Int.le_trans (tlo_lo es j) a, Int.le_trans b (thi_hi hj), c⟩) (fun j hj => by rw [Nat.zero_add]; exact hr j hj) (fun hp => by have := (h 0 hp).1; have := tlo_pos es 0; omega)
theorem Valid.asc' (v : Valid n es) {i : Nat} : ∀ {j : Nat}, i ≤ j → j < es.length → vl es i ≤ vl es j
  | 0, h, _ => by rw [show i = 0 by omega]; exact Int.le_refl _
  | j + 1, h, hj => by
    by_cases e : i = j + 1
    · rw [e]; exact Int.le_refl _
    · have := v.asc' (i := i) (j := j) (by omega) (by omega)
      have := v.asc j hj
      omega
/-- the greatest of b and the numbers; the least of t and the numbers -/
def topD (b : Int) (l : List Int) : Int := l.foldl max b
def botD (t : Int) (l : List Int) : Int := l.foldl min t
theorem topD_ge (l : List Int) : ∀ b, b ≤ topD b l ∧ ∀ x ∈ l, x ≤ topD b l := by
  induction l with
  | nil => exact fun b => ⟨Int.le_refl _, fun x hx => by cases hx⟩
  | cons y l ih =>
    intro b
    obtain ⟨h1, h2⟩ := ih (max b y)
    refine ⟨by show b ≤ topD (max b y) l; omega, fun x hx => ?_⟩
    rcases List.mem_cons.mp hx with e | e
    · show x ≤ topD (max b y) l; omega
    · exact h2 x e
theorem topD_in (l : List Int) : ∀ b, topD b l = b ∨ topD b l ∈ l := by
  induction l with
  | nil => exact fun b => .inl rfl
  | cons y l ih =>
    intro b
    show topD (max b y) l = b ∨ topD (max b y) l ∈ y :: l
    rcases ih (max b y) with e | e
    · rw [e]
      by_cases c : y ≤ b
      · left; omega
      · right; rw [show max b y = y by omega]; exact List.mem_cons_self ..
    · exact .inr (List.mem_cons_of_mem _ e)
theorem botD_le (l : List Int) : ∀ b, botD b l ≤ b ∧ ∀ x ∈ l, botD b l ≤ x := by
  induction l with
  | nil => exact fun b => ⟨Int.le_refl _, fun x hx => by cases hx⟩
  | cons y l ih =>
    intro b
    obtain ⟨h1, h2⟩ := ih (min b y)
    refine ⟨by show botD (min b y) l ≤ b; omega, fun x hx => ?_⟩
    rcases List.mem_cons.mp hx with e | e
    · show botD (min b y) l ≤ x; omega
    · exact h2 x e
theorem botD_in (l : List Int) : ∀ b, botD b l = b ∨ botD b l ∈ l := by
  induction l with
  | nil => exact fun b => .inl rfl
  | cons y l ih =>
    intro b
    show botD (min b y) l = b ∨ botD (min b y) l ∈ y :: l
    rcases ih (min b y) with e | e
    · rw [e]
      by_cases c : b ≤ y
      · left; omega
      · right; rw [show min b y = y by omega]; exact List.mem_cons_self ..
    · exact .inr (List.mem_cons_of_mem _ e)
/-- what is known of the number at a rank: at least .., at most .. -/
def atLow (n : Int) (es : List Ent) (k : Int) : List Int := ((List.range es.length).filter fun j => decide (thi n es j ≤ k)).map (vl es)
def atHigh (es : List Ent) (k : Int) : List Int := ((List.range es.length).filter fun j => decide (k ≤ tlo es j)).map (vl es)
theorem mem_atLow {k x : Int} : x ∈ atLow n es k ↔ ∃ j, j < es.length ∧ thi n es j ≤ k ∧ vl es j = x := by
  unfold atLow
  rw [List.mem_map]
  exact ⟨fun ⟨j, h, e⟩ => by rw [List.mem_filter, List.mem_range] at h; exact ⟨j, h.1, of_decide_eq_true h.2, e⟩, fun ⟨j, a, b, e⟩ => ⟨j, List.mem_filter.mpr ⟨List.mem_range.mpr a, decide_eq_true b⟩, e⟩⟩
theorem mem_atHigh {k x : Int} : x ∈ atHigh es k ↔ ∃ j, j < es.length ∧ k ≤ tlo es j ∧ vl es j = x := by
  unfold atHigh
  rw [List.mem_map]
  exact ⟨fun ⟨j, h, e⟩ => by rw [List.mem_filter, List.mem_range] at h; exact ⟨j, h.1, of_decide_eq_true h.2, e⟩, fun ⟨j, a, b, e⟩ => ⟨j, List.mem_filter.mpr ⟨List.mem_range.mpr a, decide_eq_true b⟩, e⟩⟩
/-- the least row over b, the greatest row under t -/
def rowL (b n : Int) (es : List Ent) : List Int := (List.range n.toNat).map fun (i : Nat) => topD b (atLow n es ((i : Int) + 1))
def rowH (t n : Int) (es : List Ent) : List Int := (List.range n.toNat).map fun (i : Nat) => botD t (atHigh es ((i : Int) + 1))
theorem rat_map {m : Nat} {g : Int → Int} {k : Int} (h1 : 1 ≤ k) (h2 : k ≤ m) : rat ((List.range m).map fun (i : Nat) => g ((i : Int) + 1)) k = g k := by
  unfold rat
  rw [List.getD_eq_getElem?_getD, List.getElem?_map, List.getElem?_range (by omega)]
  show g (((k - 1).toNat : Int) + 1) = g k
  rw [show (((k - 1).toNat : Int) + 1) = k by omega]
theorem rowL_at {b k : Int} (h1 : 1 ≤ k) (h2 : k ≤ n) : rat (rowL b n es) k = topD b (atLow n es k) := rat_map (m := n.toNat) (g := fun k => topD b (atLow n es k)) h1 (by omega)
theorem rowH_at {t k : Int} (h1 : 1 ≤ k) (h2 : k ≤ n) : rat (rowH t n es) k = botD t (atHigh es k) := rat_map (m := n.toNat) (g := fun k => botD t (atHigh es k)) h1 (by omega)
theorem thi_lt {j i : Nat} (h : j < i) : ∀ (hi' : i < es.length), thi n es j < thi n es i := by
  induction i with
  | zero => omega
  | succ i ih =>
    intro hi'
    have := thi_rise (n := n) hi'
    by_cases e : j = i
    · subst e; omega
    · have := ih (by omega) (by omega)
      omega
theorem tlo_lt {j i : Nat} (h : j < i) : tlo es j < tlo es i := by
  induction i with
  | zero => omega
  | succ i ih =>
    have := tlo_rise es i
    by_cases e : j = i
    · subst e; omega
    · have := ih (by omega)
      omega
theorem rowL_leaves (v : Valid n es) (hF : Fits n es) {b : Int} (hb : ∀ j, j < es.length → b ≤ vl es j) : Lvs (rowL b n es) es := by
  refine Lvs.of (n := n) (thi n es) (fun j hj => ⟨hF j hj, Int.le_refl _, ?_⟩) fun j hj => thi_lt (by omega) hj
  rw [rowL_at (Int.le_trans (tlo_pos es j) (hF j hj)) (thi_le hj)]
  have h := topD_ge (atLow n es (thi n es j)) b
  have h1 := h.2 (vl es j) (mem_atLow.mpr ⟨j, hj, Int.le_refl _, rfl⟩)
  rcases topD_in (atLow n es (thi n es j)) b with e | e
  · have := hb j hj; omega
  · obtain ⟨i, hi', hle, ev⟩ := mem_atLow.mp e
    have hij : i ≤ j := by
      by_cases c : i ≤ j
      · exact c
      · have := thi_lt (n := n) (es := es) (show j < i by omega) hi'
        omega
    have := v.asc' hij hj
    omega
theorem rowH_leaves (v : Valid n es) (hF : Fits n es) {t : Int} (ht : ∀ j, j < es.length → vl es j ≤ t) : Lvs (rowH t n es) es := by
  refine Lvs.of (n := n) (tlo es) (fun j hj => ⟨Int.le_refl _, hF j hj, ?_⟩) fun j hj => tlo_lt (by omega)
  rw [rowH_at (tlo_pos es j) (Int.le_trans (hF j hj) (thi_le hj))]
  have h := botD_le (atHigh es (tlo es j)) t
  have h1 := h.2 (vl es j) (mem_atHigh.mpr ⟨j, hj, Int.le_refl _, rfl⟩)
  rcases botD_in (atHigh es (tlo es j)) t with e | e
  · have := ht j hj; omega
  · obtain ⟨i, hi', hle, ev⟩ := mem_atHigh.mp e
    have hij : j ≤ i := by
      by_cases c : j ≤ i
      · exact c
      · have := tlo_lt (es := es) (show i < j by omega)
        omega
    have := v.asc' hij hi'
    omega
theorem topD_mono {b : Int} {l m : List Int} (h : ∀ x ∈ l, x ∈ m) : topD b l ≤ topD b m := by
  rcases topD_in l b with e | e
  · rw [e]; exact (topD_ge m b).1
  · exact (topD_ge m b).2 _ (h _ e)
theorem botD_mono {b : Int} {l m : List Int} (h : ∀ x ∈ m, x ∈ l) : botD b l ≤ botD b m := by
  rcases botD_in m b with e | e
  · rw [e]; exact (botD_le l b).1
  · exact (botD_le l b).2 _ (h _ e)
theorem map_asc {m : Nat} {g : Int → Int} (h : ∀ a b, a ≤ b → g a ≤ g b) : ((List.range m).map fun (i : Nat) => g ((i : Int) + 1)).Pairwise (· ≤ ·) := by
  rw [List.pairwise_map]
  exact List.pairwise_lt_range.imp fun hab => h _ _ (by omega)
theorem rowL_asc (b : Int) : (rowL b n es).Pairwise (· ≤ ·) := map_asc (g := fun k => topD b (atLow n es k)) fun a c h => topD_mono fun x hx => by
  obtain ⟨j, h1, h2, e⟩ := mem_atLow.mp hx
  exact mem_atLow.mpr ⟨j, h1, by omega, e⟩
theorem rowH_asc (t : Int) : (rowH t n es).Pairwise (· ≤ ·) := map_asc (g := fun k => botD t (atHigh es k)) fun a c h => botD_mono fun x hx => by
  obtain ⟨j, h1, h2, e⟩ := mem_atHigh.mp hx
  exact mem_atHigh.mpr ⟨j, h1, by omega, e⟩
/-- an ascending row at two ranks -/
theorem rat_asc {row : List Int} (h : row.Pairwise (· ≤ ·)) {a b : Int} (h1 : 1 ≤ a) (h2 : a ≤ b) (h3 : b ≤ row.length) : rat row a ≤ rat row b := by
  unfold rat
  rw [List.getD_eq_getElem?_getD, List.getD_eq_getElem?_getD, List.getElem?_eq_getElem (show (a - 1).toNat < row.length by omega), List.getElem?_eq_getElem (show (b - 1).toNat < row.length by omega)]
  show row[(a - 1).toNat] ≤ row[(b - 1).toNat]
  by_cases e : (a - 1).toNat = (b - 1).toNat
  · simp only [e]; exact Int.le_refl _
  · exact List.pairwise_iff_getElem.mp h _ _ _ _ (by omega)
/-- the number at a rank, in any row that leaves the summary -/
theorem at_least (v : Valid n es) (h : Lvs row es) (hr : row.Pairwise (· ≤ ·)) (hl : (row.length : Int) = n) {b k : Int} (hb : ∀ x ∈ row, b ≤ x) (k1 : 1 ≤ k) (k2 : k ≤ n) : topD b (atLow n es k) ≤ rat row k := by
  obtain ⟨f, f1, f2⟩ := h.ranks v
  rcases topD_in (atLow n es k) b with e | e
  · rw [e]
    refine hb _ ?_
    unfold rat
    rw [List.getD_eq_getElem?_getD, List.getElem?_eq_getElem (show (k - 1).toNat < row.length by omega)]
    exact List.getElem_mem _
  · obtain ⟨j, hj, hle, ev⟩ := mem_atLow.mp e
    obtain ⟨a, c, d⟩ := f1 j hj
    rw [← ev, ← d]
    have := tlo_pos es j
    exact rat_asc hr (by omega) (by omega) (by omega)
theorem at_most (v : Valid n es) (h : Lvs row es) (hr : row.Pairwise (· ≤ ·)) (hl : (row.length : Int) = n) {t k : Int} (ht : ∀ x ∈ row, x ≤ t) (k1 : 1 ≤ k) (k2 : k ≤ n) : rat row k ≤ botD t (atHigh es k) := by
  obtain ⟨f, f1, f2⟩ := h.ranks v
  rcases botD_in (atHigh es k) t with e | e
  · rw [e]
    refine ht _ ?_
    unfold rat
    rw [List.getD_eq_getElem?_getD, List.getElem?_eq_getElem (show (k - 1).toNat < row.length by omega)]
    exact List.getElem_mem _
  · obtain ⟨j, hj, hle, ev⟩ := mem_atHigh.mp e
    obtain ⟨a, c, d⟩ := f1 j hj
    rw [← ev, ← d]
    have := thi_le (n := n) hj
    exact rat_asc hr (by omega) (by omega) (by omega)
end
end SR

set_option Elab.async false
set_option linter.all false
/-! How many numbers of a row are less than a value. -/
namespace SR
def cnt (row : List Int) (z : Int) : Int := ((row.filter fun x => decide (x < z)).length : Int)
theorem rat_one {x : Int} {r : List Int} : rat (x :: r) 1 = x := rfl
theorem rat_more {x : Int} {r : List Int} {k : Int} (h : 2 ≤ k) : rat (x :: r) k = rat r (k - 1) := by
  unfold rat
  rw [show (k - 1).toNat = (k - 1 - 1).toNat + 1 by omega]
  rfl
theorem cnt_none {row : List Int} {z : Int} (h : ∀ x ∈ row, z ≤ x) : cnt row z = 0 := by
  unfold cnt
  rw [List.filter_eq_nil_iff.mpr fun x hx => by have := h x hx; simp; omega]
  rfl
theorem cnt_le (row : List Int) (z : Int) : 0 ≤ cnt row z ∧ cnt row z ≤ row.length := by
  have := List.length_filter_le (fun x => decide (x < z)) row
  unfold cnt
  omega
theorem cnt_iff {z : Int} : ∀ {row : List Int}, row.Pairwise (· ≤ ·) → ∀ k : Int, 1 ≤ k → k ≤ row.length → (rat row k < z ↔ k ≤ cnt row z)
  | [], _, k, h1, h2 => by simp at h2; omega
  | x :: r, h, k, h1, h2 => by
    rw [List.pairwise_cons] at h
    rw [List.length_cons] at h2
    by_cases c : x < z
    · have e : cnt (x :: r) z = cnt r z + 1 := by
        unfold cnt
        rw [List.filter_cons_of_pos (by simpa using c), List.length_cons]
        omega
      rw [e]
      by_cases k1 : k = 1
      · subst k1
        rw [rat_one]
        have := (cnt_le r z).1
        exact ⟨fun _ => by omega, fun _ => c⟩
      · rw [rat_more (by omega)]
        have := cnt_iff h.2 (k - 1) (by omega) (by omega) (z := z)
        rw [this]
        omega
    · have e : cnt (x :: r) z = 0 := cnt_none fun y hy => by
        rcases List.mem_cons.mp hy with e | e
        · omega
        · have := h.1 y e; omega
      rw [e]
      by_cases k1 : k = 1
      · subst k1
        rw [rat_one]
        exact ⟨fun g => absurd g c, fun g => by omega⟩
      · rw [rat_more (by omega)]
        refine ⟨fun g => ?_, fun g => by omega⟩
        have : (k - 1 - 1).toNat < r.length := by omega
        have m : rat r (k - 1) ∈ r := by
          unfold rat
          rw [List.getD_eq_getElem?_getD, List.getElem?_eq_getElem this]
          exact List.getElem_mem _
        have := h.1 _ m
        omega
def belLow (es : List Ent) (z : Int) : List Int := ((List.range es.length).filter fun j => decide (vl es j < z)).map (tlo es)
def belHigh (n : Int) (es : List Ent) (z : Int) : List Int := ((List.range es.length).filter fun j => decide (z ≤ vl es j)).map fun j => thi n es j - 1
section
variable {n : Int} {es : List Ent} {row : List Int}
theorem mem_belLow {z x : Int} : x ∈ belLow es z ↔ ∃ j, j < es.length ∧ vl es j < z ∧ tlo es j = x := by
  unfold belLow
  rw [List.mem_map]
  exact ⟨fun ⟨j, h, e⟩ => by rw [List.mem_filter, List.mem_range] at h; exact ⟨j, h.1, of_decide_eq_true h.2, e⟩, fun ⟨j, a, b, e⟩ => ⟨j, List.mem_filter.mpr ⟨List.mem_range.mpr a, decide_eq_true b⟩, e⟩⟩
theorem mem_belHigh {z x : Int} : x ∈ belHigh n es z ↔ ∃ j, j < es.length ∧ z ≤ vl es j ∧ thi n es j - 1 = x := by
  unfold belHigh
  rw [List.mem_map]
  exact ⟨fun ⟨j, h, e⟩ => by rw [List.mem_filter, List.mem_range] at h; exact ⟨j, h.1, of_decide_eq_true h.2, e⟩, fun ⟨j, a, b, e⟩ => ⟨j, List.mem_filter.mpr ⟨List.mem_range.mpr a, decide_eq_true b⟩, e⟩⟩
theorem below_least (v : Valid n es) (h : Lvs row es) (hr : row.Pairwise (· ≤ ·)) (hl : (row.length : Int) = n) (z : Int) : topD 0 (belLow es z) ≤ cnt row z := by
  obtain ⟨f, f1, f2⟩ := h.ranks v
  rcases topD_in (belLow es z) 0 with e | e
  · rw [e]; exact (cnt_le row z).1
  · obtain ⟨j, hj, hz, ev⟩ := mem_belLow.mp e
    obtain ⟨a, c, d⟩ := f1 j hj
    rw [← ev]
    have := tlo_pos es j
    have := thi_le (n := n) hj
    have := (cnt_iff hr (f j) (by omega) (by omega)).mp (by rw [d]; exact hz)
    omega
theorem below_most (v : Valid n es) (h : Lvs row es) (hr : row.Pairwise (· ≤ ·)) (hl : (row.length : Int) = n) (z : Int) : cnt row z ≤ botD n (belHigh n es z) := by
  obtain ⟨f, f1, f2⟩ := h.ranks v
  rcases botD_in (belHigh n es z) n with e | e
  · rw [e, ← hl]; exact (cnt_le row z).2
  · obtain ⟨j, hj, hz, ev⟩ := mem_belHigh.mp e
    obtain ⟨a, c, d⟩ := f1 j hj
    rw [← ev]
    have := tlo_pos es j
    have := thi_le (n := n) hj
    have g := cnt_iff hr (f j) (by omega) (by omega) (z := z)
    rw [d] at g
    by_cases q : f j ≤ cnt row z
    · have := g.mpr q; omega
    · omega
theorem rowL_len (b : Int) (h : 0 ≤ n) : ((rowL b n es).length : Int) = n := by
  unfold rowL
  rw [List.length_map, List.length_range]; omega
theorem rowH_len (t : Int) (h : 0 ≤ n) : ((rowH t n es).length : Int) = n := by
  unfold rowH
  rw [List.length_map, List.length_range]; omega
theorem rowH_cnt (v : Valid n es) (hF : Fits n es) {t z : Int} (ht : ∀ j, j < es.length → vl es j ≤ t) (hz : z ≤ t) : cnt (rowH t n es) z = topD 0 (belLow es z) := by
  have n1 := v.n1
  have hl := rowH_len (n := n) (es := es) t (by omega)
  refine Int.le_antisymm ?_ (below_least v (rowH_leaves v hF ht) (rowH_asc t) hl z)
  have hc := cnt_le (rowH t n es) z
  by_cases c0 : cnt (rowH t n es) z = 0
  · rw [c0]; exact (topD_ge _ 0).1
  · have g := (cnt_iff (rowH_asc t) (cnt (rowH t n es) z) (by omega) (by omega)).mpr (Int.le_refl _)
    rw [rowH_at (by omega) (by omega)] at g
    rcases botD_in (atHigh es (cnt (rowH t n es) z)) t with e | e
    · omega
    · obtain ⟨j, hj, hle, ev⟩ := mem_atHigh.mp e
      exact Int.le_trans hle ((topD_ge _ 0).2 _ (mem_belLow.mpr ⟨j, hj, by omega, rfl⟩))
theorem rowL_cnt (v : Valid n es) (hF : Fits n es) {b z : Int} (hb : ∀ j, j < es.length → b ≤ vl es j) (hz : b < z) : cnt (rowL b n es) z = botD n (belHigh n es z) := by
  have n1 := v.n1
  have hl := rowL_len (n := n) (es := es) b (by omega)
  refine Int.le_antisymm (below_most v (rowL_leaves v hF hb) (rowL_asc b) hl z) ?_
  have hc := cnt_le (rowL b n es) z
  by_cases c0 : botD n (belHigh n es z) ≤ cnt (rowL b n es) z
  · exact c0
  · have hbd := (botD_le (belHigh n es z) n).1
    have g := cnt_iff (rowL_asc (n := n) (es := es) b) (cnt (rowL b n es) z + 1) (z := z) (by omega) (by omega)
    rw [rowL_at (by omega) (by omega)] at g
    rcases topD_in (atLow n es (cnt (rowL b n es) z + 1)) b with e | e
    · have := g.mp (by omega); omega
    · obtain ⟨j, hj, hle, ev⟩ := mem_atLow.mp e
      by_cases q : vl es j < z
      · have := g.mp (by omega); omega
      · have := (botD_le (belHigh n es z) n).2 _ (mem_belHigh.mpr ⟨j, hj, by omega, rfl⟩)
        omega
end
end SR

set_option Elab.async false
set_option linter.all false
/-! Plain mathematics of a row that is filled from numbers told at ranks. -/
namespace SR
def fillN (g : Int → Option Int) (f : Int) : Nat → Int
  | 0 => f
  | k + 1 => (g (1 + (k : Int))).getD (fillN g f k)
def fillRow (g : Int → Option Int) (f : Int) (n : Nat) : List Int := (List.range n).map fun (i : Nat) => fillN g f (i + 1)
theorem fillRow_succ (g : Int → Option Int) (f : Int) (n : Nat) : fillRow g f (n + 1) = fillRow g f n ++ [fillN g f (n + 1)] := by
  unfold fillRow
  rw [List.range_succ, List.map_append]
  rfl
theorem fillRow_len (g : Int → Option Int) (f : Int) (n : Nat) : (fillRow g f n).length = n := by unfold fillRow; rw [List.length_map, List.length_range]
theorem fillRow_at {g : Int → Option Int} {f : Int} {n : Nat} {k : Int} (h1 : 1 ≤ k) (h2 : k ≤ n) : rat (fillRow g f n) k = fillN g f k.toNat := by
  unfold rat fillRow
  rw [List.getD_eq_getElem?_getD, List.getElem?_map, List.getElem?_range (by omega)]
  show fillN g f ((k - 1).toNat + 1) = _
  rw [show (k - 1).toNat + 1 = k.toNat by omega]
theorem fillN_some {g : Int → Option Int} {f b : Int} {k : Int} (h1 : 1 ≤ k) (h : g k = some b) : fillN g f k.toNat = b := by
  obtain ⟨m, hm⟩ : ∃ m : Nat, k.toNat = m + 1 := ⟨k.toNat - 1, by omega⟩
  rw [hm]
  show (g (1 + (m : Int))).getD _ = b
  rw [show 1 + (m : Int) = k by omega, h]
  rfl
/-- the numbers told are not less than first, and ascend -/
structure Asc (g : Int → Option Int) (f : Int) : Prop where
  lo : ∀ k b, g k = some b → f ≤ b
  up : ∀ j k a b, j < k → g j = some a → g k = some b → a ≤ b
theorem Asc.le {g : Int → Option Int} {f : Int} (A : Asc g f) : ∀ (m : Nat) (k b : Int), (m : Int) < k → g k = some b → fillN g f m ≤ b
  | 0, k, b, _, h => A.lo k b h
  | m + 1, k, b, hk, h => by
    show (g (1 + (m : Int))).getD (fillN g f m) ≤ b
    cases e : g (1 + (m : Int)) with
    | none => exact A.le m k b (by omega) h
    | some a => exact A.up _ _ _ _ (by omega) e h
theorem Asc.step {g : Int → Option Int} {f : Int} (A : Asc g f) (m : Nat) : fillN g f m ≤ fillN g f (m + 1) := by
  show fillN g f m ≤ (g (1 + (m : Int))).getD (fillN g f m)
  cases e : g (1 + (m : Int)) with
  | none => exact Int.le_refl _
  | some a => exact A.le m _ a (by omega) e
theorem Asc.mono {g : Int → Option Int} {f : Int} (A : Asc g f) {i : Nat} : ∀ j, i ≤ j → fillN g f i ≤ fillN g f j
  | 0, h => by rw [show i = 0 by omega]; exact Int.le_refl _
  | j + 1, h => by
    by_cases e : i = j + 1
    · rw [e]; exact Int.le_refl _
    · exact Int.le_trans (A.mono j (by omega)) (A.step j)
theorem Asc.row {g : Int → Option Int} {f : Int} (A : Asc g f) (n : Nat) : (fillRow g f n).Pairwise (· ≤ ·) := by
  unfold fillRow
  rw [List.pairwise_map]
  exact List.pairwise_lt_range.imp fun h => A.mono _ (by omega)
/-- the first i entries' values at their lows -/
def gE (ts : List Ent) : Nat → Int → Option Int
  | 0, _ => none
  | i + 1, k => if k = lo ts i then some (vl ts i) else gE ts i k
theorem gE_succ (ts : List Ent) (i : Nat) (k : Int) : gE ts (i + 1) k = if k = lo ts i then some (vl ts i) else gE ts i k := rfl
theorem gE_is {ts : List Ent} : ∀ {i : Nat} {k b : Int}, gE ts i k = some b → ∃ j, j < i ∧ k = lo ts j ∧ b = vl ts j
  | 0, _, _, h => by cases h
  | i + 1, k, b, h => by
    unfold gE at h
    by_cases c : k = lo ts i
    · rw [if_pos c] at h
      exact ⟨i, by omega, c, (Option.some.inj h).symm⟩
    · rw [if_neg c] at h
      obtain ⟨j, h1, h2⟩ := gE_is h
      exact ⟨j, by omega, h2⟩
theorem gE_at {ts : List Ent} (up : ∀ i j, i < j → j < ts.length → lo ts i < lo ts j) : ∀ {i j : Nat}, i ≤ ts.length → j < i → gE ts i (lo ts j) = some (vl ts j)
  | 0, j, _, h => by omega
  | i + 1, j, hi', hj => by
    unfold gE
    by_cases e : j = i
    · subst e; rw [if_pos rfl]
    · have := up j i (by omega) (by omega)
      rw [if_neg (by omega)]
      exact gE_at up (by omega) (by omega)
theorem gE_asc {ts : List Ent} {f : Int} (up : ∀ i j, i < j → j < ts.length → lo ts i < lo ts j) (va : ∀ i j, i ≤ j → j < ts.length → vl ts i ≤ vl ts j) (hf : ∀ j, j < ts.length → f ≤ vl ts j) : Asc (gE ts ts.length) f where
  lo := fun k b h => by
    obtain ⟨j, h1, _, h3⟩ := gE_is h
    rw [h3]; exact hf j h1
  up := fun j k a b h ha hb => by
    obtain ⟨i1, h1, h2, h3⟩ := gE_is ha
    obtain ⟨i2, g1, g2, g3⟩ := gE_is hb
    rw [h3, g3]
    refine va _ _ ?_ g1
    by_cases c : i1 ≤ i2
    · exact c
    · have := up i2 i1 (by omega) h1
      omega
/-- the tightened entries: lows rise, values do not fall -/
theorem tight_up {n : Int} {es : List Ent} : ∀ i j, i < j → j < (tightL n es).length → lo (tightL n es) i < lo (tightL n es) j := fun i j h hj => by
  rw [tight_len] at hj
  rw [lo_of (tight_at (n := n) hj), lo_of (tight_at (n := n) (show i < es.length by omega))]
  exact tlo_lt h
theorem tight_va {n : Int} {es : List Ent} (v : Valid n es) : ∀ i j, i ≤ j → j < (tightL n es).length → vl (tightL n es) i ≤ vl (tightL n es) j := fun i j h hj => by
  rw [tight_len] at hj
  rw [vl_of (tight_at (n := n) hj), vl_of (tight_at (n := n) (show i < es.length by omega))]
  exact v.asc' h hj
theorem fill_leaves {n : Int} {es : List Ent} (v : Valid n es) (hF : Fits n es) {g : Int → Option Int} {f : Int} (hg : ∀ j, j < es.length → g (tlo es j) = some (vl es j)) : Lvs (fillRow g f n.toNat) es := by
  refine Lvs.of (n := n) (tlo es) (fun j hj => ⟨Int.le_refl _, hF j hj, ?_⟩) fun j hj => tlo_lt (by omega)
  have h1 := tlo_pos es j
  have h2 := hF j hj
  have h3 := thi_le (n := n) hj
  rw [fillRow_at h1 (by omega)]
  exact fillN_some h1 (hg j hj)
/-- one turn of the walk for places -/
theorem Lv.no {row : List Int} {e : Ent} {es : List Ent} {L : Int} (h : ∀ x, max e.2.1 (L + 1) ≤ x → x ≤ e.2.2 → rat row x ≠ e.1) : ¬ Lv row (e :: es) L := fun ⟨r, h1, h2, h3, h4, _⟩ => h r (by omega) h3 h4
theorem Lv.yes {row : List Int} {e : Ent} {es : List Ent} {L r : Int} (h1 : max e.2.1 (L + 1) ≤ r) (h2 : r ≤ e.2.2) (h3 : rat row r = e.1) (h : ∀ x, max e.2.1 (L + 1) ≤ x → x < r → rat row x ≠ e.1) : Lv row (e :: es) L ↔ Lv row es r := by
  constructor
  · rintro ⟨q, a, b, c, d, k⟩
    refine k.low ?_
    by_cases z : r ≤ q
    · exact z
    · exact absurd d (h q (by omega) (by omega))
  · exact fun k => ⟨r, by omega, by omega, h2, h3, k⟩
end SR

set_option Elab.async false
set_option linter.all false
set_option maxRecDepth 100000
set_option maxHeartbeats 4000000
/-! Rules of one's own over the hand layer: == and len of own instances, zip of three, enumerate of a tuple. -/
namespace SR
open PySem PySem.Spec PyProof.Rows L2
/-! ### heaps -/
theorem Same_new {H : Hp} {p : Addr} {o : HO} (h : H p = none) : Same H (upd H p o) := fun b u e => by rw [upd_ne (ne_of_none e h)]; exact e
theorem Same_new2 {H H1 : Hp} {p : Addr} {o : HO} (s : Same H H1) (h : H1 p = none) : Same H (upd H1 p o) := s.trans (Same_new h)
/-- a thing that H does not know may change -/
theorem Same_mut {H H1 : Hp} {p : Addr} {o : HO} (s : Same H H1) (h : H p = none) : Same H (upd H1 p o) := fun b u e => by rw [upd_ne (ne_of_none e h)]; exact s b u e
/-! ### == by an own __eq__ -/
section
variable {X : Cx}
def rEqO (K : PySem.W.Frag) (C : Addr) (sp : Sp) (E : XK) : R2 := fun x y H Q => ∃ a dx fs t, x = .ref a ∧ H a = some (.ins C dx fs) ∧ TyX K H y t ∧ PySem.W.notFirst K C t = true ∧ sp [x, y] H Q E
theorem op_eqO {CX : CXT} {C f : Addr} {fd : FuncData} {ps : List Str} {sp : Sp} {E : XK} {n : Nat} (F : FnOk X.prog X.w X.K X.mg X.base CX n f fd ps sp) (hr : Room n X.A)
    (hs : PySem.W.findIn X.K (.ref C) "__eq__" = some (some (.ref f))) (hf : PySem.W.isFn X.K (.ref f) = true) (hb : Binds X.K fd ps []) (hx : Passes CX X E) : OpR X (compareOp .Eq) (rEqO X.K C sp E) := by
  intro pins s σ H x y v u Q I rx ry hq
  obtain ⟨a, dx, fs, t, rfl, ha, ty, hn, hsp⟩ := hq
  cases rx
  obtain ⟨mA, J, _⟩ := ins_get I.hok ha
  obtain ⟨od, J, _⟩ := J.look
  obtain ⟨m, hF⟩ := I.fr
  obtain ⟨P, Z, p, _⟩ := kit_of I ry ty
  show wpAny (model X.prog X.w) X.A (richCompare .Eq (.ref a) u) (EP X pins σ Q) X.xe s
  refine PySem.W.cmp_K (op := .Eq) (tb := t) hr.units0 hF I.ok.mod.kin J (Z.ty _ _ I.kIn p) hn hs hf ?_
  have hl := F.len _ _ _ _ hsp
  have r2 : Vals [V.ref a, y] [Value.ref a, u] := .cons rfl (.cons ry .nil)
  refine wpAny_call (codeAny_mono (F.run X.A X.stack s H ⟨[.ref a, u], []⟩ [.ref a, u] [.ref a, y] Q E hr I.env0 (by
    have := hb s [.ref a, u] I.kIn (by simpa using hl)
    simpa using this) r2 hsp) fun r s' hq => ?_)
  cases r with
  | error e => exact hx pins σ H s e s' I hq
  | ok fl =>
    cases fl with
    | ret w' =>
      obtain ⟨z, H', I', rz, ez⟩ := I.after hq
      show PySem.W.CmpBack (EP X pins σ Q) w' s'
      have q : EP X pins σ Q w' s' := ⟨z, H', I', rz, ez⟩
      cases w' <;> first | exact q | (cases z <;> first | exact nomatch rz | (obtain ⟨_, e⟩ := rz; exact nomatch e))
    | next => exact False.elim hq
    | brk => exact False.elim hq
    | cont => exact False.elim hq

/-! ### len by an own __len__ -/
def rLenO (C : Addr) (sp : Sp) (E : XK) : List V → Hp → VK → Prop := fun xs H Q => ∃ a dx fs, xs = [.ref a] ∧ H a = some (.ins C dx fs) ∧ sp [.ref a] H (fun v H' => ∃ n : Int, v = .int n ∧ 0 ≤ n ∧ n < 2 ^ 63 ∧ Q (.int n) H') E
theorem call_lenO {CX : CXT} {C f : Addr} {fd : FuncData} {ps : List Str} {sp : Sp} {E : XK} {n : Nat} (F : FnOk X.prog X.w X.K X.mg X.base CX n f fd ps sp) (hr : Room (n + 1) X.A)
    (hs : PySem.W.findIn X.K (.ref C) "__len__" = some (some (.ref f))) (hf : PySem.W.isFn X.K (.ref f) = true) (hb : Binds X.K fd ps []) (hx : Passes CX X E) : CallR X (.builtin "len") (rLenO C sp E) := by
  intro pins s σ H xs us Q I r h
  obtain ⟨a, dx, fs, rfl, ha, hsp⟩ := h
  obtain ⟨u, rfl, ru⟩ := vals1 r
  cases ru
  obtain ⟨mA, J, _⟩ := ins_get I.hok ha
  obtain ⟨od, J, _⟩ := J.look
  obtain ⟨m, hF⟩ := I.fr
  refine PySem.W.len_K hF I.ok.mod.kin J hs hf ?_
  have hl := F.len _ _ _ _ hsp
  refine wpAny_call (codeAny_mono (F.run X.A.in1 X.stack s H ⟨[.ref a], []⟩ [.ref a] [.ref a] _ E hr.in1 I.env0.in1 (by
    have := hb s [.ref a] I.kIn (by simpa using hl)
    simpa using this) (.cons rfl .nil) hsp) fun r s' hq => ?_)
  cases r with
  | error e => exact hx pins σ H s e s' I hq
  | ok fl =>
    cases fl with
    | ret w' =>
      obtain ⟨z, H', I', rz, k, ez, h0, h1, q⟩ := I.after hq
      subst ez
      obtain ⟨t, rfl⟩ := rz
      exact ⟨⟨h0, h1⟩, .int k, H', I'.tok _, ⟨_, rfl⟩, q⟩
    | next => exact False.elim hq
    | brk => exact False.elim hq
    | cont => exact False.elim hq
end
/-! ### enumerate of a tuple -/
section
set_option maxHeartbeats 1000000 in
theorem meets_enum1 {v : Value} {o : Obj} {H : Heap → Prop} (B : Begins v o H) :
    Meets (Builtin.«enumerate.__new__» ⟨[.type "enumerate", v], []⟩) (fun _ R s => H s.heap ∧
      R (.ok (.ret (.ref (s.heap.push o).objs.size))) { s with heap := (s.heap.push o).push { cls := .type "enumerate", data := .fields #[.none, .bool false, .ref s.heap.objs.size, rawInt 0, .none, .none] } }) :=
  .of_wp fun prog w A R s h => by
    obtain ⟨hp, g, d, tk, os⟩ := s; obtain ⟨h1, h⟩ := h
    have hsub := sub_enumerate
    have q1 : ∀ {A' : Around} {E : Value → Shared → Prop} {Q : Value → Shared → Prop}, Q (.ref hp.objs.size) ⟨hp.push o, g, d, tk, os⟩ → wpAny (model prog w) A' (pyIter v) Q E ⟨hp, g, d, tk, os⟩ :=
      fun q => B.iter prog w _ _ ⟨hp, g, d, tk, os⟩ _ h1 q
    wp_walk using q1
    refine wpAny_stack_any fun st => wpAny_pure ?_
    split
    · rename_i c _ _ _ _ _
      cases (c == Value.type "enumerate")
      · wp_walk using q1
        exact ⟨_, rfl, h⟩
      · wp_walk using q1
        exact ⟨_, rfl, h⟩
    · wp_walk using q1
      exact ⟨_, rfl, h⟩
theorem enum_begins1 {prog : Program} {w : World} {A : Around} {E : Value → Shared → Prop} {s : Shared} {v : Value} {o : Obj} {H : Heap → Prop} {Q : Value → Shared → Prop} (B : Begins v o H) (h1 : H s.heap)
    (h : ∀ h', IsEnum h' (s.heap.objs.size + 1) s.heap.objs.size 0 .none → h'.get? s.heap.objs.size = some o → h'.objs.size = s.heap.objs.size + 2 →
      (∀ b o, s.heap.get? b = some o → h'.get? b = some o) → Q (.ref (s.heap.objs.size + 1)) { s with heap := h' }) :
    wpAny (model prog w) A (call (.type "enumerate") [v]) Q E s := by
  refine callType_new F.called_enumerate (by decide) (F.typeCall_enumerate_1 _) (F.newCall_enumerate_1 _) (fun obj => F.args_object_init_2 obj _) F.entry_enumerate_new
    (meets_enum1 B) ⟨h1, ?_⟩
  have hz : (s.heap.push o).objs.size = s.heap.objs.size + 1 := Heap.size_push ..
  show _ ∧ _
  rw [hz]
  have he : IsEnum ((s.heap.push o).push { cls := .type "enumerate", data := .fields #[.none, .bool false, .ref s.heap.objs.size, rawInt 0, .none, .none] }) (s.heap.objs.size + 1) s.heap.objs.size 0 .none := by
    have := Heap.get?_push_size (s.heap.push o) (o := { cls := .type "enumerate", data := .fields #[.none, .bool false, .ref s.heap.objs.size, rawInt 0, .none, .none] }) rfl
    rw [hz] at this; exact this
  refine ⟨⟨_, he, rfl⟩, h _ he (Heap.get?_push_of_some _ (Heap.get?_push_size _ B.free)) (by rw [Heap.size_push, hz]) fun b o x => Heap.get?_push_of_some _ (Heap.get?_push_of_some _ x)⟩
end
/-- the tuple at a, each item in a new pair with its place -/
def ItEt (K : PySem.W.Frag) (a : Addr) : It :=
  ⟨fun i H => ∃ (xs : List V) (x : V), SqT K H a xs ∧ xs[i]? = some x, fun i H v H' => ∃ T x, v = .ref T ∧ H T = none ∧ H' = upd H T (.tup [.int (i : Nat), x]) ∧ ∀ xs, SqT K H a xs → xs[i]? = some x, fun i H => ∃ xs : List V, SqT K H a xs ∧ xs.length = i⟩
theorem turn_enumT {P : Program} {w : World} {K : PySem.W.Frag} {elts : List Expr} {kk : Nat} {tpos : Pos} (a e it : Addr) :
    Turn P w K (.Tuple elts kk tpos) (ItEt K a) [e, it] e (fun i h => (∃ old, IsEnum h e it ((i : Nat) : Int) old) ∧ h.IsTupleIter it a i ∧ e ≠ it) where
  mem := by simp
  obj := fun i h st b hb => by
    obtain ⟨⟨old, he⟩, ⟨o, ho, hc, hd⟩, _⟩ := st
    have e' : b = e ∨ b = it := by simpa using hb
    rcases e' with z | z
    · rw [z]; exact ⟨_, he, fun v q => nomatch q⟩
    · rw [z]; exact ⟨o, ho, fun v q => by rw [hd] at q; cases q⟩
  keep := fun i h h' st k => let ⟨⟨old, he⟩, hi, hne⟩ := st; ⟨⟨old, k e (by simp) _ he⟩, hi.at fun o q => k it (by simp) o q, hne⟩
  item := by
    intro X hP hw hK hc i pins s σ H E I hf st hg
    subst hP hw hK
    obtain ⟨⟨old, he⟩, hit, hne⟩ := st
    obtain ⟨xs, x, hq, hx⟩ := hg
    obtain ⟨its, rv, p, hz⟩ := I.tuple hq
    obtain ⟨u, hu, ru⟩ := rv.get hx
    have hel : e < s.heap.objs.size := Heap.lt_size he
    have hil : it < s.heap.objs.size := by obtain ⟨_, q, _⟩ := hit; exact Heap.lt_size q
    have hT : s.heap.IsTuple a its.toArray := p
    obtain ⟨o1, ho1, hc1, _⟩ := id p
    obtain ⟨o2, ho2, hc2, _⟩ := id hit
    have hea : e ≠ a := fun z => by subst z; rw [he] at ho1; cases ho1; exact absurd hc1 (by simp)
    have hai : a ≠ it := fun z => by subst z; rw [ho1] at ho2; cases ho2; rw [hc1] at hc2; exact absurd hc2 (by simp)
    have hlt : i < its.toArray.size := by
      rw [List.size_toArray]
      exact (List.getElem?_eq_some_iff.mp hu).1
    refine wpAny_pyNext_enum_itemC (Draws.tuple (A := X.A.in1) (I.ok.hd hc) it a hai its.toArray) he ⟨hit, hT⟩ hlt hne (by simp [hne, hea]) fun y h' tk hP ho hs' hT2 hsz hk => ?_
    have ey : y = u := by
      have q : its.toArray[i]? = some y := hP
      rw [List.getElem?_toArray, hu] at q
      exact (Option.some.inj q).symm
    subst ey
    refine ⟨_, rfl, wpAny_letOwnedTupleGo_enum (s := { s with heap := h', toks := tk + 1 }) ho fun h'' he' sb => ?_⟩
    have hT3 : h''.get? s.heap.objs.size = some { cls := .type "tuple", data := .seq #[.int i tk, y] } := (sb.2 _ (Nat.ne_of_gt hel)).trans hT2
    have new : ObjOk X.prog X.w (upd H s.heap.objs.size (.tup [.int (i : Nat), x])) h'' s.heap.objs.size (.tup [.int (i : Nat), x]) :=
      ⟨by show 2 ≤ sizeLine; decide, [.int i tk, y], .cons ⟨_, rfl⟩ (.cons ru .nil), ⟨_, hT3, rfl, _, rfl⟩⟩
    have I1 : Inv X pins σ (upd H s.heap.objs.size (.tup [.int (i : Nat), x])) { s with heap := h'', toks := tk + 1 } :=
      I.turnedNew (ch := [e, it]) (fun b ob hb q => (sb.2 b (fun z => hb (by simp [z]))).trans (hk b ob (fun z => hb (by simp [z])) (fun z => hb (by simp [z])) q)) hf (Nat.le_refl _) new
    refine ⟨.ref s.heap.objs.size, _, I1, rfl, ⟨_, x, rfl, I.hok.fresh (Nat.le_refl _), rfl, fun ys hy => by rw [I.tuple_inj hy hq]; exact hx⟩, ⟨⟨y, ?_⟩, hs'.1.at fun o q => (sb.2 it (Ne.symm hne)).trans q, hne⟩, fun b hb => ?_⟩
    · have e1 : ((i + 1 : Nat) : Int) = (i : Int) + 1 := by omega
      rw [e1]; exact he'
    · have hb' : b < s.heap.objs.size := by
        have e' : b = e ∨ b = it := by simpa using hb
        rcases e' with z | z
        · rw [z]; exact hel
        · rw [z]; exact hil
      rw [upd_ne (Nat.ne_of_lt hb')]
      exact (hf b hb).1
  done := by
    intro X hP hw hK hc i pins s σ H E I hf st hg
    subst hP hw hK
    obtain ⟨⟨old, he⟩, hit, hne⟩ := st
    obtain ⟨xs, hq, hx⟩ := hg
    obtain ⟨its, rv, p, hz⟩ := I.tuple hq
    have hT : s.heap.IsTuple a its.toArray := p
    obtain ⟨o1, ho1, hc1, _⟩ := id p
    obtain ⟨o2, ho2, hc2, _⟩ := id hit
    have hai : a ≠ it := fun z => by subst z; rw [ho1] at ho2; cases ho2; rw [hc1] at hc2; exact absurd hc2 (by simp)
    obtain ⟨f0, f1, f2, f3, f4, f5⟩ := hf it (by simp)
    have hl : its.toArray.size = i := by rw [List.size_toArray, ← rv.length]; exact hx
    exact wpAny_pyNext_enum_endD (Draws.tuple (A := X.A.in1) (I.ok.hd hc) it a hai its.toArray) he (by rw [hl]; exact ⟨hit, hT⟩) fun h' eb => ⟨rfl, I.turned (t' := s.toks) (fun b o hb q => eb b o hb q) f0 f1 f3 f4 f5⟩
  self := fun A i s Q E st h => let ⟨⟨_, he⟩, _⟩ := st; wpAny_pyIter_enum he h
def iEnumT (K : PySem.W.Frag) (ta : TA) : TI := fun σ H R => ta σ H fun vs H1 => ∃ a xs, vs = [.ref a] ∧ SqT K H1 a xs ∧ R (ItEt K a) H1
theorem pi_enumT {X : Cx} {e : Expr} {ta : TA} {p pos tpos : Pos} {elts : List Expr} {kk : Nat} (hg : Gl X "enumerate") (hm : X.mg "enumerate" = none) (ha : PA X [e] ta) (hs : starEach [e] X.env = [(false, eval e X.env)] := by rfl) :
    PI X (.Tuple elts kk tpos) (.Call (.Name "enumerate" p) [e] [] pos) (iEnumT X.K ta) := by
  refine ⟨fun pins s σ H R I h => ?_⟩
  refine Call_ (ld_blt I hg hm boot_enumerate (PyProof.Rows.callWith_type1 (thn (ha.run pos pins s σ H _ I h) fun us s1 ⟨vs, H1, I1, r1, q1⟩ => ?_) hs rfl))
  obtain ⟨a, xs, ex, hq, q⟩ := q1
  subst ex
  cases r1 with
  | cons r rr =>
    cases rr
    cases r
    obtain ⟨its, rv, p', hz⟩ := I1.tuple hq
    have hT : s1.heap.IsTuple a its.toArray := p'
    refine enum_begins1 (begins_tuple a its.toArray) hT fun h' he ho hsz hk => wpAny_pyIter_enum he ?_
    have hit : h'.IsTupleIter s1.heap.objs.size a 0 := ⟨_, ho, rfl, rfl⟩
    have I2 : Inv X pins σ H1 { s1 with heap := h' } := I1.kept (t' := s1.toks) hk
    refine ⟨s1.heap.objs.size + 1, [s1.heap.objs.size + 1, s1.heap.objs.size], _, _, H1, rfl, I2, turn_enumT a (s1.heap.objs.size + 1) s1.heap.objs.size, ⟨⟨.none, he⟩, hit, Nat.succ_ne_self _⟩, fun b hb => ?_, q⟩
    have e' : b = s1.heap.objs.size + 1 ∨ b = s1.heap.objs.size := by simpa using hb
    have hle : s1.heap.objs.size ≤ b := by
      rcases e' with z | z
      · rw [z]; exact Nat.le_add_right _ _
      · rw [z]; exact Nat.le_refl _
    exact I1.fpOk hle (I1.hok.fresh hle)
theorem for_enumT {K : PySem.W.Frag} {a : Addr} {xs : List V} {g : TG} {tb : TS} {D : Ends} {σ : L2.St} {H : Hp} (Pv : Nat → L2.St → Hp → Prop) (h0 : Pv 0 σ H) (hq : ∀ i σ H, Pv i σ H → SqT K H a xs)
    (hs : ∀ (i : Nat) (x : V) (T : Addr) (σ : L2.St) (H : Hp), xs[i]? = some x → Pv i σ H → H T = none → g (.ref T) σ (upd H T (.tup [.int (i : Nat), x])) fun σ2 H2 => tb { D with nx := Pv (i + 1), ct := Pv (i + 1), bk := D.nx } σ2 H2) (hd : ∀ σ H, Pv xs.length σ H → D.nx σ H) :
    ∃ W : Nat → Nat → L2.St → Hp → Prop, (∃ m, W 0 m σ H) ∧ ∀ i m σ H, W i m σ H →
      ((ItEt K a).stop i H ∧ D.nx σ H) ∨ ((ItEt K a).go i H ∧ ∃ N : L2.St → Hp → Prop, (∀ σ' H', N σ' H' → ∃ m', m' < m ∧ W (i + 1) m' σ' H') ∧ ∀ v H', (ItEt K a).yld i H v H' → g v σ H' fun σ2 H2 => tb { D with nx := N, ct := N, bk := D.nx } σ2 H2) := by
  refine ⟨fun i m σ H => m = xs.length - i ∧ i ≤ xs.length ∧ Pv i σ H, ⟨xs.length, rfl, Nat.zero_le _, h0⟩, ?_⟩
  rintro i m σ H ⟨rfl, hi, p⟩
  have qx := hq i σ H p
  by_cases hlt : i < xs.length
  · have hx : xs[i]? = some xs[i] := List.getElem?_eq_getElem hlt
    refine .inr ⟨⟨xs, _, qx, hx⟩, Pv (i + 1), fun σ' H' p' => ⟨xs.length - (i + 1), by omega, rfl, hlt, p'⟩, fun v H' y => ?_⟩
    obtain ⟨T, x', rfl, hT, rfl, f1⟩ := y
    exact hs i x' T σ H (f1 xs qx) p hT
  · have e : i = xs.length := by omega
    subst e
    exact .inl ⟨⟨xs, qx, rfl⟩, hd σ H p⟩
/-! ### zip of a tuple and two lists -/
def ItZ3 (K : PySem.W.Frag) (a b c : Addr) : It :=
  ⟨fun i H => ∃ (xs ys zs : List V) (x y z : V), SqT K H a xs ∧ SqL K H b ys ∧ SqL K H c zs ∧ xs[i]? = some x ∧ ys[i]? = some y ∧ zs[i]? = some z,
    fun i H v H' => ∃ T x y z, v = .ref T ∧ H T = none ∧ H' = upd H T (.tup [x, y, z]) ∧ (∀ xs, SqT K H a xs → xs[i]? = some x) ∧ (∀ ys, SqL K H b ys → ys[i]? = some y) ∧ ∀ zs, SqL K H c zs → zs[i]? = some z,
    fun i H => ∃ xs ys zs : List V, SqT K H a xs ∧ SqL K H b ys ∧ SqL K H c zs ∧ xs.length = i ∧ ys.length = i ∧ zs.length = i⟩
/-- the cells of the zip lie apart from one another -/
structure Ap3 (z TI TO i1 i2 i3 : Addr) : Prop where
  TIz : TI ≠ z
  TOz : TO ≠ z
  TITO : TI ≠ TO
  TI1 : TI ≠ i1
  TI2 : TI ≠ i2
  TI3 : TI ≠ i3
  TO1 : TO ≠ i1
  TO2 : TO ≠ i2
  TO3 : TO ≠ i3
  z1 : z ≠ i1
  z2 : z ≠ i2
  z3 : z ≠ i3
  i12 : i1 ≠ i2
  i13 : i1 ≠ i3
  i23 : i2 ≠ i3
theorem ap3_of (n : Nat) : Ap3 (n + 5) (n + 3) (n + 4) n (n + 1) (n + 2) :=
  ⟨(show (n + 3 : Nat) ≠ n + 5 by omega), (show (n + 4 : Nat) ≠ n + 5 by omega), (show (n + 3 : Nat) ≠ n + 4 by omega), (show (n + 3 : Nat) ≠ n by omega), (show (n + 3 : Nat) ≠ n + 1 by omega), (show (n + 3 : Nat) ≠ n + 2 by omega), (show (n + 4 : Nat) ≠ n by omega), (show (n + 4 : Nat) ≠ n + 1 by omega), (show (n + 4 : Nat) ≠ n + 2 by omega), (show (n + 5 : Nat) ≠ n by omega), (show (n + 5 : Nat) ≠ n + 1 by omega), (show (n + 5 : Nat) ≠ n + 2 by omega), (show (n : Nat) ≠ n + 1 by omega), (show (n : Nat) ≠ n + 2 by omega), (show (n + 1 : Nat) ≠ n + 2 by omega)⟩
theorem le_of6 {n q : Nat} (h : q = n + 5 ∨ q = n + 3 ∨ q = n + 4 ∨ q = n ∨ q = n + 1 ∨ q = n + 2) : n ≤ q := by omega
theorem to_ne {n a : Nat} (h : a < n) : n + 4 ≠ a := by omega
theorem sep3 {z TI TO i1 i2 i3 a b c : Addr} (D : Ap3 z TI TO i1 i2 i3) (ha : ∀ q ∈ [z, TO, i1, i2, i3], q ≠ a) (hb : ∀ q ∈ [z, TO, i1, i2, i3], q ≠ b) (hc : ∀ q ∈ [z, TO, i1, i2, i3], q ≠ c) : ZipSep3 z TI TO i1 i2 i3 [i1, a] [i2, b] [i3, c] := by
  have nm : ∀ {x y q : Addr}, x ≠ y → x ≠ q → x ∉ [y, q] := fun h1 h2 h => by
    rcases List.mem_cons.mp h with e | h
    · exact h1 e
    · exact h2 (List.mem_singleton.mp h)
  exact ⟨D.TIz, D.TOz, D.TITO, D.TI1, by simp, nm D.z1 (ha z (by simp)), nm D.TO1 (ha TO (by simp)), D.TI2, by simp, nm D.z2 (hb z (by simp)), nm D.TO2 (hb TO (by simp)), D.TI3, by simp, nm D.z3 (hc z (by simp)), nm D.TO3 (hc TO (by simp)),
    nm D.i12 (hb i1 (by simp)), nm D.i13 (hc i1 (by simp)), nm (Ne.symm D.i12) (ha i2 (by simp)), nm D.i23 (hc i2 (by simp)), nm (Ne.symm D.i13) (ha i3 (by simp)), nm (Ne.symm D.i23) (hb i3 (by simp))⟩
/-- an own cell is no list and no tuple that stands -/
theorem cell_ne {h : Heap} {q a : Addr} {o : Obj} {T : String} (hq : ∃ o', h.get? q = some o' ∧ o'.cls = .type T) (ha : h.get? a = some o) (hn : o.cls ≠ .type T) : q ≠ a := fun z => by
  obtain ⟨o', e, c⟩ := hq
  rw [z, ha] at e
  cases e
  exact hn c
theorem turn_zip3 {P : Program} {w : World} {K : PySem.W.Frag} {elts : List Expr} {kk : Nat} {tpos : Pos} {a b c z TI TO i1 i2 i3 : Addr} (D : Ap3 z TI TO i1 i2 i3) :
    Turn P w K (.Tuple elts kk tpos) (ItZ3 K a b c) [z, TI, TO, i1, i2, i3] z (fun i h => IsZip h z TI TO .none ∧ IsTupOf3 h TI (.ref i1) (.ref i2) (.ref i3) ∧ (∃ x y q, IsTupOf3 h TO x y q) ∧ h.IsTupleIter i1 a i ∧ h.IsListIter i2 b i ∧ h.IsListIter i3 c i ∧ TO ≠ a) where
  mem := by simp
  obj := fun i h st q hq => by
    obtain ⟨hz, hTI, ⟨x, y, u, hTO⟩, ⟨o1, e1, _, d1⟩, ⟨o2, e2, _, d2⟩, ⟨o3, e3, _, d3⟩, _⟩ := st
    have e' : q = z ∨ q = TI ∨ q = TO ∨ q = i1 ∨ q = i2 ∨ q = i3 := by simpa using hq
    rcases e' with r | r | r | r | r | r
    · rw [r]; exact ⟨_, hz, fun v q => nomatch q⟩
    · rw [r]; exact ⟨_, hTI, fun v q => nomatch q⟩
    · rw [r]; exact ⟨_, hTO, fun v q => nomatch q⟩
    · rw [r]; exact ⟨o1, e1, fun v q => by rw [d1] at q; cases q⟩
    · rw [r]; exact ⟨o2, e2, fun v q => by rw [d2] at q; cases q⟩
    · rw [r]; exact ⟨o3, e3, fun v q => by rw [d3] at q; cases q⟩
  keep := fun i h h' st k => by
    obtain ⟨hz, hTI, ⟨x, y, u, hTO⟩, h1, h2, h3, ne⟩ := st
    exact ⟨k z (by simp) _ hz, k TI (by simp) _ hTI, ⟨x, y, u, k TO (by simp) _ hTO⟩, h1.at fun o q => k i1 (by simp) o q, h2.at fun o q => k i2 (by simp) o q, h3.at fun o q => k i3 (by simp) o q, ne⟩
  item := by
    intro X hP hw hK hc i pins s σ H E I hf st hg
    subst hP hw hK
    obtain ⟨hz, hTI, ⟨x0, y0, u0, hTO⟩, h1, h2, h3, neT⟩ := st
    obtain ⟨xs, ys, zs, x, y, u, hqx, hqy, hqz, hx, hy, hu⟩ := hg
    obtain ⟨its, rv, p, _⟩ := I.tuple hqx
    obtain ⟨its2, rv2, p2, _⟩ := I.list hqy
    obtain ⟨its3, rv3, p3, _⟩ := I.list hqz
    obtain ⟨v1, hv1, r1⟩ := rv.get hx
    obtain ⟨v2, hv2, r2⟩ := rv2.get hy
    obtain ⟨v3, hv3, r3⟩ := rv3.get hu
    have hzl : z < s.heap.objs.size := Heap.lt_size hz
    have hT1 : s.heap.IsTuple a its.toArray := p
    have hL2 : s.heap.IsList b its2.toArray := p2.isList
    have hL3 : s.heap.IsList c its3.toArray := p3.isList
    obtain ⟨oa, ea, ca, _⟩ := id hT1
    obtain ⟨ob, eb, cb, _⟩ := id hL2
    obtain ⟨oc, ec, cc, _⟩ := id hL3
    have k1 : ∃ o', s.heap.get? i1 = some o' ∧ o'.cls = .type "tuple_iterator" := let ⟨o, e, c, _⟩ := h1; ⟨o, e, c⟩
    have k2 : ∃ o', s.heap.get? i2 = some o' ∧ o'.cls = .type "list_iterator" := let ⟨o, e, c, _⟩ := h2; ⟨o, e, c⟩
    have k3 : ∃ o', s.heap.get? i3 = some o' ∧ o'.cls = .type "list_iterator" := let ⟨o, e, c, _⟩ := h3; ⟨o, e, c⟩
    have kz : ∃ o', s.heap.get? z = some o' ∧ o'.cls = .type "zip" := ⟨_, hz, rfl⟩
    have kT : ∃ o', s.heap.get? TO = some o' ∧ o'.cls = .type "tuple" := ⟨_, hTO, rfl⟩
    have apA : ∀ q ∈ [z, TO, i1, i2, i3], q ≠ a := fun q hq => by
      have e' : q = z ∨ q = TO ∨ q = i1 ∨ q = i2 ∨ q = i3 := by simpa using hq
      rcases e' with r | r | r | r | r
      · subst r; exact cell_ne kz ea (by rw [ca]; simp)
      · subst r; exact neT
      · subst r; exact cell_ne k1 ea (by rw [ca]; simp)
      · subst r; exact cell_ne k2 ea (by rw [ca]; simp)
      · subst r; exact cell_ne k3 ea (by rw [ca]; simp)
    have apB : ∀ q ∈ [z, TO, i1, i2, i3], q ≠ b := fun q hq => by
      have e' : q = z ∨ q = TO ∨ q = i1 ∨ q = i2 ∨ q = i3 := by simpa using hq
      rcases e' with r | r | r | r | r
      · subst r; exact cell_ne kz eb (by rw [cb]; simp)
      · subst r; exact cell_ne kT eb (by rw [cb]; simp)
      · subst r; exact cell_ne k1 eb (by rw [cb]; simp)
      · subst r; exact cell_ne k2 eb (by rw [cb]; simp)
      · subst r; exact cell_ne k3 eb (by rw [cb]; simp)
    have apC : ∀ q ∈ [z, TO, i1, i2, i3], q ≠ c := fun q hq => by
      have e' : q = z ∨ q = TO ∨ q = i1 ∨ q = i2 ∨ q = i3 := by simpa using hq
      rcases e' with r | r | r | r | r
      · subst r; exact cell_ne kz ec (by rw [cc]; simp)
      · subst r; exact cell_ne kT ec (by rw [cc]; simp)
      · subst r; exact cell_ne k1 ec (by rw [cc]; simp)
      · subst r; exact cell_ne k2 ec (by rw [cc]; simp)
      · subst r; exact cell_ne k3 ec (by rw [cc]; simp)
    have S := sep3 D apA apB apC
    have lt1 : i < its.toArray.size := by rw [List.size_toArray]; exact (List.getElem?_eq_some_iff.mp hv1).1
    have lt2 : i < its2.toArray.size := by rw [List.size_toArray]; exact (List.getElem?_eq_some_iff.mp hv2).1
    have lt3 : i < its3.toArray.size := by rw [List.size_toArray]; exact (List.getElem?_eq_some_iff.mp hv3).1
    have hd := I.ok.hd hc
    refine wpAny_pyNext_zipD3_item S (Draws.tuple (A := X.A.in1) hd i1 a (Ne.symm (apA i1 (by simp))) its.toArray) (Draws.list (A := X.A.in1) hd i2 b (Ne.symm (apB i2 (by simp))) its2.toArray) (Draws.list (A := X.A.in1) hd i3 c (Ne.symm (apC i3 (by simp))) its3.toArray)
      hz hTI hTO ⟨h1, hT1⟩ ⟨h2, hL2⟩ ⟨h3, hL3⟩ lt1 lt2 lt3 fun w1 w2 w3 h' tk q1 q2 q3 hz' hTO' s1 s2 s3 hT hsz hk => ?_
    have e1 : w1 = v1 := by
      have q : its.toArray[i]? = some w1 := q1
      rw [List.getElem?_toArray, hv1] at q
      exact (Option.some.inj q).symm
    have e2 : w2 = v2 := by
      have q : its2.toArray[i]? = some w2 := q2
      rw [List.getElem?_toArray, hv2] at q
      exact (Option.some.inj q).symm
    have e3 : w3 = v3 := by
      have q : its3.toArray[i]? = some w3 := q3
      rw [List.getElem?_toArray, hv3] at q
      exact (Option.some.inj q).symm
    subst e1 e2 e3
    refine ⟨_, rfl, wpAny_letOwnedTupleGo_zip (s := { s with heap := h', toks := tk }) hz' fun h'' hz'' sb => ?_⟩
    have hT2 : h''.get? s.heap.objs.size = some { cls := .type "tuple", data := .seq #[w1, w2, w3] } := (sb.2 _ (Nat.ne_of_gt hzl)).trans hT
    have new : ObjOk X.prog X.w (upd H s.heap.objs.size (.tup [x, y, u])) h'' s.heap.objs.size (.tup [x, y, u]) :=
      ⟨by show 3 ≤ sizeLine; decide, [w1, w2, w3], .cons r1 (.cons r2 (.cons r3 .nil)), ⟨_, hT2, rfl, _, rfl⟩⟩
    have I1 : Inv X pins σ (upd H s.heap.objs.size (.tup [x, y, u])) { s with heap := h'', toks := tk } :=
      I.turnedNew (t' := tk) (ch := [z, TI, TO, i1, i2, i3]) (fun c o hb q => (sb.2 c (fun q' => hb (by simp [q']))).trans (hk c o (fun q' => hb (by simp [q'])) (fun q' => hb (by simp [q'])) (fun q' => hb (by simp [q'])) (fun q' => hb (by simp [q'])) (fun q' => hb (by simp [q'])) q)) hf (Nat.le_refl _) new
    refine ⟨.ref s.heap.objs.size, _, I1, rfl, ⟨_, x, y, u, rfl, I.hok.fresh (Nat.le_refl _), rfl, fun l hl => by rw [I.tuple_inj hl hqx]; exact hx, fun l hl => by rw [I.list_inj hl hqy]; exact hy, fun l hl => by rw [I.list_inj hl hqz]; exact hu⟩, ⟨hz'', ?_, ⟨w1, w2, w3, ?_⟩, ?_, ?_, ?_, neT⟩, fun q hqm => ?_⟩
    · exact (sb.2 _ D.TIz).trans (hk _ _ D.TIz D.TITO D.TI1 D.TI2 D.TI3 hTI)
    · exact (sb.2 _ D.TOz).trans hTO'
    · exact s1.1.at fun o q => (sb.2 _ (Ne.symm D.z1)).trans q
    · exact s2.1.at fun o q => (sb.2 _ (Ne.symm D.z2)).trans q
    · exact s3.1.at fun o q => (sb.2 _ (Ne.symm D.z3)).trans q
    · have hlt : q < s.heap.objs.size := by
        have e' : q = z ∨ q = TI ∨ q = TO ∨ q = i1 ∨ q = i2 ∨ q = i3 := by simpa using hqm
        rcases e' with r | r | r | r | r | r
        · rw [r]; exact hzl
        · rw [r]; exact Heap.lt_size hTI
        · rw [r]; exact Heap.lt_size hTO
        · rw [r]; obtain ⟨_, e1, _⟩ := h1; exact Heap.lt_size e1
        · rw [r]; obtain ⟨_, e2, _⟩ := h2; exact Heap.lt_size e2
        · rw [r]; obtain ⟨_, e3, _⟩ := h3; exact Heap.lt_size e3
      rw [upd_ne (Nat.ne_of_lt hlt)]
      exact (hf q hqm).1
  done := by
    intro X hP hw hK hc i pins s σ H E I hf st hg
    subst hP hw hK
    obtain ⟨hz, hTI, ⟨x0, y0, u0, hTO⟩, h1, h2, h3, neT⟩ := st
    obtain ⟨xs, ys, zs, hqx, hqy, hqz, l1, l2, l3⟩ := hg
    obtain ⟨its, rv, p, _⟩ := I.tuple hqx
    obtain ⟨its2, rv2, p2, _⟩ := I.list hqy
    obtain ⟨its3, rv3, p3, _⟩ := I.list hqz
    have hT1 : s.heap.IsTuple a its.toArray := p
    have hL2 : s.heap.IsList b its2.toArray := p2.isList
    have hL3 : s.heap.IsList c its3.toArray := p3.isList
    obtain ⟨oa, ea, ca, _⟩ := id hT1
    obtain ⟨ob, eb, cb, _⟩ := id hL2
    obtain ⟨oc, ec, cc, _⟩ := id hL3
    have k1 : ∃ o', s.heap.get? i1 = some o' ∧ o'.cls = .type "tuple_iterator" := let ⟨o, e, c, _⟩ := h1; ⟨o, e, c⟩
    have k2 : ∃ o', s.heap.get? i2 = some o' ∧ o'.cls = .type "list_iterator" := let ⟨o, e, c, _⟩ := h2; ⟨o, e, c⟩
    have k3 : ∃ o', s.heap.get? i3 = some o' ∧ o'.cls = .type "list_iterator" := let ⟨o, e, c, _⟩ := h3; ⟨o, e, c⟩
    have kz : ∃ o', s.heap.get? z = some o' ∧ o'.cls = .type "zip" := ⟨_, hz, rfl⟩
    have kT : ∃ o', s.heap.get? TO = some o' ∧ o'.cls = .type "tuple" := ⟨_, hTO, rfl⟩
    have apA : ∀ q ∈ [z, TO, i1, i2, i3], q ≠ a := fun q hq => by
      have e' : q = z ∨ q = TO ∨ q = i1 ∨ q = i2 ∨ q = i3 := by simpa using hq
      rcases e' with r | r | r | r | r
      · subst r; exact cell_ne kz ea (by rw [ca]; simp)
      · subst r; exact neT
      · subst r; exact cell_ne k1 ea (by rw [ca]; simp)
      · subst r; exact cell_ne k2 ea (by rw [ca]; simp)
      · subst r; exact cell_ne k3 ea (by rw [ca]; simp)
    have apB : ∀ q ∈ [z, TO, i1, i2, i3], q ≠ b := fun q hq => by
      have e' : q = z ∨ q = TO ∨ q = i1 ∨ q = i2 ∨ q = i3 := by simpa using hq
      rcases e' with r | r | r | r | r
      · subst r; exact cell_ne kz eb (by rw [cb]; simp)
      · subst r; exact cell_ne kT eb (by rw [cb]; simp)
      · subst r; exact cell_ne k1 eb (by rw [cb]; simp)
      · subst r; exact cell_ne k2 eb (by rw [cb]; simp)
      · subst r; exact cell_ne k3 eb (by rw [cb]; simp)
    have apC : ∀ q ∈ [z, TO, i1, i2, i3], q ≠ c := fun q hq => by
      have e' : q = z ∨ q = TO ∨ q = i1 ∨ q = i2 ∨ q = i3 := by simpa using hq
      rcases e' with r | r | r | r | r
      · subst r; exact cell_ne kz ec (by rw [cc]; simp)
      · subst r; exact cell_ne kT ec (by rw [cc]; simp)
      · subst r; exact cell_ne k1 ec (by rw [cc]; simp)
      · subst r; exact cell_ne k2 ec (by rw [cc]; simp)
      · subst r; exact cell_ne k3 ec (by rw [cc]; simp)
    have S := sep3 D apA apB apC
    have n1 : its.toArray.size = i := by rw [List.size_toArray, ← rv.length]; exact l1
    have n2 : its2.toArray.size = i := by rw [List.size_toArray, ← rv2.length]; exact l2
    have n3 : its3.toArray.size = i := by rw [List.size_toArray, ← rv3.length]; exact l3
    have hd := I.ok.hd hc
    exact wpAny_pyNext_zipD3_end S (Draws.tuple (A := X.A.in1) hd i1 a (Ne.symm (apA i1 (by simp))) its.toArray) (Draws.list (A := X.A.in1) hd i2 b (Ne.symm (apB i2 (by simp))) its2.toArray) (Draws.list (A := X.A.in1) hd i3 c (Ne.symm (apC i3 (by simp))) its3.toArray)
      hz hTI hTO ⟨h1, hT1⟩ ⟨h2, hL2⟩ ⟨h3, hL3⟩ (by omega) (by omega) (by omega) (by omega) fun h' tk hk => ⟨rfl, I.turnedL (t' := tk) (ch := [z, TI, TO, i1, i2, i3]) (fun c o hb q =>
      hk c o (fun q' => hb (by simp [q'])) (fun q' => hb (by simp [q'])) (fun q' => hb (by simp [q'])) (fun q' => hb (by simp [q'])) (fun q' => hb (by simp [q'])) q) hf⟩
  self := fun A i s Q E st h => wpAny_pyIter_zip st.1 h
def iZip3 (K : PySem.W.Frag) (ta : TA) : TI := fun σ H R => ta σ H fun vs H1 => ∃ a b c xs ys zs, vs = [.ref a, .ref b, .ref c] ∧ SqT K H1 a xs ∧ SqL K H1 b ys ∧ SqL K H1 c zs ∧ R (ItZ3 K a b c) H1
theorem pi_zip3 {X : Cx} {e e2 e3 : Expr} {ta : TA} {p pos tpos : Pos} {elts : List Expr} {kk : Nat} (hg : Gl X "zip") (hm : X.mg "zip" = none) (ha : PA X [e, e2, e3] ta)
    (hs : starEach [e, e2, e3] X.env = (false, eval e X.env) :: starEach [e2, e3] X.env := by rfl) (hpl : (backTo pos (starEach [e2, e3] X.env)).any (·.1) = false := by rfl) :
    PI X (.Tuple elts kk tpos) (.Call (.Name "zip" p) [e, e2, e3] [] pos) (iZip3 X.K ta) := by
  refine ⟨fun pins s σ H R I h => ?_⟩
  refine Call_ (ld_blt I hg hm PyProof.Rows.boot_zip (PyProof.Rows.callWith_type1 (thn (ha.run pos pins s σ H _ I h) fun us s1 ⟨vs, H1, I1, r1, q1⟩ => ?_) hs hpl))
  obtain ⟨a, b, c, xs, ys, zs, ex, hqx, hqy, hqz, q⟩ := q1
  subst ex
  cases r1 with
  | cons r rr =>
  cases rr with
  | cons r' rr =>
  cases rr with
  | cons r'' rr =>
    cases rr
    cases r
    cases r'
    cases r''
    obtain ⟨its, rv, p1, _⟩ := I1.tuple hqx
    obtain ⟨its2, rv2, p2, _⟩ := I1.list hqy
    obtain ⟨its3, rv3, p3, _⟩ := I1.list hqz
    have hT1 : s1.heap.IsTuple a its.toArray := p1
    obtain ⟨oa, ea, _⟩ := id hT1
    have hal : a < s1.heap.objs.size := Heap.lt_size ea
    refine zip_begins3 (begins_tuple a its.toArray) (begins_list b its2.toArray) (begins_list c its3.toArray) hT1 p2.isList p3.isList fun h' hz hTI hTO g1 g2 g3 hsz hk => wpAny_pyIter_zip hz ?_
    have I2 : Inv X pins σ H1 { s1 with heap := h' } := I1.kept (t' := s1.toks) hk
    refine ⟨s1.heap.objs.size + 5, [s1.heap.objs.size + 5, s1.heap.objs.size + 3, s1.heap.objs.size + 4, s1.heap.objs.size, s1.heap.objs.size + 1, s1.heap.objs.size + 2], _, _, H1, rfl, I2, turn_zip3 (ap3_of _), ⟨hz, hTI, ⟨_, _, _, hTO⟩, ⟨_, g1, rfl, rfl⟩, ⟨_, g2, rfl, rfl⟩, ⟨_, g3, rfl, rfl⟩, to_ne hal⟩, fun q hqm => ?_, q⟩
    · have hle : s1.heap.objs.size ≤ q := by
        have e' : q = s1.heap.objs.size + 5 ∨ q = s1.heap.objs.size + 3 ∨ q = s1.heap.objs.size + 4 ∨ q = s1.heap.objs.size ∨ q = s1.heap.objs.size + 1 ∨ q = s1.heap.objs.size + 2 := by simpa using hqm
        exact le_of6 e'
      exact I1.fpOk hle (I1.hok.fresh hle)
theorem for_zip3 {K : PySem.W.Frag} {a b c : Addr} {xs ys zs : List V} {g : TG} {tb : TS} {D : Ends} {σ : L2.St} {H : Hp} (hl : xs.length = ys.length) (hl2 : xs.length = zs.length) (Pv : Nat → L2.St → Hp → Prop) (h0 : Pv 0 σ H) (hq : ∀ i σ H, Pv i σ H → SqT K H a xs ∧ SqL K H b ys ∧ SqL K H c zs)
    (hs : ∀ (i : Nat) (x y z : V) (T : Addr) (σ : L2.St) (H : Hp), xs[i]? = some x → ys[i]? = some y → zs[i]? = some z → Pv i σ H → H T = none → g (.ref T) σ (upd H T (.tup [x, y, z])) fun σ2 H2 => tb { D with nx := Pv (i + 1), ct := Pv (i + 1), bk := D.nx } σ2 H2) (hd : ∀ σ H, Pv xs.length σ H → D.nx σ H) :
    ∃ W : Nat → Nat → L2.St → Hp → Prop, (∃ m, W 0 m σ H) ∧ ∀ i m σ H, W i m σ H →
      ((ItZ3 K a b c).stop i H ∧ D.nx σ H) ∨ ((ItZ3 K a b c).go i H ∧ ∃ N : L2.St → Hp → Prop, (∀ σ' H', N σ' H' → ∃ m', m' < m ∧ W (i + 1) m' σ' H') ∧ ∀ v H', (ItZ3 K a b c).yld i H v H' → g v σ H' fun σ2 H2 => tb { D with nx := N, ct := N, bk := D.nx } σ2 H2) := by
  refine ⟨fun i m σ H => m = xs.length - i ∧ i ≤ xs.length ∧ Pv i σ H, ⟨xs.length, rfl, Nat.zero_le _, h0⟩, ?_⟩
  rintro i m σ H ⟨rfl, hi, p⟩
  obtain ⟨qx, qy, qz⟩ := hq i σ H p
  by_cases hlt : i < xs.length
  · have hx : xs[i]? = some xs[i] := List.getElem?_eq_getElem hlt
    have hy : ys[i]? = some (ys[i]'(by omega)) := List.getElem?_eq_getElem (by omega)
    have hz : zs[i]? = some (zs[i]'(by omega)) := List.getElem?_eq_getElem (by omega)
    refine .inr ⟨⟨xs, ys, zs, _, _, _, qx, qy, qz, hx, hy, hz⟩, Pv (i + 1), fun σ' H' p' => ⟨xs.length - (i + 1), by omega, rfl, hlt, p'⟩, fun v H' y => ?_⟩
    obtain ⟨T, x', y', z', rfl, hT, rfl, f1, f2, f3⟩ := y
    exact hs i x' y' z' T σ H (f1 xs qx) (f2 ys qy) (f3 zs qz) p hT
  · have e : i = xs.length := by omega
    subst e
    exact .inl ⟨⟨xs, ys, zs, qx, qy, qz, rfl, hl.symm, hl2.symm⟩, hd σ H p⟩
end SR

set_option Elab.async false
set_option linter.all false
set_option maxRecDepth 100000
set_option maxHeartbeats 4000000
/-! Short words: a def that stands under its name (Dn), a built-in called, entries and summaries in the heap. -/
namespace SR
open PySem PySem.Spec PyProof.Rows L2
theorem pr_at {A B : Type} {F : A → B → Prop} : ∀ {l : List A} {m : List B} {i : Nat} {b : B}, Paired F l m → m[i]? = some b → ∃ a, l[i]? = some a ∧ F a b
  | _, _, _, _, .nil, e => by simp at e
  | _, _, 0, _, .cons r _, e => by simp at e; subst e; exact ⟨_, rfl, r⟩
  | _, _, i + 1, b, .cons _ t, e => by
    obtain ⟨u, h1, h2⟩ := pr_at (i := i) (b := b) t (by simpa using e)
    exact ⟨u, by simpa using h1, h2⟩
theorem pr_at' {A B : Type} {F : A → B → Prop} : ∀ {l : List A} {m : List B} {i : Nat} {a : A}, Paired F l m → l[i]? = some a → ∃ b, m[i]? = some b ∧ F a b
  | _, _, _, _, .nil, e => by simp at e
  | _, _, 0, _, .cons r _, e => by simp at e; subst e; exact ⟨_, rfl, r⟩
  | _, _, i + 1, a, .cons _ t, e => by
    obtain ⟨u, h1, h2⟩ := pr_at' (i := i) (a := a) t (by simpa using e)
    exact ⟨u, by simpa using h1, h2⟩
theorem pr_app {A B : Type} {F : A → B → Prop} : ∀ {l l2 : List A} {m m2 : List B}, Paired F l m → Paired F l2 m2 → Paired F (l ++ l2) (m ++ m2)
  | _, _, _, _, .nil, s => s
  | _, _, _, _, .cons r t, s => .cons r (pr_app t s)
theorem pr_drop {A B : Type} {F : A → B → Prop} : ∀ {l : List A} {m : List B} (n : Nat), Paired F l m → Paired F (l.drop n) (m.drop n)
  | _, _, 0, h => h
  | _, _, _ + 1, .nil => .nil
  | _, _, n + 1, .cons _ t => pr_drop n t
theorem pr_set {A B : Type} {F : A → B → Prop} {a : A} {b : B} (h : F a b) : ∀ {l : List A} {m : List B} (i : Nat), Paired F l m → Paired F (l.set i a) (m.set i b)
  | _, _, _, .nil => .nil
  | _, _, 0, .cons _ t => .cons h t
  | _, _, i + 1, .cons r t => .cons r (pr_set h i t)
theorem pr_map {A B C : Type} {F : A → C → Prop} {G : B → C → Prop} {f : A → B} (h : ∀ a c, F a c → G (f a) c) : ∀ {l : List A} {m : List C}, Paired F l m → Paired G (l.map f) m
  | _, _, .nil => .nil
  | _, _, .cons r t => .cons (h _ _ r) (pr_map h t)
theorem tyes_of {σ : L2.St} {H : Hp} {Q : Bool → Hp → Prop} (h : Q true H) : tYes σ H Q := h
/-! ### defs by their names -/
section
variable {P : Program} {w : World} {K : PySem.W.Frag} {mg : Str → Option Value} {base : Heap}
/-- the name x holds a def that keeps sp, with no default values, and no error leaves it -/
def Dn (P : Program) (w : World) (K : PySem.W.Frag) (mg : Str → Option Value) (base : Heap) (x : Str) (ps : List Str) (k : Nat) (sp : Sp) : Prop :=
  ∃ f fd, FnOk P w K mg base CX0 k f fd ps sp ∧ mg x = some (.ref f) ∧ PySem.W.keepIn K (.ref f) = true ∧ Binds K fd ps []
/-- a def of the text under its name -/
structure Fd (K : PySem.W.Frag) (mg : Str → Option Value) (x qual : Str) (st : Stmt) (ps : List Str) (f : Addr) (fd : FuncData) : Prop where
  F : Fun K x qual st f fd
  g : mg x = some (.ref f)
  b : Binds K fd ps []
theorem Fd.dn {x qual : Str} {st : Stmt} {ps : List Str} {f : Addr} {fd : FuncData} {k : Nat} {sp : Sp} (d : Fd K mg x qual st ps f fd) (G : FnOk P w K mg base CX0 k f fd ps sp) : Dn P w K mg base x ps k sp := ⟨f, fd, G, d.g, d.F.kp, d.b⟩
end
section
variable {X : Cx}
theorem pe_dn {x : Str} {ps : List Str} {k : Nat} {sp : Sp} {e : Expr} {es : List Expr} {t : TA} {p pos : Pos} (D : Dn X.prog X.w X.K X.mg X.base x ps k sp) (hr : Room k X.A) (ha : PA X (e :: es) t) (hg : Gl X x := by rfl)
    (hdb : (x == ("__debug__" : Str)) = false := by decide) (he : starEach (e :: es) X.env = (false, eval e X.env) :: starEach es X.env := by rfl) (hpl : (backTo pos (starEach es X.env)).any (·.1) = false := by rfl) :
    PE X (.Call (.Name x p) (e :: es) [] pos) (tCall sp [] E0 t) := by
  obtain ⟨f, fd, F, hm, hk, hb⟩ := D
  exact pe_call F hr hg hm hk hb .nil pass0 ha hdb he hpl
theorem pe_gi {x : Str} {i : Int} {t : Tok} {pos : Pos} (hm : X.mg x = some (.int i t)) (hg : Gl X x := by rfl) (hd : (x == ("__debug__" : Str)) = false := by decide) : PE X (.Name x pos) (tC (.int i)) := pe_glob hg hm ⟨_, rfl⟩ hd
end
/-! ### entries -/
def EntV (H : Hp) (v : V) (e : Ent) : Prop := ∃ t, v = .ref t ∧ H t = some (.tup [.int e.1, .int e.2.1, .int e.2.2])
def EntsV (H : Hp) (vs : List V) (es : List Ent) : Prop := Paired (EntV H) vs es
theorem EntV.mono {H H' : Hp} (s : Same H H') {v : V} {e : Ent} (h : EntV H v e) : EntV H' v e := let ⟨t, a, b⟩ := h; ⟨t, a, s _ _ b⟩
theorem EntsV.mono {H H' : Hp} (s : Same H H') {vs : List V} {es : List Ent} (h : EntsV H vs es) : EntsV H' vs es := Paired.mapP h fun _ _ x => x.mono s
theorem EntsV.len {H : Hp} {vs : List V} {es : List Ent} (h : EntsV H vs es) : vs.length = es.length := Paired.length h
/-- a tuple of entries -/
def TupV (H : Hp) (v : V) (es : List Ent) : Prop := ∃ a vs, v = .ref a ∧ H a = some (.tup vs) ∧ EntsV H vs es
theorem TupV.mono {H H' : Hp} (s : Same H H') {v : V} {es : List Ent} (h : TupV H v es) : TupV H' v es := let ⟨a, vs, e, b, c⟩ := h; ⟨a, vs, e, s _ _ b, c.mono s⟩
def sfl (n : Int) (v : V) : List (Str × V) := putF "_entries" v (putF "_many" (.int n) [])
theorem sne : ¬ (("_many" : Str) = "_entries") := by decide +kernel
theorem sfl_many (n : Int) (v : V) : (sfl n v).lookup ("_many" : Str) = some (.int n) := by
  unfold sfl
  rw [lookup_putF, if_neg sne, lookup_putF, if_pos rfl]
theorem sfl_entries (n : Int) (v : V) : (sfl n v).lookup ("_entries" : Str) = some v := by
  unfold sfl
  rw [lookup_putF, if_pos rfl]
/-- a Summary of n and es at v -/
def SumV (C : Addr) (H : Hp) (v : V) (n : Int) (es : List Ent) : Prop := ∃ p dx u, v = .ref p ∧ H p = some (.ins C dx (sfl n u)) ∧ TupV H u es
theorem SumV.mono {C : Addr} {H H' : Hp} (s : Same H H') {v : V} {n : Int} {es : List Ent} (h : SumV C H v n es) : SumV C H' v n es := let ⟨p, dx, u, e, b, c⟩ := h; ⟨p, dx, u, e, s _ _ b, c.mono s⟩
/-! ### data -/
def entD (e : Ent) : PyData := .tuple [.int e.1, .int e.2.1, .int e.2.2]
theorem EntV.dp {K : PySem.W.Frag} {H : Hp} {v : V} {e : Ent} (h : EntV H v e) : Dp K H v (entD e) := by
  obtain ⟨t, rfl, ht⟩ := h
  exact .tup (SqT.of ht) (.cons (.int _) (.cons (.int _) (.cons (.int _) .nil)))
theorem EntsV.dp {K : PySem.W.Frag} {H : Hp} : ∀ {vs : List V} {es : List Ent}, EntsV H vs es → DpAll K H vs (es.map entD)
  | _, _, .nil => .nil
  | _, _, .cons r t => .cons r.dp (EntsV.dp t)
theorem TupV.dp {K : PySem.W.Frag} {H : Hp} {v : V} {es : List Ent} (h : TupV H v es) : Dp K H v (.tuple (es.map entD)) := by
  obtain ⟨a, vs, rfl, ha, he⟩ := h
  exact .tup (SqT.of ha) he.dp
/-- flat rows of ints, tuples of such: they can be compared, and == is = -/
theorem shaped_tup {k : Nat} : ∀ {ds : List PyData}, (∀ d ∈ ds, d.canLay0 = true ∧ d.depth ≤ k) → (PyData.tuple ds).canLay0 = true ∧ (PyData.tuple ds).depth ≤ k + 1
  | [], _ => ⟨rfl, by show 0 + 1 ≤ k + 1; omega⟩
  | d :: ds, h => by
    have h1 := h d (List.mem_cons_self ..)
    have h2 := shaped_tup (ds := ds) fun x hx => h x (List.mem_cons_of_mem _ hx)
    have a : PyData.canLayAll0 (d :: ds) = true := by
      show (d.canLay0 && PyData.canLayAll0 ds) = true
      rw [h1.1]
      exact h2.1
    refine ⟨a, ?_⟩
    have b : PyData.depthAll ds + 1 ≤ k + 1 := h2.2
    show max d.depth (PyData.depthAll ds) + 1 ≤ k + 1
    omega
theorem ent_lay (e : Ent) : (entD e).canLay0 = true ∧ (entD e).depth ≤ 1 := ⟨rfl, by show max 0 (max 0 (max 0 0)) + 1 ≤ 1; decide⟩
theorem shaped_of {d : PyData} (h : d.canLay0 = true ∧ d.depth ≤ 64) : SeqAt.shaped d = true := by
  unfold SeqAt.shaped
  rw [h.1, decide_eq_true h.2]
  rfl
theorem ents_lay (es : List Ent) : (PyData.tuple (es.map entD)).canLay0 = true ∧ (PyData.tuple (es.map entD)).depth ≤ 2 := shaped_tup fun d hd => by
  obtain ⟨e, _, rfl⟩ := List.mem_map.mp hd
  exact ent_lay e
theorem shaped_ents (es : List Ent) : SeqAt.shaped (.tuple (es.map entD)) = true := shaped_of ⟨(ents_lay es).1, Nat.le_trans (ents_lay es).2 (by decide)⟩
theorem shaped_ent (e : Ent) : SeqAt.shaped (entD e) = true := shaped_of ⟨(ent_lay e).1, Nat.le_trans (ent_lay e).2 (by decide)⟩
theorem eqv_int (i j : Int) : PyData.eqv (.int i) (.int j) = decide (i = j) := by
  show (i == j) = decide (i = j)
  by_cases h : i = j
  · subst h; simp
  · rw [decide_eq_false h]; exact beq_eq_false_iff_ne.mpr h
theorem eqv_ent (e f : Ent) : PyData.eqv (entD e) (entD f) = decide (e = f) := by
  obtain ⟨a, b, c⟩ := e
  obtain ⟨a', b', c'⟩ := f
  show (PyData.eqv (.int a) (.int a') && (PyData.eqv (.int b) (.int b') && (PyData.eqv (.int c) (.int c') && true))) = _
  rw [eqv_int, eqv_int, eqv_int, Bool.and_true, ← Bool.decide_and, ← Bool.decide_and]
  exact decide_eq_decide.mpr ⟨fun ⟨x, y, z⟩ => by rw [x, y, z], fun h => by injection h with h1 h2; injection h2 with h2 h3; exact ⟨h1, h2, h3⟩⟩
theorem eqvAll_ents : ∀ es fs : List Ent, PyData.eqvAll (es.map entD) (fs.map entD) = decide (es = fs)
  | [], [] => rfl
  | [], _ :: _ => rfl
  | _ :: _, [] => rfl
  | e :: es, f :: fs => by
    show (PyData.eqv (entD e) (entD f) && PyData.eqvAll (es.map entD) (fs.map entD)) = _
    rw [eqv_ent, eqvAll_ents es fs, ← Bool.decide_and]
    exact decide_eq_decide.mpr ⟨fun ⟨x, y⟩ => by rw [x, y], fun h => by injection h with h1 h2; exact ⟨h1, h2⟩⟩
theorem eqv_ents (es fs : List Ent) : PyData.eqv (.tuple (es.map entD)) (.tuple (fs.map entD)) = decide (es = fs) := eqvAll_ents es fs
end SR

set_option Elab.async false
set_option linter.all false
set_option maxRecDepth 100000
set_option maxHeartbeats 4000000
/-! Words that no law's text is needed for. -/
namespace SR
open PySem PySem.Spec PyProof.Rows L2
def rTupOf (K : PySem.W.Frag) : List V → Hp → VK → Prop := fun xs H Q => ∃ p ys, xs = [.ref p] ∧ ((SqL K H p ys ∧ ∀ l, H l = none → Q (.ref l) (upd H l (.tup ys))) ∨ (SqT K H p ys ∧ Q (.ref p) H))
theorem call_tupK {X : Cx} : CallR X (.type "tuple") (rTupOf X.K) := call_tuple_of
def rListOf (K : PySem.W.Frag) : List V → Hp → VK → Prop := fun xs H Q => ∃ p ys, xs = [.ref p] ∧ (SqL K H p ys ∨ SqT K H p ys) ∧ ∀ l, H l = none → Q (.ref l) (upd H l (.lst ys))
theorem call_listK {X : Cx} : CallR X (.type "list") (rListOf X.K) := call_list_of
mutual
theorem dp_mono {K : PySem.W.Frag} {H H' : Hp} (s : Same H H') : ∀ {v : V} {d : PyData}, Dp K H v d → Dp K H' v d
  | _, _, .non => .non
  | _, _, .bl b => .bl b
  | _, _, .int i => .int i
  | _, _, .str x => .str x
  | _, _, .lst h a => .lst (s.seq h) (dpAll_mono s a)
  | _, _, .tup h a => .tup (by
      rcases h with (h | ⟨o, h⟩) | h
      · exact .inl (.inl (s _ _ h))
      · exact .inl (.inr ⟨o, s _ _ h⟩)
      · exact .inr h) (dpAll_mono s a)
theorem dpAll_mono {K : PySem.W.Frag} {H H' : Hp} (s : Same H H') : ∀ {vs : List V} {ds : List PyData}, DpAll K H vs ds → DpAll K H' vs ds
  | _, _, .nil => .nil
  | _, _, .cons h t => .cons (dp_mono s h) (dpAll_mono s t)
end
theorem dpAll_app {K : PySem.W.Frag} {H : Hp} : ∀ {vs ws : List V} {ds es : List PyData}, DpAll K H vs ds → DpAll K H ws es → DpAll K H (vs ++ ws) (ds ++ es)
  | _, _, _, _, .nil, h => h
  | _, _, _, _, .cons a t, h => .cons a (dpAll_app t h)
theorem shaped_lst {ds : List PyData} (h : ∀ d ∈ ds, d.canLay0 = true ∧ d.depth ≤ 60) : SeqAt.shaped (.list ds) = true := shaped_of ⟨(shaped_tup h).1, Nat.le_trans (shaped_tup h).2 (by decide)⟩
theorem eqv_nilL (ds : List PyData) : PyData.eqv (.list ds) (.list []) = ds.isEmpty := by
  cases ds with
  | nil => rfl
  | cons d r => rfl
theorem rat_get {row : List Int} {r : Int} (h1 : 1 ≤ r) (h2 : r ≤ row.length) : (row.map V.int)[(r - 1).toNat]? = some (.int (rat row r)) := by
  unfold rat
  rw [List.getElem?_map, List.getD_eq_getElem?_getD, List.getElem?_eq_getElem (show (r - 1).toNat < row.length by omega)]
  rfl
def WayV (H : Hp) (v : V) (w : List Int) : Prop := ∃ t, v = .ref t ∧ H t = some (.tup (w.map V.int))
theorem dpInts {K : PySem.W.Frag} {H : Hp} : ∀ w : List Int, DpAll K H (w.map V.int) (w.map PyData.int)
  | [] => .nil
  | i :: w => .cons (.int i) (dpInts w)
theorem shaped_intsL (w : List Int) : SeqAt.shaped (.list (w.map PyData.int)) = true := shaped_lst fun d hd => by
  obtain ⟨i, _, rfl⟩ := List.mem_map.mp hd
  exact ⟨rfl, Nat.zero_le _⟩
theorem two_ways {b : Bool} {ta tb : TE} {σ : L2.St} {H : Hp} {Q : VK} (R : V → Hp → Prop) (h1 : b = true → ∀ Q' : VK, (∀ v H', R v H' → Q' v H') → ta σ H Q') (h2 : b = false → ∀ Q' : VK, (∀ v H', R v H' → Q' v H') → tb σ H Q') (hq : ∀ v H', R v H' → Q v H') :
    if b = true then ta σ H Q else tb σ H Q := by
  cases b with
  | true => exact iteT (h1 rfl Q hq)
  | false => exact iteF (h2 rfl Q hq)
def WaysV (H : Hp) (vs : List V) (ws : List (List Int)) : Prop := Paired (WayV H) vs ws
theorem WaysV.mono {H H' : Hp} (s : Same H H') {vs : List V} {ws : List (List Int)} (h : WaysV H vs ws) : WaysV H' vs ws := Paired.mapP h fun _ _ ⟨t, a, b⟩ => ⟨t, a, s _ _ b⟩
theorem WaysV.len {H : Hp} {vs : List V} {ws : List (List Int)} (h : WaysV H vs ws) : vs.length = ws.length := Paired.length h
theorem shaped_ints (w : List Int) : SeqAt.shaped (.tuple (w.map PyData.int)) = true := by
  have h := shaped_tup (k := 60) (ds := w.map PyData.int) fun d hd => by
    obtain ⟨i, _, rfl⟩ := List.mem_map.mp hd
    exact ⟨rfl, Nat.zero_le _⟩
  exact shaped_of ⟨h.1, Nat.le_trans h.2 (by decide)⟩
theorem eqv_nilT (ds : List PyData) : PyData.eqv (.tuple ds) (.tuple []) = ds.isEmpty := by
  cases ds with
  | nil => rfl
  | cons d r => rfl
theorem atI_lastD {w : List Int} (h : w ≠ []) : atI (w.map V.int) (-1) = some (.int (w.getLastD 0)) := by
  have e : w = w.dropLast ++ [w.getLastD 0] := by
    rw [List.getLastD_eq_getLast?, List.getLast?_eq_some_getLast h]
    exact (List.dropLast_concat_getLast h).symm
  rw [e, List.map_append]
  have := atI_last (w.dropLast.map V.int) (.int (w.getLastD 0))
  rw [List.getLastD_eq_getLast?, List.getLast?_eq_some_getLast h] at this ⊢
  simp only [List.map_append, List.map_cons, List.map_nil, Option.getD_some] at this ⊢
  rw [List.getLastD_eq_getLast?]
  simpa using this
theorem last_in {row : List Int} (h : row ≠ []) : row.getLastD 0 ∈ row := by
  rw [List.getLastD_eq_getLast?, List.getLast?_eq_some_getLast h]
  exact List.getLast_mem h
/-! ### small words for the law -/
theorem int_take {l : List Int} {i : Nat} {z : Int} (h : l[i]? = some z) : (l.take i).map V.int ++ [.int z] = (l.take (i + 1)).map V.int := by
  rw [List.take_add_one, h, List.map_append]
  rfl
theorem map_int_at {l : List Int} {i : Nat} {z : V} (h : (l.map V.int)[i]? = some z) : ∃ x, l[i]? = some x ∧ z = .int x := by
  rw [List.getElem?_map] at h
  cases e : l[i]? with
  | none => rw [e] at h; cases h
  | some x => rw [e] at h; exact ⟨x, rfl, (Option.some.inj h).symm⟩

def wayD (w : List Int) : PyData := .tuple (w.map PyData.int)
theorem WaysV.dp {K : PySem.W.Frag} {H : Hp} : ∀ {vs : List V} {ws : List (List Int)}, WaysV H vs ws → DpAll K H vs (ws.map wayD)
  | _, _, .nil => .nil
  | _, _, .cons ⟨t, e, h⟩ r => by
    subst e
    exact .cons (.tup (SqT.of h) (dpInts _)) (WaysV.dp r)
theorem shaped_ways (ws : List (List Int)) : SeqAt.shaped (.list (ws.map wayD)) = true := shaped_lst fun d hd => by
  obtain ⟨w, _, rfl⟩ := List.mem_map.mp hd
  have h := shaped_tup (k := 0) (ds := w.map PyData.int) fun d hd => by
    obtain ⟨i, _, rfl⟩ := List.mem_map.mp hd
    exact ⟨rfl, Nat.zero_le _⟩
  exact ⟨h.1, Nat.le_trans h.2 (by decide)⟩
theorem sorted_eq : ∀ {l m : List Int}, l.Perm m → l.Pairwise (· ≤ ·) → m.Pairwise (· ≤ ·) → l = m
  | [], m, p, _, _ => p.nil_eq
  | x :: l, [], p, _, _ => by have := p.length_eq; simp at this
  | x :: l, y :: m, p, a, b => by
    have e : x = y := by
      rw [List.pairwise_cons] at a b
      have hy : y ∈ x :: l := p.mem_iff.mpr (List.mem_cons_self ..)
      have hx : x ∈ y :: m := p.mem_iff.mp (List.mem_cons_self ..)
      have h1 : x ≤ y := by
        rcases List.mem_cons.mp hy with h | h
        · rw [h]; exact Int.le_refl _
        · exact a.1 y h
      have h2 : y ≤ x := by
        rcases List.mem_cons.mp hx with h | h
        · rw [h]; exact Int.le_refl _
        · exact b.1 x h
      omega
    subst e
    rw [List.pairwise_cons] at a b
    rw [sorted_eq p.cons_inv a.2 b.2]
theorem eqv_self_ints : ∀ w : List Int, PyData.eqvAll (w.map PyData.int) (w.map PyData.int) = true
  | [] => rfl
  | i :: w => by
    show (PyData.eqv (.int i) (.int i) && PyData.eqvAll (w.map PyData.int) (w.map PyData.int)) = true
    rw [eqv_int, decide_eq_true rfl, eqv_self_ints w]
    rfl
/-- None or an int -/
def OI (x : V) : Prop := x = .non ∨ ∃ i, x = .int i
theorem OI.dp {x : V} (h : OI x) : ∃ d, (∀ (K : PySem.W.Frag) (H : Hp), Dp K H x d) ∧ d.canLay0 = true ∧ d.depth ≤ 60 ∧ PyData.eqv d d = true := by
  rcases h with rfl | ⟨i, rfl⟩
  · exact ⟨_, fun _ _ => .non, rfl, Nat.zero_le _, rfl⟩
  · exact ⟨.int i, fun _ _ => .int i, rfl, Nat.zero_le _, by rw [eqv_int, decide_eq_true rfl]⟩
/-- two pairs of the same are equal -/
theorem eq_pair {K : PySem.W.Frag} {H : Hp} {p q : Addr} {x y : V} (hx : OI x) (hy : OI y) (hp : H p = some (.tup [x, y])) (hq : H q = some (.tup [x, y])) : ∃ d e, Dp K H (.ref p) d ∧ Dp K H (.ref q) e ∧ SeqAt.shaped d = true ∧ SeqAt.shaped e = true ∧ PyData.eqv d e = true := by
  obtain ⟨d1, a1, b1, c1, e1⟩ := hx.dp
  obtain ⟨d2, a2, b2, c2, e2⟩ := hy.dp
  have sh : SeqAt.shaped (.tuple [d1, d2]) = true := by
    have h := shaped_tup (k := 60) (ds := [d1, d2]) fun d hd => by
      have : d = d1 ∨ d = d2 := by simpa using hd
      rcases this with rfl | rfl
      · exact ⟨b1, c1⟩
      · exact ⟨b2, c2⟩
    exact shaped_of ⟨h.1, Nat.le_trans h.2 (by decide)⟩
  refine ⟨.tuple [d1, d2], .tuple [d1, d2], .tup (SqT.of hp) (.cons (a1 _ _) (.cons (a2 _ _) .nil)), .tup (SqT.of hq) (.cons (a1 _ _) (.cons (a2 _ _) .nil)), sh, sh, ?_⟩
  show (PyData.eqv d1 d1 && (PyData.eqv d2 d2 && true)) = true
  rw [e1, e2]; rfl
theorem cut_from {xs : List V} {t : Nat} (h : t ≤ xs.length) : cutV xs (some (t : Int)) none = xs.drop t := by
  unfold cutV
  rw [show HT.sIx xs.length 0 (some (t : Int)) = min t xs.length from HT.sIx_nat xs.length 0 t, HT.sIx_none, Nat.min_eq_left h]
  exact List.take_of_length_le (by rw [List.length_drop]; exact Nat.le_refl _)
theorem cut_to {xs : List V} {t : Nat} (h : t ≤ xs.length) : cutV xs none (some (t : Int)) = xs.take t := by
  unfold cutV
  rw [show HT.sIx xs.length xs.length (some (t : Int)) = min t xs.length from HT.sIx_nat xs.length xs.length t, HT.sIx_none, Nat.min_eq_left h]
  rfl
section
variable {K : PySem.W.Frag} {H : Hp} {Q : VK}
theorem sl_from {tr : Addr} {row : List Int} {t : Nat} (hr : H tr = some (.tup (row.map V.int))) (ht : t ≤ row.length) (k : ∀ v H', Same H H' → WayV H' v (row.drop t) → Q v H') : rSlA K (.ref tr) (some (t : Int)) none H Q := by
  have htl : t ≤ (row.map V.int).length := by rw [List.length_map]; exact ht
  refine ⟨tr, _, rfl, SqT.of hr, fun ⟨h1, _⟩ => ?_, fun _ p np => ?_⟩
  · rw [show HT.sIx (row.map V.int).length 0 (some (t : Int)) = min t (row.map V.int).length from HT.sIx_nat _ 0 t, Nat.min_eq_left htl] at h1
    refine k _ _ (Same.refl _) ⟨tr, rfl, ?_⟩
    rw [h1, List.drop_zero]; exact hr
  · refine k _ _ (Same_new np) ⟨p, rfl, ?_⟩
    rw [upd_same, cut_from htl, List.map_drop]
theorem sl_to {tr : Addr} {row : List Int} {t : Nat} (hr : H tr = some (.tup (row.map V.int))) (ht : t ≤ row.length) (k : ∀ v H', Same H H' → WayV H' v (row.take t) → Q v H') : rSlA K (.ref tr) none (some (t : Int)) H Q := by
  have htl : t ≤ (row.map V.int).length := by rw [List.length_map]; exact ht
  refine ⟨tr, _, rfl, SqT.of hr, fun ⟨_, h1⟩ => ?_, fun _ p np => ?_⟩
  · rw [show HT.sIx (row.map V.int).length (row.map V.int).length (some (t : Int)) = min t (row.map V.int).length from HT.sIx_nat _ _ t, Nat.min_eq_left htl, List.length_map] at h1
    refine k _ _ (Same.refl _) ⟨tr, rfl, ?_⟩
    rw [h1, List.take_length]; exact hr
  · refine k _ _ (Same_new np) ⟨p, rfl, ?_⟩
    rw [upd_same, cut_to htl, List.map_take]
theorem cat_way {x y : V} {a b : List Int} (hx : WayV H x a) (hy : WayV H y b) (hl : a.length + b.length ≤ 900) (k : ∀ v H', Same H H' → WayV H' v (a ++ b) → Q v H') : rCatA K x y H Q := by
  obtain ⟨p, rfl, hp⟩ := hx
  obtain ⟨q, rfl, hq⟩ := hy
  refine ⟨p, q, _, _, rfl, rfl, SqT.of hp, SqT.of hq, ?_, fun h => ?_, fun _ h => ?_, fun _ _ r nr => ?_⟩
  · rw [List.length_map, List.length_map]
    exact Nat.le_of_lt (small1000 (by omega))
  · have e : a = [] := List.map_eq_nil_iff.mp h
    subst e
    exact k _ _ (Same.refl _) ⟨q, rfl, hq⟩
  · have e : b = [] := List.map_eq_nil_iff.mp h
    subst e
    exact k _ _ (Same.refl _) ⟨p, rfl, by rw [List.append_nil]; exact hp⟩
  · exact k _ _ (Same_new nr) ⟨r, rfl, by rw [upd_same, List.map_append]⟩
end
theorem next_of {D : Ends} {σ : L2.St} {H : Hp} (h : D.nx σ H) : tNext D σ H := h
theorem seq_ifs {c : TT} {t rest : TS} {D : Ends} {σ : L2.St} {H : Hp} (R : Hp → Prop) (hc : ∀ Q : Bool → Hp → Prop, (∀ H1, R H1 → Q false H1) → c σ H Q) (hn : ∀ H1, R H1 → rest D σ H1) : tSeq (tIfS c t tNext) rest D σ H := hc _ fun H1 r => iteF (hn H1 r)
/-- an if statement, its two ways joined behind it -/
theorem seq_ifj {c : TT} {t u rest : TS} {D : Ends} {σ : L2.St} {H : Hp} (R : L2.St → Hp → Prop) (hc : ∀ N : L2.St → Hp → Prop, (∀ σ1 H1, R σ1 H1 → N σ1 H1) → c σ H fun b H1 => if b = true then t { D with nx := N } σ H1 else u { D with nx := N } σ H1) (hn : ∀ σ1 H1, R σ1 H1 → rest D σ1 H1) : tSeq (tIfS c t u) rest D σ H := hc (rest D) hn
theorem asc_at {l : List Int} (h : l.Pairwise (· ≤ ·)) : ∀ (a b : Nat) (x y : Int), a ≤ b → l[a]? = some x → l[b]? = some y → x ≤ y := fun a b x y hab hx hy => by
  obtain ⟨ha, rfl⟩ := List.getElem?_eq_some_iff.mp hx
  obtain ⟨hb, rfl⟩ := List.getElem?_eq_some_iff.mp hy
  by_cases e : a = b
  · subst e; exact Int.le_refl _
  · exact List.pairwise_iff_getElem.mp h a b ha hb (by omega)
theorem range_asc (m : Nat) (c : Int) : ((List.range m).map fun (i : Nat) => c + (i : Int)).Pairwise (· ≤ ·) := by
  rw [List.pairwise_map]
  exact List.pairwise_lt_range.imp fun h => by omega
def IsMin (l : List Int) (m : Int) : Prop := m ∈ l ∧ ∀ x ∈ l, m ≤ x
def IsMax (l : List Int) (m : Int) : Prop := m ∈ l ∧ ∀ x ∈ l, x ≤ m
def FirstAt (l : List Int) (m : Int) (j : Nat) : Prop := l[j]? = some m ∧ ∀ (i : Nat) (z : Int), i < j → l[i]? = some z → z ≠ m
theorem IsMin.uniq {l : List Int} {a b : Int} (h : IsMin l a) (g : IsMin l b) : a = b := Int.le_antisymm (h.2 _ g.1) (g.2 _ h.1)
theorem IsMax.uniq {l : List Int} {a b : Int} (h : IsMax l a) (g : IsMax l b) : a = b := Int.le_antisymm (g.2 _ h.1) (h.2 _ g.1)
/-! ### what the promises tell, held against all rows -/
theorem FirstAt.uniq {l : List Int} {m : Int} {i j : Nat} (h : FirstAt l m i) (g : FirstAt l m j) : i = j := by
  rcases Nat.lt_trichotomy i j with c | c | c
  · exact absurd rfl (g.2 i m c h.1)
  · exact c
  · exact absurd rfl (h.2 j m c g.1)
theorem first_of {m : Int} : ∀ {l : List Int}, m ∈ l → ∃ j, FirstAt l m j
  | x :: l, h => by
    by_cases e : x = m
    · subst e
      exact ⟨0, rfl, fun i z hi => absurd hi (Nat.not_lt_zero i)⟩
    · have h' : m ∈ l := by
        rcases List.mem_cons.mp h with h | h
        · exact absurd h.symm e
        · exact h
      obtain ⟨j, h1, h2⟩ := first_of h'
      refine ⟨j + 1, by simpa using h1, fun i z hi hz => ?_⟩
      cases i with
      | zero =>
        have : x = z := by simpa using hz
        rw [← this]; exact e
      | succ i => exact h2 i z (by omega) (by simpa using hz)
theorem min_of : ∀ {l : List Int}, l ≠ [] → ∃ m, IsMin l m
  | [], h => absurd rfl h
  | [x], _ => ⟨x, by simp, fun y hy => by rw [List.mem_singleton.mp hy]; exact Int.le_refl _⟩
  | x :: y :: l, _ => by
    obtain ⟨m, hm, hl⟩ := min_of (l := y :: l) (by simp)
    by_cases c : m ≤ x
    · refine ⟨m, List.mem_cons_of_mem _ hm, fun z hz => ?_⟩
      rcases List.mem_cons.mp hz with h | h
      · rw [h]; exact c
      · exact hl z h
    · refine ⟨x, List.mem_cons_self .., fun z hz => ?_⟩
      rcases List.mem_cons.mp hz with h | h
      · rw [h]; exact Int.le_refl _
      · have := hl z h; omega
theorem flat_ints (l : List Int) : (l.map V.int).all flatV = true := by
  rw [List.all_map]
  exact List.all_eq_true.mpr fun _ _ => rfl
theorem eqV_int (i j : Int) : eqV (.int i) (.int j) = decide (i = j) := by
  first | rfl | (show (i == j) = decide (i = j); by_cases h : i = j <;> simp [h])
theorem index_of {K : PySem.W.Frag} {H : Hp} {D : Addr} {l : List Int} {m : Int} {j : Nat} {Q : VK} (hD : SqL K H D (l.map V.int)) (f : FirstAt l m j) (q : Q (.int (j : Nat)) H) : rIndex K (.ref D) [.int m] H Q := by
  refine ⟨D, _, .int m, j, .int m, rfl, rfl, hD, rfl, flat_ints l, ?_, ?_, fun i z hi hz => ?_, q⟩
  · rw [List.getElem?_map, f.1]; rfl
  · rw [eqV_int, decide_eq_true rfl]
  · obtain ⟨x, hx, rfl⟩ := map_int_at hz
    rw [eqV_int]
    exact decide_eq_false (f.2 i x hi hx)
theorem sh2 (g R : Int) : SeqAt.shaped (.tuple [.int g, .int R]) = true := shaped_of ⟨rfl, by show max 0 (max 0 0) + 1 ≤ 64; decide⟩
theorem eq2 (g R : Int) : PyData.eqv (.tuple [.int g, .int R]) (.tuple [.int g, .int R]) = true := by
  show (PyData.eqv (.int g) (.int g) && (PyData.eqv (.int R) (.int R) && true)) = true
  rw [eqv_int, eqv_int, decide_eq_true rfl, decide_eq_true rfl]
  rfl
theorem index1 {l : List Int} {m : Int} {j : Nat} (f : FirstAt l m j) : (l.map V.int)[j]? = some (.int m) := by rw [List.getElem?_map, f.1]; rfl
theorem index2 (m : Int) : eqV (.int m) (.int m) = true := by rw [eqV_int, decide_eq_true rfl]
theorem index3 {l : List Int} {m : Int} {j : Nat} (f : FirstAt l m j) : ∀ (i : Nat) (z : V), i < j → (l.map V.int)[i]? = some z → eqV z (.int m) = false := fun i z hi hz => by
  obtain ⟨x, hx, rfl⟩ := map_int_at hz
  rw [eqV_int]
  exact decide_eq_false (f.2 i x hi hx)
theorem st_eq {t : TS} {D : Ends} {σ σ' : L2.St} {H : Hp} (h : σ = σ') (g : t D σ' H) : t D σ H := by rw [h]; exact g
def spLaw (K : PySem.W.Frag) : Sp := fun vs H Q _ => ∃ (a : Addr) (ns : List Int), vs = [.ref a] ∧ SqL K H a (ns.map V.int) ∧ ns.length ≤ 63 ∧ ∀ H', Q (.bl true) H'
theorem blkOk_eq {N : List Str} {sc sc' scope : Scope} {own : List (Str × Nat)} (h : BlkOk N sc' scope own) (e : sc.names = sc'.names) : BlkOk N sc scope own := ⟨h.kind, h.uniq, h.ix, by rw [e]; exact h.free, h.own⟩
def pick (p : Ent → Bool) (f : Ent → Int) (es : List Ent) : List Int := (es.filter p).map f
theorem pick_more {p : Ent → Bool} {f : Ent → Int} {es : List Ent} {i : Nat} {e : Ent} (h : es[i]? = some e) : pick p f (es.take (i + 1)) = pick p f (es.take i) ++ (if p e = true then [f e] else []) := by
  unfold pick
  rw [List.take_add_one, h, List.filter_append, List.map_append]
  by_cases c : p e = true
  · rw [if_pos c]; simp [c]
  · rw [if_neg c]; simp [c]
theorem pick_len {p : Ent → Bool} {f : Ent → Int} {es : List Ent} : (pick p f es).length ≤ es.length := by
  unfold pick
  rw [List.length_map]
  exact List.length_filter_le _ _
end SR

set_option Elab.async false
set_option linter.all false
set_option maxRecDepth 100000
set_option maxHeartbeats 4000000
/-! Own error classes without fields, whose __init__ takes nothing but self and does nothing: made by X(). -/
namespace SR
open PySem PySem.W PySem.Calls PyProof.Rows PySem.HandSPX
def nzA (p1 : Pos) : Arguments := { posonlyargs := [], args := [{ arg := "self", annotation := none, pos := p1 }], vararg := none, kwonlyargs := [], kw_defaults := [], kwarg := none, defaults := [] }
def nzB (q1 : Pos) : List Stmt := [.Pass q1]
def nzS : Scope := { kind := .function, names := [(PySem.Str.ofString "self", .local)], isGenerator := false, isCoroutine := false, more := [] }
/-- what the top says of such a class x, at C, its __init__ at fI -/
structure NzTxt (K : Frag) (mg : Str → Option Value) (x : Str) (C fI : Addr) : Prop where
  gC : mg x = some (.ref C)
  cls : ∃ nm q N bs bm sn sub ab col dd k0 k1 k2 k3 k5, K.lookup C = some (excClassObj nm q C N bs bm true sn sub ab col dd k0 k1 k2 k3 k5 "ValueError.__new__") ∧ refsVE bm = true
  iC : findIn K (.ref C) "__init__" = some (some (.ref fI))
  tC : typeIn K (.ref fI) = some (.type "function")
  kC : keepIn K (.ref C) = true
  exC : subIn K (.ref C) (.type "BaseException") = some true
  tyC : typeIn K (.ref C) = some (.type "type")
  fn : ∃ (oc : Value) (od : Option Addr) (doc pm : Value) (an : Option Addr) (kV cdv ct : Value) (osl : Array (Option Value)) (qn : Str) (p1 q1 : Pos),
    K.lookup fI = some ⟨oc, od, .func (fnOf "__init__" qn (nzA p1) (nzB q1) nzS .none kV doc pm an cdv ct), osl⟩ ∧ codeIn K cdv qn = true
theorem nz_size : ([] : List Value).length ≤ sizeLine := by
  rw [sizeLine_eq]
  exact (by decide : 0 ≤ 16777216)
section
variable {prog : Program} {w : World} {A : Around} {E : Value → Shared → Prop} {R : Result → Shared → Prop} {s : Shared} {K : Frag} {mg : Str → Option Value} {x : Str} {C fI : Addr}
theorem nz_init (T : NzTxt K mg x C fI) {a : Addr} (X : K.In s.heap) (hlim : s.heap.NoLimit) (hroom : A.depth < recursionLimit)
    (hq : ∀ h' tk, (∀ b o, s.heap.get? b = some o → h'.get? b = some o) → R (.ok (.ret .none)) { s with heap := h', toks := tk }) :
    codeAny (model prog w) A (.call (.ref fI) ⟨[.ref a], []⟩) R s := by
  obtain ⟨oc, od, doc, pm, an, kV, cdv, ct, osl, qn, p1, q1, ho, hcd⟩ := T.fn
  refine Att.call_fn (binds := [("self", .ref a)]) X hlim ho hcd hroom (BindsTo.of_eq (by first | rfl | with_unfolding_all rfl)) (by first | rfl | decide | with_unfolding_all rfl) (fun s₁ IC => ?_) rfl rfl rfl
  obtain ⟨h₁, tk₁, rfl⟩ := IC.toInCall.same
  have k : ∀ b o, s.heap.get? b = some o → h₁.get? b = some o := IC.toInCall.keep
  show wpAny _ _ (execs _ _) _ _ _
  refine wpAny_execs_cons ?_
  refine wpAny_Pass ?_
  show wpAny _ _ (execs _ _) _ _ _
  exact wpAny_execs_nil (hq h₁ tk₁ k)
theorem nz_made (T : NzTxt K mg x C fI) (X : K.In s.heap) (hlim : s.heap.NoLimit) (hroom : A.depth + 1 < recursionLimit)
    (hq : ∀ h' tk e, s.heap.objs.size ≤ e → s.heap.MadeExcOf h' e (.ref C) [] → R (.ok (.ret (.ref e))) { s with heap := h', toks := tk }) :
    codeAny (model prog w) A (.call (.ref C) ⟨[], []⟩) R s := by
  obtain ⟨nm, q, N, bs, bm, sn, sub, ab, col, dd, k0, k1, k2, k3, k5, hC, hbm⟩ := T.cls
  obtain ⟨hp, g, dr, tk, os⟩ := s
  have k : ∀ b o, hp.get? b = some o → ((hp.push (kdv_tup [])).push (excO C hp.objs.size)).get? b = some o := fun b o e => Heap.get?_push_of_some _ (Heap.get?_push_of_some _ e)
  have hget : ((hp.push (kdv_tup [])).push (excO C hp.objs.size)).get? (hp.objs.size + 1) = some (excO C hp.objs.size) := by heap_get
  have hget0 : ((hp.push (kdv_tup [])).push (excO C hp.objs.size)).get? hp.objs.size = some (kdv_tup []) := by heap_get
  have hnx : ∀ z, hp.objs.size ≤ z → hp.get? z = none := fun z hz => by
    cases e : hp.get? z with
    | none => rfl
    | some o => exact absurd (Heap.lt_size e) (Nat.not_lt.mpr hz)
  refine call_own F.excBase_ValueError (fun X => refsVE_contains X bm hbm) (X _ _ hC) (looks_findIn X T.iC) (fun self => bind_fn X self T.tC) nz_size ?_
  refine nz_init (s := ⟨(hp.push (kdv_tup [])).push (excO C hp.objs.size), g, dr, tk, os⟩) T (X.keeps k) (hlim.keeps k) ?_ fun h' tk' k' => ?_
  · show A.depth + 1 < recursionLimit
    exact hroom
  · exact ⟨rfl, hq h' tk' (hp.objs.size + 1) (Nat.le_succ _) ⟨fun b o e => k' b o (k b o e), hnx _ (Nat.le_succ _), hp.objs.size, k' _ _ hget, hnx _ (Nat.le_refl _), k' _ _ hget0⟩⟩
end
end SR
namespace SR
open PySem PySem.Spec PyProof.Rows L2
section
variable {X : Cx} {x : Str} {C fI : Addr}
theorem pmk_nz {p pos : Pos} {k : Nat} (T : NzTxt X.K X.mg x C fI) (hr : Room k X.A) (hk : 1 ≤ k) (hg : Gl X x) (hdb : (x == ("__debug__" : Str)) = false := by decide) :
    PMk X (.Call (.Name x p) [] [] pos) (fun _ H Q => Q (.ref C) none H) := by
  intro pins s σ H Q I q
  refine wpAny_Call_Name_kw (ld_glob I hg T.gC ?_ hdb)
  refine PySem.W.callWith_K0 I.kIn T.kC ?_
  refine wpAny_call (nz_made T I.kIn I.nolimit (by have := hr.dp; omega) fun h' tk' e he M => ?_)
  exact mk_of (s := ⟨s.heap, s.gens, s.drawn, tk', s.os⟩) (I.tok tk') ⟨M.keeps, M.new, M.there⟩ (raises_own T.exC T.tyC) q (I.hok.fresh he)
end
section
variable {P : Program} {w : World} {K : PySem.W.Frag} {mg : Str → Option Value} {base : Heap} {C N M fI : Addr}
/-- as Dn, but errors may leave it -/
def DnX (P : Program) (w : World) (K : PySem.W.Frag) (mg : Str → Option Value) (base : Heap) (x : Str) (ps : List Str) (k : Nat) (sp : Sp) : Prop :=
  ∃ f fd, FnOk P w K mg base (L2.CX P w) k f fd ps sp ∧ mg x = some (.ref f) ∧ PySem.W.keepIn K (.ref f) = true ∧ Binds K fd ps []
theorem Fd.dnx {x qual : Str} {st : Stmt} {ps : List Str} {f : Addr} {fd : FuncData} {k : Nat} {sp : Sp} (d : Fd K mg x qual st ps f fd) (G : FnOk P w K mg base (L2.CX P w) k f fd ps sp) : DnX P w K mg base x ps k sp := ⟨f, fd, G, d.g, d.F.kp, d.b⟩
/-- called where no error may leave -/
theorem pe_dn0 {X : Cx} {x : Str} {ps : List Str} {k : Nat} {sp : Sp} {e : Expr} {es : List Expr} {t : TA} {p pos : Pos} (D : DnX X.prog X.w X.K X.mg X.base x ps k sp) (hr : Room k X.A) (ha : PA X (e :: es) t) (hg : Gl X x := by rfl)
    (hdb : (x == ("__debug__" : Str)) = false := by decide) (he : starEach (e :: es) X.env = (false, eval e X.env) :: starEach es X.env := by rfl) (hpl : (backTo pos (starEach es X.env)).any (·.1) = false := by rfl) :
    PE X (.Call (.Name x p) (e :: es) [] pos) (tCall sp [] E0 t) := by
  obtain ⟨f, fd, F, hm, hk, hb⟩ := D
  exact pe_call F hr hg hm hk hb .nil passL ha hdb he hpl
/-- called where errors are passed on -/
theorem pe_dnX {X : Cx} {W : WX} {x : Str} {ps : List Str} {k : Nat} {sp : Sp} {e : Expr} {es : List Expr} {t : TA} {p pos : Pos} (D : DnX X.prog X.w X.K X.mg X.base x ps k sp) (hr : Room k X.A) (tk : Takes X W) (ha : PA X (e :: es) t) (hg : Gl X x := by rfl)
    (hdb : (x == ("__debug__" : Str)) = false := by decide) (he : starEach (e :: es) X.env = (false, eval e X.env) :: starEach es X.env := by rfl) (hpl : (backTo pos (starEach es X.env)).any (·.1) = false := by rfl) :
    PE X (.Call (.Name x p) (e :: es) [] pos) (tCallS sp (WE W) t) := by
  obtain ⟨f, fd, F, hm, hk, hb⟩ := D
  exact pe_callS F hr hg hm hk hb (fun σ => passAt tk σ) ha hdb he hpl
end
end SR

set_option Elab.async false
set_option linter.all false
set_option maxRecDepth 100000
set_option maxHeartbeats 4000000
/-! max(xs, default=d), min(xs, default=d) over a list of ints. -/
namespace SR
open PySem PySem.W PySem.Calls PyProof.Rows
theorem upd_get {h : Heap} {a b : Addr} {f : Obj → Obj} {o : Obj} (hne : b ≠ a) (e : h.get? b = some o) : (h.update a f).get? b = some o := by rw [Heap.get?_update_other h f (Ne.symm hne)]; exact e
section
variable {prog : Program} {w : World} {A : Around} {R : Result → Shared → Prop} {I S : Addr} {fp wr : List Addr} {n : Nat} {P : Nat → Value → Prop} {St : Nat → Heap → Prop} {bt : Nat → Nat → Bool} {kw : List (Str × Value)}
theorem mx_loop (W : Walks prog w A.in1 I fp wr n P St) (hcmp : CmpOf prog w A.in1 CmpOp.Gt P bt) (hSf : S ∉ fp) : ∀ (k j : Nat) (s : Shared) (vb : Value) (c : Nat), n - (j + 1) = k → j + 1 ≤ n → St (j + 1) s.heap → P (argBest bt j) vb →
    s.heap.get? S = some { cls := .type "list", data := .seq #[vb, vb] c } →
    (∀ v h' tk, P (argBest bt (n - 1)) v → (∀ b o, b ∉ wr → b ≠ S → s.heap.get? b = some o → h'.get? b = some o) → R (.ok (.ret v)) { s with heap := h', toks := tk }) →
    codeAny (model prog w) A (.builtin "max.loop" { pos := [.ref I, .none, .ref S], kw := kw }) R s := by
  have hSw : S ∉ wr := fun h => hSf (W.sub S h)
  have hname : toString "max" ++ toString ".loop" = "max.loop" := by decide
  intro k
  induction k with
  | zero =>
    intro j s vb c hk hj hst hPb hS hR
    have hin : j + 1 = n := by omega
    refine codeAny_builtin F.entry_max_loop ?_
    rw [Around.under_plainId F.plain_max_loop]
    refine wpAny_bind (wpAny_seqItems hS rfl ?_)
    refine wpAny_bind (wpAny_tryCatch (W.done s _ _ (hin ▸ hst) fun h' tk keep => ?_))
    refine wpAny_bind (wpAny_updateSeq (keep S _ hSw hS) rfl ?_)
    refine wpAny_bind (wpAny_letGo ?_)
    refine wpAny_pure (hR vb _ tk ?_ fun b o hb hbS e => ?_)
    · rw [← hin]; exact hPb
    · exact upd_get hbS (keep b o hb e)
  | succ k ih =>
    intro j s vb c hk hj hst hPb hS hR
    have hlt : j + 1 < n := by omega
    refine codeAny_builtin F.entry_max_loop ?_
    rw [Around.under_plainId F.plain_max_loop]
    refine wpAny_bind (wpAny_seqItems hS rfl ?_)
    refine wpAny_bind (wpAny_tryCatch (W.item (j + 1) s _ _ hlt hst fun v h' tk hv hst' keep => ?_))
    refine wpAny_bind (wpAny_pure ?_)
    refine wpAny_bind (wpAny_tryCatch (wpAny_holding (wpAny_bind (hcmp (j + 1) (argBest bt j) v vb _ _ _ hv hPb ?_))))
    refine wpAny_bind (wpAny_holding (wpAny_truthy_bool ?_))
    refine wpAny_bind (wpAny_letGo ?_)
    refine wpAny_pure ?_
    have hS' := keep S _ hSw hS
    have eb : argBest bt (j + 1) = if bt (j + 1) (argBest bt j) = true then j + 1 else argBest bt j := rfl
    by_cases hb : bt (j + 1) (argBest bt j) = true
    · rw [if_pos hb] at eb ⊢
      refine wpAny_bind (wpAny_updateSeq hS' rfl ?_)
      refine wpAny_bind (wpAny_letGo ?_)
      rw [hname]
      refine wpAny_pure ⟨plainId_quiet F.plain_max_loop _, ?_⟩
      refine ih (j + 1) _ v c (by omega) (by omega) ?_ (by rw [eb]; exact hv) ?_ ?_
      · exact W.frame _ _ _ hst' fun b hb2 o e => upd_get (fun z => hSf (by rw [← z]; exact hb2)) e
      · exact Heap.get?_update_self _ hS' rfl
      · intro v2 h2 tk2 hv2 k2
        exact hR v2 h2 tk2 hv2 fun b o hbw hbS e => k2 b o hbw hbS (upd_get hbS (keep b o hbw e))
    · rw [if_neg hb] at eb ⊢
      refine wpAny_bind (wpAny_letGo ?_)
      rw [hname]
      refine wpAny_pure ⟨plainId_quiet F.plain_max_loop _, ?_⟩
      refine ih (j + 1) _ vb c (by omega) (by omega) hst' (by rw [eb]; exact hPb) hS' ?_
      intro v2 h2 tk2 hv2 k2
      exact hR v2 h2 tk2 hv2 fun b o hbw hbS e => k2 b o hbw hbS (keep b o hbw e)
/-- the first item -/
theorem mx_first (W : Walks prog w A.in1 I fp wr n P St) (hcmp : CmpOf prog w A.in1 CmpOp.Gt P bt) (hSf : S ∉ fp) (hn : 0 < n) {s : Shared} {c : Nat} (hst : St 0 s.heap)
    (hS : s.heap.get? S = some { cls := .type "list", data := .seq #[] c })
    (hR : ∀ v h' tk, P (argBest bt (n - 1)) v → (∀ b o, b ∉ wr → b ≠ S → s.heap.get? b = some o → h'.get? b = some o) → R (.ok (.ret v)) { s with heap := h', toks := tk }) :
    codeAny (model prog w) A (.builtin "max.loop" { pos := [.ref I, .none, .ref S], kw := kw }) R s := by
  have hSw : S ∉ wr := fun h => hSf (W.sub S h)
  have hname : toString "max" ++ toString ".loop" = "max.loop" := by decide
  refine codeAny_builtin F.entry_max_loop ?_
  rw [Around.under_plainId F.plain_max_loop]
  refine wpAny_bind (wpAny_seqItems hS rfl ?_)
  refine wpAny_bind (wpAny_tryCatch (W.item 0 s _ _ hn hst fun v h' tk hv hst' keep => ?_))
  refine wpAny_bind (wpAny_pure ?_)
  have hS' := keep S _ hSw hS
  refine wpAny_bind (wpAny_updateSeq hS' rfl ?_)
  rw [hname]
  refine wpAny_pure ⟨plainId_quiet F.plain_max_loop _, ?_⟩
  have hS2 := Heap.get?_update_self (Obj.mapSeq fun _ => #[v, v]) hS' rfl
  refine mx_loop W hcmp hSf _ 0 _ v _ rfl (by omega) ?_ hv hS2 ?_
  · exact W.frame _ _ _ hst' fun b hb2 o e => upd_get (fun z => hSf (by rw [← z]; exact hb2)) e
  · intro v2 h2 tk2 hv2 k2
    exact hR v2 h2 tk2 hv2 fun b o hbw hbS e => k2 b o hbw hbS (upd_get hbS (keep b o hbw e))
/-- no item: the default -/
theorem mx_none (W : Walks prog w A.in1 I fp wr 0 P St) (hSf : S ∉ fp) {s : Shared} {c : Nat} {d : Value} {x : Str} (hst : St 0 s.heap)
    (hS : s.heap.get? S = some { cls := .type "list", data := .seq #[] c })
    (hR : ∀ h' tk, (∀ b o, b ∉ wr → b ≠ S → s.heap.get? b = some o → h'.get? b = some o) → R (.ok (.ret d)) { s with heap := h', toks := tk }) :
    codeAny (model prog w) A (.builtin "max.loop" { pos := [.ref I, .none, .ref S], kw := [(x, d)] }) R s := by
  refine codeAny_builtin F.entry_max_loop ?_
  rw [Around.under_plainId F.plain_max_loop]
  refine wpAny_bind (wpAny_seqItems hS rfl ?_)
  refine wpAny_bind (wpAny_tryCatch (W.done s _ _ hst fun h' tk keep => ?_))
  refine wpAny_bind (wpAny_rule ?_)
  exact wpAny_pure (hR h' tk fun b o hb _ e => keep b o hb e)
end
theorem ints_at : ∀ {its : List Value} {ns : List Int} {i : Nat} {v : Value}, IntsAre its ns → its[i]? = some v → ∃ t, v = .int (ns.getD i 0) t
  | _, _, _, _, .nil, e => by simp at e
  | _, _, 0, _, .cons n t _, e => ⟨t, by simpa using e.symm⟩
  | _, _, i + 1, _, .cons n t h, e => by
    obtain ⟨t', e'⟩ := ints_at (i := i) h (by simpa using e)
    exact ⟨t', by simpa using e'⟩
theorem getD_in {l : List Int} {i : Nat} (h : i < l.length) : l.getD i 0 ∈ l := by
  rw [List.getD_eq_getElem?_getD, List.getElem?_eq_getElem h]
  exact List.getElem_mem _
/-- max(l, default=d) -/
theorem max_dflt {prog : Program} {w : World} {A : Around} {E : Value → Shared → Prop} {s : Shared} {l : Addr} {its : List Value} {ns : List Int} {d : Value} {Q : Value → Shared → Prop} (hh : A.handled = none) (hl : s.heap.IsList l its.toArray) (hi : IntsAre its ns)
    (h0 : ns = [] → ∀ (h' : Heap) (tk : Nat), (∀ b o, s.heap.get? b = some o → h'.get? b = some o) → Q d { s with heap := h', toks := tk })
    (h : ∀ (h' : Heap) (tk : Nat) (m : Int) (t' : Tok), (∀ b o, s.heap.get? b = some o → h'.get? b = some o) → m ∈ ns → (∀ a ∈ ns, a ≤ m) → Q (.int m t') { s with heap := h', toks := tk }) :
    wpAny (model prog w) A (call (.builtin "max") [.ref l] [("default", d)]) Q E s := by
  have hname : toString "max" ++ toString ".loop" = "max.loop" := by decide
  have hlen : its.length = ns.length := hi.length
  obtain ⟨ol, hol, hoc, hod⟩ := id hl
  have hll := Heap.lt_size hol
  refine kmk_tree F.kind_max F.plain_max F.entry_max rfl ?_
  refine wpAny_bind (wpAny_of_eq (show _ = pure [none, some d] from rfl) ?_)
  refine wpAny_bind (wpAny_pure ?_)
  refine wpAny_bind (wpAny_pyIter_list hl ?_)
  refine wpAny_bind (wpAny_newList ?_)
  rw [hname]
  refine wpAny_pure ⟨plainId_quiet F.plain_max_loop _, ?_⟩
  have k1 : ∀ b o, s.heap.get? b = some o → ((s.heap.push { cls := .type "list_iterator", data := .fields #[.ref l, .int 0 0] }).push { cls := .type "list", data := .seq #[] }).get? b = some o := fun b o e => Heap.get?_push_of_some _ (Heap.get?_push_of_some _ e)
  have gI : ((s.heap.push { cls := .type "list_iterator", data := .fields #[.ref l, .int 0 0] }).push { cls := .type "list", data := .seq #[] }).get? s.heap.objs.size = some { cls := .type "list_iterator", data := .fields #[.ref l, .int 0 0] } := by heap_get
  have gS : ((s.heap.push { cls := .type "list_iterator", data := .fields #[.ref l, .int 0 0] }).push { cls := .type "list", data := .seq #[] }).get? (s.heap.push { cls := .type "list_iterator", data := .fields #[.ref l, .int 0 0] }).objs.size = some { cls := .type "list", data := .seq #[] } := by heap_get
  have hS : (s.heap.push { cls := .type "list_iterator", data := .fields #[.ref l, .int 0 0] }).objs.size = s.heap.objs.size + 1 := Heap.size_push ..
  have W := Walks.list (prog := prog) (w := w) (A := A.in1) hh s.heap.objs.size l (Nat.ne_of_lt hll) its.toArray
  have hSf : (s.heap.push { cls := .type "list_iterator", data := .fields #[.ref l, .int 0 0] }).objs.size ∉ [s.heap.objs.size, l] := by
    rw [hS]
    intro hm
    rcases List.mem_cons.mp hm with e | e
    · exact Nat.succ_ne_self _ e
    · have e2 : s.heap.objs.size + 1 = l := List.mem_singleton.mp e
      exact absurd hll (by rw [← e2]; exact Nat.not_lt.mpr (Nat.le_succ _))
  have fresh : ∀ b o, s.heap.get? b = some o → b ∉ [s.heap.objs.size] ∧ b ≠ (s.heap.push { cls := .type "list_iterator", data := .fields #[.ref l, .int 0 0] }).objs.size := fun b o e => by
    have hb : b < s.heap.objs.size := Heap.lt_size e
    rw [hS]
    exact ⟨fun hm => Nat.ne_of_lt hb (List.mem_singleton.mp hm), Nat.ne_of_lt (Nat.lt_succ_of_lt hb)⟩
  have st0 : Heap.IsListIter ((s.heap.push { cls := .type "list_iterator", data := .fields #[.ref l, .int 0 0] }).push { cls := .type "list", data := .seq #[] }) s.heap.objs.size l 0 ∧ Heap.IsList ((s.heap.push { cls := .type "list_iterator", data := .fields #[.ref l, .int 0 0] }).push { cls := .type "list", data := .seq #[] }) l its.toArray := ⟨⟨_, gI, rfl, rfl⟩, ⟨ol, k1 _ _ hol, hoc, hod⟩⟩
  cases ns with
  | nil =>
    have e0 : its = [] := List.length_eq_zero_iff.mp hlen
    subst e0
    refine mx_none W hSf st0 gS fun h' tk keep => ?_
    exact h0 rfl h' tk fun b o e => keep b o (fresh b o e).1 (fresh b o e).2 (k1 b o e)
  | cons z zs =>
    have hsz : its.toArray.size = zs.length + 1 := by rw [List.size_toArray, hlen]; rfl
    refine mx_first W (CmpOf.ints_gt (fun i => (z :: zs).getD i 0) fun i v hv => ints_at hi (by simpa using hv)) hSf (by omega) st0 gS fun v h' tk hv keep => ?_
    obtain ⟨t, rfl⟩ := ints_at hi (i := argBest (fun i j => decide ((z :: zs).getD i 0 > (z :: zs).getD j 0)) (its.toArray.size - 1)) (v := v) (by simpa using hv)
    obtain ⟨a1, a2⟩ := argBest_gt (fun i => (z :: zs).getD i 0) (its.toArray.size - 1)
    refine h h' tk _ t (fun b o e => keep b o (fresh b o e).1 (fresh b o e).2 (k1 b o e)) (getD_in (by rw [List.length_cons]; omega)) fun x hx => ?_
    obtain ⟨i, hi', rfl⟩ := List.mem_iff_getElem.mp hx
    have := a2 i (by rw [List.length_cons] at hi'; omega)
    rw [List.getD_eq_getElem?_getD (i := i), List.getElem?_eq_getElem hi'] at this
    exact this
end SR

set_option Elab.async false
set_option linter.all false
set_option maxRecDepth 100000
set_option maxHeartbeats 4000000
namespace SR
open PySem PySem.W PySem.Calls PyProof.Rows
section
variable {prog : Program} {w : World} {A : Around} {R : Result → Shared → Prop} {I S : Addr} {fp wr : List Addr} {n : Nat} {P : Nat → Value → Prop} {St : Nat → Heap → Prop} {bt : Nat → Nat → Bool} {kw : List (Str × Value)}
theorem mn_loop (W : Walks prog w A.in1 I fp wr n P St) (hcmp : CmpOf prog w A.in1 CmpOp.Lt P bt) (hSf : S ∉ fp) : ∀ (k j : Nat) (s : Shared) (vb : Value) (c : Nat), n - (j + 1) = k → j + 1 ≤ n → St (j + 1) s.heap → P (argBest bt j) vb →
    s.heap.get? S = some { cls := .type "list", data := .seq #[vb, vb] c } →
    (∀ v h' tk, P (argBest bt (n - 1)) v → (∀ b o, b ∉ wr → b ≠ S → s.heap.get? b = some o → h'.get? b = some o) → R (.ok (.ret v)) { s with heap := h', toks := tk }) →
    codeAny (model prog w) A (.builtin "min.loop" { pos := [.ref I, .none, .ref S], kw := kw }) R s := by
  have hSw : S ∉ wr := fun h => hSf (W.sub S h)
  have hname : toString "min" ++ toString ".loop" = "min.loop" := by decide
  intro k
  induction k with
  | zero =>
    intro j s vb c hk hj hst hPb hS hR
    have hin : j + 1 = n := by omega
    refine codeAny_builtin F.entry_min_loop ?_
    rw [Around.under_plainId F.plain_min_loop]
    refine wpAny_bind (wpAny_seqItems hS rfl ?_)
    refine wpAny_bind (wpAny_tryCatch (W.done s _ _ (hin ▸ hst) fun h' tk keep => ?_))
    refine wpAny_bind (wpAny_updateSeq (keep S _ hSw hS) rfl ?_)
    refine wpAny_bind (wpAny_letGo ?_)
    refine wpAny_pure (hR vb _ tk ?_ fun b o hb hbS e => ?_)
    · rw [← hin]; exact hPb
    · exact upd_get hbS (keep b o hb e)
  | succ k ih =>
    intro j s vb c hk hj hst hPb hS hR
    have hlt : j + 1 < n := by omega
    refine codeAny_builtin F.entry_min_loop ?_
    rw [Around.under_plainId F.plain_min_loop]
    refine wpAny_bind (wpAny_seqItems hS rfl ?_)
    refine wpAny_bind (wpAny_tryCatch (W.item (j + 1) s _ _ hlt hst fun v h' tk hv hst' keep => ?_))
    refine wpAny_bind (wpAny_pure ?_)
    refine wpAny_bind (wpAny_tryCatch (wpAny_holding (wpAny_bind (hcmp (j + 1) (argBest bt j) v vb _ _ _ hv hPb ?_))))
    refine wpAny_bind (wpAny_holding (wpAny_truthy_bool ?_))
    refine wpAny_bind (wpAny_letGo ?_)
    refine wpAny_pure ?_
    have hS' := keep S _ hSw hS
    have eb : argBest bt (j + 1) = if bt (j + 1) (argBest bt j) = true then j + 1 else argBest bt j := rfl
    by_cases hb : bt (j + 1) (argBest bt j) = true
    · rw [if_pos hb] at eb ⊢
      refine wpAny_bind (wpAny_updateSeq hS' rfl ?_)
      refine wpAny_bind (wpAny_letGo ?_)
      rw [hname]
      refine wpAny_pure ⟨plainId_quiet F.plain_min_loop _, ?_⟩
      refine ih (j + 1) _ v c (by omega) (by omega) ?_ (by rw [eb]; exact hv) ?_ ?_
      · exact W.frame _ _ _ hst' fun b hb2 o e => upd_get (fun z => hSf (by rw [← z]; exact hb2)) e
      · exact Heap.get?_update_self _ hS' rfl
      · intro v2 h2 tk2 hv2 k2
        exact hR v2 h2 tk2 hv2 fun b o hbw hbS e => k2 b o hbw hbS (upd_get hbS (keep b o hbw e))
    · rw [if_neg hb] at eb ⊢
      refine wpAny_bind (wpAny_letGo ?_)
      rw [hname]
      refine wpAny_pure ⟨plainId_quiet F.plain_min_loop _, ?_⟩
      refine ih (j + 1) _ vb c (by omega) (by omega) hst' (by rw [eb]; exact hPb) hS' ?_
      intro v2 h2 tk2 hv2 k2
      exact hR v2 h2 tk2 hv2 fun b o hbw hbS e => k2 b o hbw hbS (keep b o hbw e)
/-- the first item -/
theorem mn_first (W : Walks prog w A.in1 I fp wr n P St) (hcmp : CmpOf prog w A.in1 CmpOp.Lt P bt) (hSf : S ∉ fp) (hn : 0 < n) {s : Shared} {c : Nat} (hst : St 0 s.heap)
    (hS : s.heap.get? S = some { cls := .type "list", data := .seq #[] c })
    (hR : ∀ v h' tk, P (argBest bt (n - 1)) v → (∀ b o, b ∉ wr → b ≠ S → s.heap.get? b = some o → h'.get? b = some o) → R (.ok (.ret v)) { s with heap := h', toks := tk }) :
    codeAny (model prog w) A (.builtin "min.loop" { pos := [.ref I, .none, .ref S], kw := kw }) R s := by
  have hSw : S ∉ wr := fun h => hSf (W.sub S h)
  have hname : toString "min" ++ toString ".loop" = "min.loop" := by decide
  refine codeAny_builtin F.entry_min_loop ?_
  rw [Around.under_plainId F.plain_min_loop]
  refine wpAny_bind (wpAny_seqItems hS rfl ?_)
  refine wpAny_bind (wpAny_tryCatch (W.item 0 s _ _ hn hst fun v h' tk hv hst' keep => ?_))
  refine wpAny_bind (wpAny_pure ?_)
  have hS' := keep S _ hSw hS
  refine wpAny_bind (wpAny_updateSeq hS' rfl ?_)
  rw [hname]
  refine wpAny_pure ⟨plainId_quiet F.plain_min_loop _, ?_⟩
  have hS2 := Heap.get?_update_self (Obj.mapSeq fun _ => #[v, v]) hS' rfl
  refine mn_loop W hcmp hSf _ 0 _ v _ rfl (by omega) ?_ hv hS2 ?_
  · exact W.frame _ _ _ hst' fun b hb2 o e => upd_get (fun z => hSf (by rw [← z]; exact hb2)) e
  · intro v2 h2 tk2 hv2 k2
    exact hR v2 h2 tk2 hv2 fun b o hbw hbS e => k2 b o hbw hbS (upd_get hbS (keep b o hbw e))
/-- no item: the default -/
theorem mn_none (W : Walks prog w A.in1 I fp wr 0 P St) (hSf : S ∉ fp) {s : Shared} {c : Nat} {d : Value} {x : Str} (hst : St 0 s.heap)
    (hS : s.heap.get? S = some { cls := .type "list", data := .seq #[] c })
    (hR : ∀ h' tk, (∀ b o, b ∉ wr → b ≠ S → s.heap.get? b = some o → h'.get? b = some o) → R (.ok (.ret d)) { s with heap := h', toks := tk }) :
    codeAny (model prog w) A (.builtin "min.loop" { pos := [.ref I, .none, .ref S], kw := [(x, d)] }) R s := by
  refine codeAny_builtin F.entry_min_loop ?_
  rw [Around.under_plainId F.plain_min_loop]
  refine wpAny_bind (wpAny_seqItems hS rfl ?_)
  refine wpAny_bind (wpAny_tryCatch (W.done s _ _ hst fun h' tk keep => ?_))
  refine wpAny_bind (wpAny_rule ?_)
  exact wpAny_pure (hR h' tk fun b o hb _ e => keep b o hb e)
end
/-- min(l, default=d) -/
theorem min_dflt {prog : Program} {w : World} {A : Around} {E : Value → Shared → Prop} {s : Shared} {l : Addr} {its : List Value} {ns : List Int} {d : Value} {Q : Value → Shared → Prop} (hh : A.handled = none) (hl : s.heap.IsList l its.toArray) (hi : IntsAre its ns)
    (h0 : ns = [] → ∀ (h' : Heap) (tk : Nat), (∀ b o, s.heap.get? b = some o → h'.get? b = some o) → Q d { s with heap := h', toks := tk })
    (h : ∀ (h' : Heap) (tk : Nat) (m : Int) (t' : Tok), (∀ b o, s.heap.get? b = some o → h'.get? b = some o) → m ∈ ns → (∀ a ∈ ns, m ≤ a) → Q (.int m t') { s with heap := h', toks := tk }) :
    wpAny (model prog w) A (call (.builtin "min") [.ref l] [("default", d)]) Q E s := by
  have hname : toString "min" ++ toString ".loop" = "min.loop" := by decide
  have hlen : its.length = ns.length := hi.length
  obtain ⟨ol, hol, hoc, hod⟩ := id hl
  have hll := Heap.lt_size hol
  refine kmk_tree F.kind_min F.plain_min F.entry_min rfl ?_
  refine wpAny_bind (wpAny_of_eq (show _ = pure [none, some d] from rfl) ?_)
  refine wpAny_bind (wpAny_pure ?_)
  refine wpAny_bind (wpAny_pyIter_list hl ?_)
  refine wpAny_bind (wpAny_newList ?_)
  rw [hname]
  refine wpAny_pure ⟨plainId_quiet F.plain_min_loop _, ?_⟩
  have k1 : ∀ b o, s.heap.get? b = some o → ((s.heap.push { cls := .type "list_iterator", data := .fields #[.ref l, .int 0 0] }).push { cls := .type "list", data := .seq #[] }).get? b = some o := fun b o e => Heap.get?_push_of_some _ (Heap.get?_push_of_some _ e)
  have gI : ((s.heap.push { cls := .type "list_iterator", data := .fields #[.ref l, .int 0 0] }).push { cls := .type "list", data := .seq #[] }).get? s.heap.objs.size = some { cls := .type "list_iterator", data := .fields #[.ref l, .int 0 0] } := by heap_get
  have gS : ((s.heap.push { cls := .type "list_iterator", data := .fields #[.ref l, .int 0 0] }).push { cls := .type "list", data := .seq #[] }).get? (s.heap.push { cls := .type "list_iterator", data := .fields #[.ref l, .int 0 0] }).objs.size = some { cls := .type "list", data := .seq #[] } := by heap_get
  have hS : (s.heap.push { cls := .type "list_iterator", data := .fields #[.ref l, .int 0 0] }).objs.size = s.heap.objs.size + 1 := Heap.size_push ..
  have W := Walks.list (prog := prog) (w := w) (A := A.in1) hh s.heap.objs.size l (Nat.ne_of_lt hll) its.toArray
  have hSf : (s.heap.push { cls := .type "list_iterator", data := .fields #[.ref l, .int 0 0] }).objs.size ∉ [s.heap.objs.size, l] := by
    rw [hS]
    intro hm
    rcases List.mem_cons.mp hm with e | e
    · exact Nat.succ_ne_self _ e
    · have e2 : s.heap.objs.size + 1 = l := List.mem_singleton.mp e
      exact absurd hll (by rw [← e2]; exact Nat.not_lt.mpr (Nat.le_succ _))
  have fresh : ∀ b o, s.heap.get? b = some o → b ∉ [s.heap.objs.size] ∧ b ≠ (s.heap.push { cls := .type "list_iterator", data := .fields #[.ref l, .int 0 0] }).objs.size := fun b o e => by
    have hb : b < s.heap.objs.size := Heap.lt_size e
    rw [hS]
    exact ⟨fun hm => Nat.ne_of_lt hb (List.mem_singleton.mp hm), Nat.ne_of_lt (Nat.lt_succ_of_lt hb)⟩
  have st0 : Heap.IsListIter ((s.heap.push { cls := .type "list_iterator", data := .fields #[.ref l, .int 0 0] }).push { cls := .type "list", data := .seq #[] }) s.heap.objs.size l 0 ∧ Heap.IsList ((s.heap.push { cls := .type "list_iterator", data := .fields #[.ref l, .int 0 0] }).push { cls := .type "list", data := .seq #[] }) l its.toArray := ⟨⟨_, gI, rfl, rfl⟩, ⟨ol, k1 _ _ hol, hoc, hod⟩⟩
  cases ns with
  | nil =>
    have e0 : its = [] := List.length_eq_zero_iff.mp hlen
    subst e0
    refine mn_none W hSf st0 gS fun h' tk keep => ?_
    exact h0 rfl h' tk fun b o e => keep b o (fresh b o e).1 (fresh b o e).2 (k1 b o e)
  | cons z zs =>
    have hsz : its.toArray.size = zs.length + 1 := by rw [List.size_toArray, hlen]; rfl
    refine mn_first W (CmpOf.ints_lt (fun i => (z :: zs).getD i 0) fun i v hv => ints_at hi (by simpa using hv)) hSf (by omega) st0 gS fun v h' tk hv keep => ?_
    obtain ⟨t, rfl⟩ := ints_at hi (i := argBest (fun i j => decide ((z :: zs).getD i 0 < (z :: zs).getD j 0)) (its.toArray.size - 1)) (v := v) (by simpa using hv)
    obtain ⟨a1, a2⟩ := argBest_lt (fun i => (z :: zs).getD i 0) (its.toArray.size - 1)
    refine h h' tk _ t (fun b o e => keep b o (fresh b o e).1 (fresh b o e).2 (k1 b o e)) (getD_in (by rw [List.length_cons]; omega)) fun x hx => ?_
    obtain ⟨i, hi', rfl⟩ := List.mem_iff_getElem.mp hx
    have := a2 i (by rw [List.length_cons] at hi'; omega)
    rw [List.getD_eq_getElem?_getD (i := i), List.getElem?_eq_getElem hi'] at this
    exact this
end SR
namespace SR
open PySem PySem.Spec PyProof.Rows L2
/-- the greatest, the least number of a list, d if there is none -/
def OptMax (l : List Int) (d x : V) : Prop := (l = [] ∧ x = d) ∨ ∃ m, x = .int m ∧ m ∈ l ∧ ∀ a ∈ l, a ≤ m
def OptMin (l : List Int) (d x : V) : Prop := (l = [] ∧ x = d) ∨ ∃ m, x = .int m ∧ m ∈ l ∧ ∀ a ∈ l, m ≤ a
def rMaxD (K : PySem.W.Frag) : List V → List V → Hp → VK → Prop := fun vs zs H Q => ∃ (a : Addr) (ns : List Int) (d : V), vs = [.ref a] ∧ zs = [d] ∧ SqL K H a (ns.map V.int) ∧ ∀ x, OptMax ns d x → Q x H
def rMinD (K : PySem.W.Frag) : List V → List V → Hp → VK → Prop := fun vs zs H Q => ∃ (a : Addr) (ns : List Int) (d : V), vs = [.ref a] ∧ zs = [d] ∧ SqL K H a (ns.map V.int) ∧ ∀ x, OptMin ns d x → Q x H
theorem cr_maxD {X : Cx} (hc : X.calm = true) : CallRK X (.builtin "max") ["default"] (rMaxD X.K) := by
  intro pins s σ H xs zs us ws Q I r1 r2 h
  obtain ⟨a, ns, d, rfl, rfl, hs, h1⟩ := h
  obtain ⟨its, rv, hl, _⟩ := I.list hs
  rw [Vals.ref1 r1]
  cases r2 with
  | cons rd rn =>
    rename_i d' ws'
    cases rn
    show wpAny _ _ (call (.builtin "max") [.ref a] [("default", d')]) _ _ _
    refine max_dflt (I.ok.hd hc) hl.isList (Vals.ints rv) (fun e h' tk k => ?_) (fun h' tk m t' k hm hle => ?_)
    · exact ⟨d, H, I.kept k, rd, h1 _ (.inl ⟨e, rfl⟩)⟩
    · exact ⟨.int m, H, I.kept k, ⟨t', rfl⟩, h1 _ (.inr ⟨m, rfl, hm, hle⟩)⟩
theorem cr_minD {X : Cx} (hc : X.calm = true) : CallRK X (.builtin "min") ["default"] (rMinD X.K) := by
  intro pins s σ H xs zs us ws Q I r1 r2 h
  obtain ⟨a, ns, d, rfl, rfl, hs, h1⟩ := h
  obtain ⟨its, rv, hl, _⟩ := I.list hs
  rw [Vals.ref1 r1]
  cases r2 with
  | cons rd rn =>
    rename_i d' ws'
    cases rn
    show wpAny _ _ (call (.builtin "min") [.ref a] [("default", d')]) _ _ _
    refine min_dflt (I.ok.hd hc) hl.isList (Vals.ints rv) (fun e h' tk k => ?_) (fun h' tk m t' k hm hle => ?_)
    · exact ⟨d, H, I.kept k, rd, h1 _ (.inl ⟨e, rfl⟩)⟩
    · exact ⟨.int m, H, I.kept k, ⟨t', rfl⟩, h1 _ (.inr ⟨m, rfl, hm, hle⟩)⟩
end SR

set_option Elab.async false
set_option linter.all false
set_option maxRecDepth 100000
set_option maxHeartbeats 4000000
/-! sorted(t), t a tuple of ints. -/
namespace SR
open PySem PySem.W PySem.Calls PyProof.Rows
theorem collect_tup {prog : Program} {w : World} {A : Around} {E : Value → Shared → Prop} {s : Shared} {l : Addr} {vs : List Value} {Q : List Value → Shared → Prop} (hl : IsTup s.heap l vs.toArray) (hz : vs.length ≤ sizeLine)
    (h : Q vs { s with heap := (s.heap.push { cls := .type "list", data := .seq #[] }).update s.heap.objs.size (Obj.mapSeq fun x => x ++ vs.toArray) }) : wpAny (model prog w) A (collect (.ref l)) Q E s := by
  obtain ⟨ol, hol, hoc, nn, hod⟩ := hl
  have gS : (s.heap.push { cls := .type "list", data := .seq #[] }).get? s.heap.objs.size = some { cls := .type "list", data := .seq #[] } := Heap.get?_push_size _ rfl
  have gS2 := Heap.get?_update_self (Obj.mapSeq fun x => x ++ vs.toArray) gS rfl
  have ev : (#[] ++ vs.toArray).toList = vs := by simp
  refine wpAny_bind (wpAny_runValue (codeAny_builtin F.entry_proto_collect ?_))
  rw [Around.under_plainId F.plain_proto_collect]
  refine wpAny_bind (wpAny_newObj_type (wpAny_pure ⟨plainId_quiet F.plain_list_iadd _, codeAny_builtin F.entry_list_iadd ?_⟩))
  rw [Around.under_plainId F.plain_list_iadd]
  refine wpAny_mono (wpAny_extend_seq (R := fun r s' => r = .ok (.ret (.ref s.heap.objs.size)) ∧ s' = { s with heap := (s.heap.push { cls := .type "list", data := .seq #[] }).update s.heap.objs.size (Obj.mapSeq fun x => x ++ vs.toArray) }) s.heap.objs.size l (.ref s.heap.objs.size) 0 (.inr rfl) gS (Heap.get?_push_of_some _ hol) hoc hod ⟨rfl, rfl⟩ (by rw [List.size_toArray]; exact hz)) (fun fin s' hf => ?_) (fun e s' he => by cases he.1)
  cases fin with
  | done f =>
    obtain ⟨e1, rfl⟩ := hf
    cases e1
    refine wpAny_bind (wpAny_load gS2 ?_)
    refine wpAny_pure ?_
    rw [ev]
    exact h
  | again c' =>
    refine ⟨hf.1, codeAny_mono hf.2 fun r s'' hr => ?_⟩
    obtain ⟨rfl, rfl⟩ := hr
    refine wpAny_bind (wpAny_load gS2 ?_)
    refine wpAny_pure ?_
    rw [ev]
    exact h
theorem sorted_tup {prog : Program} {w : World} {A : Around} {E : Value → Shared → Prop} {s : Shared} {l : Addr} {vs : List Value} {ns : List Int} {Q : Value → Shared → Prop} (hl : IsTup s.heap l vs.toArray) (hz : vs.length ≤ sizeLine) (hi : IntsAre vs ns)
    (h : ∀ (h' : Heap) (p : Addr) (out : List Value) (ns' : List Int), (∀ b o, s.heap.get? b = some o → h'.get? b = some o) → s.heap.objs.size ≤ p → (∃ e, h'.get? p = some (seqObj "list" out.toArray e)) → IntsAre out ns' → ns'.Perm ns → ns'.Pairwise (· ≤ ·) → Q (.ref p) { s with heap := h' }) :
    wpAny (model prog w) A (call (.builtin "sorted") [.ref l]) Q E s := by
  refine call_function_entry kind_sorted plain_sorted entry_sorted (args_sorted1 (.ref l)) ?_
  refine wpAny_bind (wpAny_pure ?_)
  refine wpAny_bind (collect_tup hl hz ?_)
  obtain ⟨h1, e1⟩ : ∃ h1, h1 = (s.heap.push { cls := .type "list", data := .seq #[] }).update s.heap.objs.size (Obj.mapSeq fun x => x ++ vs.toArray) := ⟨_, rfl⟩
  have hsz : h1.objs.size = s.heap.objs.size + 1 := by rw [e1, Heap.size_update, Heap.size_push]
  have keep : ∀ b o, s.heap.get? b = some o → h1.get? b = some o := fun b o e => by
    rw [e1]
    exact upd_get (Nat.ne_of_lt (Heap.lt_size e)) (Heap.get?_push_of_some _ e)
  rw [← e1]
  refine wpAny_bind (wpAny_newList ?_ (by simpa using hz))
  have hoL : (h1.push { cls := .type "list", data := .seq (vs.toArray.toList).toArray }).get? h1.objs.size = some (seqObj "list" vs.toArray 0) := Heap.get?_push_size _ rfl
  refine wpAny_bind (wpAny_holding ?_)
  refine wpAny_call_entry slot_list_sort ⟨_, hoL, rfl⟩ entry_list_sort ?_ (args_list_sort _)
  refine SrtO.list_sort_ord SrtO.swo_int hoL hz (fun h2 => SrtO.ints_sortable hi h2) fun out hs hb => ⟨.none, rfl, wpAny_pure ⟨_, rfl, ?_⟩⟩
  obtain ⟨k1, k2, k3⟩ := SrtO.ints_out hi hs hb
  have hle : s.heap.objs.size ≤ h1.objs.size := by rw [hsz]; exact Nat.le_succ _
  refine h _ _ out _ (fun b o e => ?_) hle (sortedHeap_at hoL) k1 k2 k3
  have hb1 := keep b o e
  have hlt := Heap.lt_size hb1
  rw [sortedHeap_old (Nat.ne_of_lt hlt) (by rw [Heap.size_push]; exact Nat.lt_succ_of_lt hlt)]
  exact Heap.get?_push_of_some _ hb1
end SR
namespace SR
open PySem PySem.Spec PyProof.Rows L2
def rSortedT (K : PySem.W.Frag) : List V → Hp → VK → Prop := fun vs H Q => ∃ (a : Addr) (ns : List Int), vs = [.ref a] ∧ SqT K H a (ns.map V.int) ∧ ∀ (ns' : List Int) (p : Addr), ns'.Perm ns → ns'.Pairwise (· ≤ ·) → H p = none → Q (.ref p) (upd H p (.lst (ns'.map V.int)))
theorem cr_sortedT {X : Cx} : CallR X (.builtin "sorted") (rSortedT X.K) := by
  intro pins s σ H xs us Q I r h
  obtain ⟨a, ns, rfl, hs, q⟩ := h
  obtain ⟨its, rv, ht, hz⟩ := I.tuple hs
  rw [Vals.ref1 r]
  refine sorted_tup ht (by rw [← Vals.length rv]; exact hz) (Vals.ints rv) fun h' p out ns' keep hp ⟨e, he⟩ hi perm asc => ?_
  have hlen : (ns'.map V.int).length ≤ sizeLine := by
    rw [List.length_map] at hz ⊢
    rw [perm.length_eq]
    exact hz
  exact ⟨.ref p, upd H p (.lst (ns'.map V.int)), Inv.laid I keep hp ⟨hlen, out, e, vals_of_ints hi, he⟩, rfl, q ns' p perm asc (I.hok.fresh hp)⟩
end SR

set_option Elab.async false
set_option linter.all false
set_option maxRecDepth 100000
set_option maxHeartbeats 4000000
namespace SR
open PySem PySem.Spec PyProof.Rows L2
/-! The law's source of draws: a list of a state, the cells and a place. -/
/-- at p the source, its cells at c -/
def DrawAt (H : Hp) (p c : Addr) : Prop := ∃ (s i : Int) (cs : List Int), H p = some (.lst [.int s, .ref c, .int i]) ∧ H c = some (.lst (cs.map V.int)) ∧ 0 ≤ s ∧ s < 2147483647 ∧ 0 ≤ i ∧ cs.length ≤ 63
theorem DrawAt.ne {H : Hp} {p c : Addr} (d : DrawAt H p c) : p ≠ c := by
  obtain ⟨s, i, cs, h1, h2, _⟩ := d
  refine ne_of h1 h2 fun z => ?_
  have e : ([V.int s, V.ref c, V.int i] : List V) = cs.map V.int := by injection z
  match cs, e with
  | x :: y :: r, e => simp at e
theorem DrawAt.mono {H H' : Hp} (s : Same H H') {p c : Addr} (d : DrawAt H p c) : DrawAt H' p c := let ⟨s', i, cs, h1, h2, r⟩ := d; ⟨s', i, cs, s _ _ h1, s _ _ h2, r⟩
/-- all but the source stands -/
def SameD (p c : Addr) (H H' : Hp) : Prop := ∀ a o, H a = some o → a ≠ p → a ≠ c → H' a = some o
theorem SameD.refl {p c : Addr} (H : Hp) : SameD p c H H := fun _ _ h _ _ => h
theorem SameD.trans {p c : Addr} {H H1 H2 : Hp} (a : SameD p c H H1) (b : SameD p c H1 H2) : SameD p c H H2 := fun x o h h1 h2 => b x o (a x o h h1 h2) h1 h2
theorem sameD_of {p c : Addr} {H H' : Hp} (s : Same H H') : SameD p c H H' := fun a o h _ _ => s a o h
/-- what is no list stands -/
theorem SameD.keep {p c : Addr} {H H' : Hp} (s : SameD p c H H') (d : DrawAt H p c) {a : Addr} {o : HO} (h : H a = some o) (hn : ∀ xs, o ≠ .lst xs) : H' a = some o := by
  obtain ⟨s', i, cs, h1, h2, _⟩ := d
  exact s a o h (ne_of h h1 (hn _)) (ne_of h h2 (hn _))
theorem SameD.ent {p c : Addr} {H H' : Hp} (s : SameD p c H H') (d : DrawAt H p c) {v : V} {e : Ent} (h : EntV H v e) : EntV H' v e := let ⟨t, a, b⟩ := h; ⟨t, a, s.keep d b (fun xs => by intro z; cases z)⟩
theorem SameD.ents {p c : Addr} {H H' : Hp} (s : SameD p c H H') (d : DrawAt H p c) {vs : List V} {es : List Ent} (h : EntsV H vs es) : EntsV H' vs es := Paired.mapP h fun _ _ x => s.ent d x
theorem SameD.tup {p c : Addr} {H H' : Hp} (s : SameD p c H H') (d : DrawAt H p c) {v : V} {es : List Ent} (h : TupV H v es) : TupV H' v es := let ⟨a, vs, e, b, k⟩ := h; ⟨a, vs, e, s.keep d b (fun xs => by intro z; cases z), s.ents d k⟩
theorem SameD.sum {p c : Addr} {H H' : Hp} (s : SameD p c H H') (d : DrawAt H p c) {C : Addr} {v : V} {n : Int} {es : List Ent} (h : SumV C H v n es) : SumV C H' v n es := let ⟨q, dx, u, e, b, k⟩ := h; ⟨q, dx, u, e, s.keep d b (fun xs => by intro z; cases z), s.tup d k⟩
/-- a new thing that the old heap did not know may have changed -/
theorem SameD.mut {p c : Addr} {H H1 : Hp} {q : Addr} {o : HO} (s : SameD p c H H1) (h : H q = none) : SameD p c H (upd H1 q o) := fun b u e h1 h2 => by rw [upd_ne (ne_of_none e h)]; exact s b u e h1 h2
theorem SameD.free {p c : Addr} {H H' : Hp} (s : SameD p c H H') (d : DrawAt H p c) (d' : DrawAt H' p c) {q : Addr} (h : H' q = none) : H q = none := by
  cases e : H q with
  | none => rfl
  | some o =>
    obtain ⟨s', i, cs, h1, h2, _⟩ := d'
    have a1 : q ≠ p := fun z => by subst z; rw [h1] at h; cases h
    have a2 : q ≠ c := fun z => by subst z; rw [h2] at h; cases h
    rw [s q o e a1 a2] at h
    cases h
/-- an item of a written list of three, four, at a drawn place -/
theorem at3 {P : V → Prop} {a b c : V} {r : Int} (h0 : 0 ≤ r) (h1 : r < 3) (pa : P a) (pb : P b) (pc : P c) : ∃ v, atI [a, b, c] r = some v ∧ P v := by
  have h : r = 0 ∨ r = 1 ∨ r = 2 := by omega
  rcases h with rfl | rfl | rfl
  · exact ⟨a, rfl, pa⟩
  · exact ⟨b, rfl, pb⟩
  · exact ⟨c, rfl, pc⟩
theorem at4 {P : V → Prop} {a b c d : V} {r : Int} (h0 : 0 ≤ r) (h1 : r < 4) (pa : P a) (pb : P b) (pc : P c) (pd : P d) : ∃ v, atI [a, b, c, d] r = some v ∧ P v := by
  have h : r = 0 ∨ r = 1 ∨ r = 2 ∨ r = 3 := by omega
  rcases h with rfl | rfl | rfl | rfl
  · exact ⟨a, rfl, pa⟩
  · exact ⟨b, rfl, pb⟩
  · exact ⟨c, rfl, pc⟩
  · exact ⟨d, rfl, pd⟩
/-- a new address is not the source's -/
theorem DrawAt.fresh {H : Hp} {p c z : Addr} (d : DrawAt H p c) (nz : H z = none) : z ≠ p ∧ z ≠ c := by
  obtain ⟨_, _, _, h1, h2, _⟩ := d
  exact ⟨fun e => (nomatch (e ▸ nz).symm.trans h1), fun e => (nomatch (e ▸ nz).symm.trans h2)⟩
/-- what was new when the source stood stays through a draw -/
theorem SameD.at {p c z : Addr} {H H' : Hp} {o : HO} (s : SameD p c H H') (h : H z = some o) (n : z ≠ p ∧ z ≠ c) : H' z = some o := s z o h n.1 n.2
theorem SameD.way {p c : Addr} {H H' : Hp} (s : SameD p c H H') (d : DrawAt H p c) {v : V} {w : List Int} (h : WayV H v w) : WayV H' v w := let ⟨t, a, b⟩ := h; ⟨t, a, s.keep d b (fun xs => by intro z; cases z)⟩
/-- an item of a written list of ints at a drawn place -/
theorem at_ints (l : List Int) {r : Int} (h0 : 0 ≤ r) (h1 : r < l.length) : ∃ b, atI (l.map V.int) r = some (.int b) ∧ b ∈ l := by
  have hl : r.toNat < l.length := by omega
  refine ⟨l[r.toNat], ?_, List.getElem_mem hl⟩
  refine at_of (j := r.toNat) (by omega) ?_
  rw [List.getElem?_map, List.getElem?_eq_getElem hl]
  rfl
theorem nb {b : Int} (h0 : 0 ≤ b) (h : b ≤ 10 ^ 30) : b.natAbs < 2 ^ 200 := Nat.lt_of_le_of_lt (m := 10 ^ 30) (by omega) (by decide)
end SR


set_option maxRecDepth 100000
/-! The text by places. -/
namespace SR
open PySem L2
def topS (i : Nat) : Stmt := PySem.Challenge.pw_shortranks_k09_whole_texts_refused.main.body.getD i (.Pass ⟨0, 0, 0, 0⟩)
abbrev s_RankError : Stmt := topS 1
abbrev s_RankError_init : Stmt := inClass (topS 1) 0
abbrev s_BadCount : Stmt := topS 2
abbrev s_BadEntries : Stmt := topS 3
abbrev s_BadEntries_init : Stmt := inClass (topS 3) 0
abbrev s_BadSummary : Stmt := topS 4
abbrev s_InvalidText : Stmt := topS 5
abbrev s_InvalidText_init : Stmt := inClass (topS 5) 0
abbrev s_is_integer : Stmt := topS 7
abbrev s_is_between : Stmt := topS 8
abbrev s_Summary : Stmt := topS 13
abbrev s_Summary_init : Stmt := inClass (topS 13) 0
abbrev s_Summary_many : Stmt := inClass (topS 13) 1
abbrev s_Summary_entries : Stmt := inClass (topS 13) 2
abbrev s_Summary_len : Stmt := inClass (topS 13) 3
abbrev s_Summary_eq : Stmt := inClass (topS 13) 4
abbrev s_check_summary : Stmt := topS 14
abbrev s_is_value : Stmt := topS 15
abbrev s__check_entries : Stmt := topS 16
abbrev s__is_entry : Stmt := topS 17
abbrev s_write_summary : Stmt := topS 20
abbrev s_read_summary : Stmt := topS 21
abbrev s__words : Stmt := topS 22
abbrev s__read_count : Stmt := topS 23
abbrev s__read_entry : Stmt := topS 24
abbrev s__number_at : Stmt := topS 25
abbrev s__check_end : Stmt := topS 26
abbrev s__number : Stmt := topS 27
abbrev s__law_mix : Stmt := topS 29
abbrev s__law_next : Stmt := topS 30
abbrev s__law_small : Stmt := topS 31
abbrev s__law_great : Stmt := topS 32
abbrev s__law_tight : Stmt := topS 33
abbrev s__law_entry_fault : Stmt := topS 34
abbrev s__law_fault : Stmt := topS 35
abbrev s_law : Stmt := topS 36
end SR

set_option Elab.async false
set_option linter.all false
set_option maxRecDepth 100000
set_option maxHeartbeats 4000000
/-! for i, x in enumerate(xs, start=k) over a list. -/
namespace SR
open PySem PySem.Spec PyProof.Rows L2
section
variable {M : Model} {A : Around} {E : Value → Shared → Prop} {s : Shared} {env : Env}
theorem callWith_type_kwB {pos : Pos} {T : String} {first : List Value} {args : List (Bool × Sem Value)} {keywords : List (Option Str × Sem Value)} {Q : Value → Shared → Prop}
    (hplain : args.any (·.1) = false) (hkw : keywords.any (·.1.isNone) = false)
    (h : wpAny M A (evalArgs (.type T) true args keywords) (fun a s₁ => wpAny M A (call (.type T) (first ++ a.pos) a.kw) Q E s₁) E s) :
    wpAny M A (callWith pos (.type T) first args keywords) Q E s := by
  unfold callWith
  refine wpAny_bind (wpAny_holding (wpAny_mono h (fun a s₁ h₁ => wpAny_bind (wpAny_standAt ?_)) fun _ _ x => x))
  simp only [hplain, hkw, Bool.or_false]
  refine wpAny_bind (wpAny_pure ?_)
  exact wpAny_bind (wpAny_mono h₁ (fun r s₂ hr => wpAny_bind (wpAny_holding (wpAny_point (wpAny_pure hr)))) fun _ _ x => x)
theorem callWith_type_kw {pos : Pos} {T : String} {e : Expr} {rest : List Expr} {kws : List Keyword} {Q : Value → Shared → Prop}
    (h : wpAny M A (spliced (backTo pos (starEach (e :: rest) env))) (fun vs s₁ => wpAny M A (evalAll ((backToKw pos (keywordEach kws env)).map (·.2)))
      (fun kvs s₂ => wpAny M A (call (.type T) vs (((backToKw pos (keywordEach kws env)).filterMap (·.1)).zip kvs)) Q E s₂) E s₁) E s)
    (he : backTo pos (starEach (e :: rest) env) = (false, eval e env) :: backTo pos (starEach rest env) := by rfl)
    (hplain : (backTo pos (starEach (e :: rest) env)).any (·.1) = false := by rfl)
    (hall : (backToKw pos (keywordEach kws env)).all (·.1.isSome) = true := by rfl)
    (hkw : (backToKw pos (keywordEach kws env)).any (·.1.isNone) = false := by rfl) :
    wpAny M A (callWith pos (.type T) [] (backTo pos (starEach (e :: rest) env)) (backToKw pos (keywordEach kws env))) Q E s := by
  refine callWith_type_kwB hplain hkw ?_
  rw [he] at h ⊢
  exact evalArgs_kwB hall h
end
/-- a test by truth -/
def tTru (K : PySem.W.Frag) (t : TE) : L2.St → Hp → (Bool → Hp → Prop) → Prop := fun σ H Q => t σ H fun x H' => ∃ k, TruV K x H' k ∧ Q k H'
/-- sep.join(a list of texts) -/
def rJn (K : PySem.W.Frag) : V → List V → Hp → VK → Prop := fun x xs H Q => ∃ a p, ∃ ys : List Str, x = .str a ∧ xs = [.ref p] ∧ (SqL K H p (ys.map V.str) ∨ SqT K H p (ys.map V.str)) ∧ (ys.map (·.length)).sum + ys.length * a.length ≤ 16777216 ∧ Q (.str (Txt.join a ys)) H
theorem pe_jn {X : Cx} {o e : Expr} {to te : TE} {apos pos : Pos} (ho : PE X o to) (he : PE X e te) (hs : starEach [e] X.env = [(false, eval e X.env)] := by rfl) (hb : attributeBase o "join" X.env (eval o X.env) = eval o X.env := by rfl) (hl : (apos.endLine == pos.line) = true := by rfl) :
    PE X (.Call (.Attribute o "join" apos) [e] [] pos) (tM1 (rJn X.K) to te) := pe_join ho he hs hb hl
/-- a text of parts -/
def tFs (ts : List TE) : TE := fun σ H Q => tJs ts Str.empty σ H fun out H1 => Q (.str out) H1
theorem pe_fstr {X : Cx} {v1 v2 : Expr} {rest : List Expr} {ts : List TE} {pos : Pos} (h : PJ X (v1 :: v2 :: rest) ts) : PE X (.JoinedStr (v1 :: v2 :: rest) pos) (tFs ts) := pe_joined h
/-- the list at a, each item in a new pair with its place from k0 on -/
def Ites (K : PySem.W.Frag) (a : Addr) (k0 : Int) : It :=
  ⟨fun i H => ∃ (xs : List V) (x : V), SqL K H a xs ∧ xs[i]? = some x, fun i H v H' => ∃ T x, v = .ref T ∧ H T = none ∧ H' = upd H T (.tup [.int (k0 + (i : Int)), x]) ∧ ∀ xs, SqL K H a xs → xs[i]? = some x, fun i H => ∃ xs : List V, SqL K H a xs ∧ xs.length = i⟩
theorem turn_enumS {P : Program} {w : World} {K : PySem.W.Frag} {elts : List Expr} {kk : Nat} {tpos : Pos} (a e it : Addr) (k0 : Int) :
    Turn P w K (.Tuple elts kk tpos) (Ites K a k0) [e, it] e (fun i h => (∃ old, IsEnum h e it (k0 + (i : Int)) old) ∧ h.IsListIter it a i ∧ e ≠ it) where
  mem := by simp
  obj := fun i h st b hb => by
    obtain ⟨⟨old, he⟩, ⟨o, ho, hc, hd⟩, _⟩ := st
    have e' : b = e ∨ b = it := by simpa using hb
    rcases e' with z | z
    · rw [z]; exact ⟨_, he, fun v q => nomatch q⟩
    · rw [z]; exact ⟨o, ho, fun v q => by rw [hd] at q; cases q⟩
  keep := fun i h h' st k => let ⟨⟨old, he⟩, hi, hne⟩ := st; ⟨⟨old, k e (by simp) _ he⟩, hi.at fun o q => k it (by simp) o q, hne⟩
  item := by
    intro X hP hw hK hc i pins s σ H E I hf st hg
    subst hP hw hK
    obtain ⟨⟨old, he⟩, hit, hne⟩ := st
    obtain ⟨xs, x, hq, hx⟩ := hg
    obtain ⟨its, rv, p, hz⟩ := I.list hq
    obtain ⟨u, hu, ru⟩ := rv.get hx
    have hel : e < s.heap.objs.size := Heap.lt_size he
    have hil : it < s.heap.objs.size := by obtain ⟨_, q, _⟩ := hit; exact Heap.lt_size q
    have hT : s.heap.IsList a its.toArray := p.isList
    obtain ⟨o1, ho1, hc1, _⟩ := id hT
    obtain ⟨o2, ho2, hc2, _⟩ := id hit
    have hea : e ≠ a := fun z => by subst z; rw [he] at ho1; cases ho1; exact absurd hc1 (by simp)
    have hai : a ≠ it := fun z => by subst z; rw [ho1] at ho2; cases ho2; rw [hc1] at hc2; exact absurd hc2 (by simp)
    have hlt : i < its.toArray.size := by
      rw [List.size_toArray]
      exact (List.getElem?_eq_some_iff.mp hu).1
    refine wpAny_pyNext_enum_itemC (Draws.list (A := X.A.in1) (I.ok.hd hc) it a hai its.toArray) he ⟨hit, hT⟩ hlt hne (by simp [hne, hea]) fun y h' tk hP ho hs' hT2 hsz hk => ?_
    have ey : y = u := by
      have q : its.toArray[i]? = some y := hP
      rw [List.getElem?_toArray, hu] at q
      exact (Option.some.inj q).symm
    subst ey
    refine ⟨_, rfl, wpAny_letOwnedTupleGo_enum (s := { s with heap := h', toks := tk + 1 }) ho fun h'' he' sb => ?_⟩
    have hT3 : h''.get? s.heap.objs.size = some { cls := .type "tuple", data := .seq #[.int (k0 + (i : Int)) tk, y] } := (sb.2 _ (Nat.ne_of_gt hel)).trans hT2
    have new : ObjOk X.prog X.w (upd H s.heap.objs.size (.tup [.int (k0 + (i : Int)), x])) h'' s.heap.objs.size (.tup [.int (k0 + (i : Int)), x]) :=
      ⟨by show 2 ≤ sizeLine; decide, [.int (k0 + (i : Int)) tk, y], .cons ⟨_, rfl⟩ (.cons ru .nil), ⟨_, hT3, rfl, _, rfl⟩⟩
    have I1 : Inv X pins σ (upd H s.heap.objs.size (.tup [.int (k0 + (i : Int)), x])) { s with heap := h'', toks := tk + 1 } :=
      I.turnedNew (ch := [e, it]) (fun b ob hb q => (sb.2 b (fun z => hb (by simp [z]))).trans (hk b ob (fun z => hb (by simp [z])) (fun z => hb (by simp [z])) q)) hf (Nat.le_refl _) new
    refine ⟨.ref s.heap.objs.size, _, I1, rfl, ⟨_, x, rfl, I.hok.fresh (Nat.le_refl _), rfl, fun ys hy => by rw [I.list_inj hy hq]; exact hx⟩, ⟨⟨y, ?_⟩, hs'.1.at fun o q => (sb.2 it (Ne.symm hne)).trans q, hne⟩, fun b hb => ?_⟩
    · have e1 : k0 + ((i + 1 : Nat) : Int) = k0 + (i : Int) + 1 := by omega
      rw [e1]; exact he'
    · have hb' : b < s.heap.objs.size := by
        have e' : b = e ∨ b = it := by simpa using hb
        rcases e' with z | z
        · rw [z]; exact hel
        · rw [z]; exact hil
      rw [upd_ne (Nat.ne_of_lt hb')]
      exact (hf b hb).1
  done := by
    intro X hP hw hK hc i pins s σ H E I hf st hg
    subst hP hw hK
    obtain ⟨⟨old, he⟩, hit, hne⟩ := st
    obtain ⟨xs, hq, hx⟩ := hg
    obtain ⟨its, rv, p, hz⟩ := I.list hq
    have hT : s.heap.IsList a its.toArray := p.isList
    obtain ⟨o1, ho1, hc1, _⟩ := id hT
    obtain ⟨o2, ho2, hc2, _⟩ := id hit
    have hai : a ≠ it := fun z => by subst z; rw [ho1] at ho2; cases ho2; rw [hc1] at hc2; exact absurd hc2 (by simp)
    obtain ⟨f0, f1, f2, f3, f4, f5⟩ := hf it (by simp)
    have hl : its.toArray.size = i := by rw [List.size_toArray, ← rv.length]; exact hx
    exact wpAny_pyNext_enum_endD (Draws.list (A := X.A.in1) (I.ok.hd hc) it a hai its.toArray) he (by rw [hl]; exact ⟨hit, hT⟩) fun h' eb => ⟨rfl, I.turned (t' := s.toks) (fun b o hb q => eb b o hb q) f0 f1 f3 f4 f5⟩
  self := fun A i s Q E st h => let ⟨⟨_, he⟩, _⟩ := st; wpAny_pyIter_enum he h
def iEnumS (K : PySem.W.Frag) (ta tk : TA) : TI := fun σ H R => ta σ H fun vs H1 => tk σ H1 fun zs H2 => ∃ a xs k0, vs = [.ref a] ∧ zs = [.int k0] ∧ -(2 ^ 63) ≤ k0 ∧ k0 < 2 ^ 63 ∧ SqL K H2 a xs ∧ R (Ites K a k0) H2
theorem pi_enumS {X : Cx} {e : Expr} {ta tk : TA} {p pos tpos : Pos} {elts : List Expr} {kk : Nat} {kws : List Keyword} (hg : Gl X "enumerate") (hm : X.mg "enumerate" = none) (ha : PA X [e] ta) (hk : PK X kws tk)
    (he : backTo pos (starEach [e] X.env) = (false, eval e X.env) :: backTo pos (starEach [] X.env) := by rfl) (hpl : (backTo pos (starEach [e] X.env)).any (·.1) = false := by rfl)
    (hall : (backToKw pos (keywordEach kws X.env)).all (·.1.isSome) = true := by rfl) (hnone : (backToKw pos (keywordEach kws X.env)).any (·.1.isNone) = false := by rfl) (hks : (backToKw pos (keywordEach kws X.env)).filterMap (·.1) = [Str.ofString "start"] := by rfl) :
    PI X (.Tuple elts kk tpos) (.Call (.Name "enumerate" p) [e] kws pos) (iEnumS X.K ta tk) := by
  refine ⟨fun pins s σ H R I h => ?_⟩
  refine wpAny_Call_Name_kw (ld_blt I hg hm boot_enumerate ?_ (by decide) (by decide))
  refine callWith_type_kw (thn (ha.run pos pins s σ H _ I h) fun us s1 ⟨vs, H1, I1, r1, q1⟩ => thn (hk.run pos pins s1 σ H1 _ I1 q1) fun ws s2 ⟨zs, H2, I2, r2, q2⟩ => ?_) he hpl hall hnone
  rw [hks]
  obtain ⟨a, xs, k0, e1, e2, k1, k2, hq, q⟩ := q2
  subst e1 e2
  cases r1 with
  | cons r rr =>
    cases rr
    cases r
    cases r2 with
    | cons r' rr' =>
      cases rr'
      obtain ⟨tk', rfl⟩ := r'
      obtain ⟨its, rv, p', hz⟩ := I2.list hq
      have hT : s2.heap.IsList a its.toArray := p'.isList
      refine enum_begins_start (begins_list a its.toArray) hT k1 k2 fun h' he ho hsz hk => wpAny_pyIter_enum he ?_
      have hit : h'.IsListIter s2.heap.objs.size a 0 := ⟨_, ho, rfl, rfl⟩
      have I3 : Inv X pins σ H2 { s2 with heap := h' } := I2.kept (t' := s2.toks) hk
      refine ⟨s2.heap.objs.size + 1, [s2.heap.objs.size + 1, s2.heap.objs.size], _, _, H2, rfl, I3, turn_enumS a (s2.heap.objs.size + 1) s2.heap.objs.size k0, ⟨⟨.none, by rw [show k0 + ((0 : Nat) : Int) = k0 by omega]; exact he⟩, hit, Nat.succ_ne_self _⟩, fun b hb => ?_, q⟩
      have e' : b = s2.heap.objs.size + 1 ∨ b = s2.heap.objs.size := by simpa using hb
      have hle : s2.heap.objs.size ≤ b := by
        rcases e' with z | z
        · rw [z]; exact Nat.le_add_right _ _
        · rw [z]; exact Nat.le_refl _
      exact I2.fpOk hle (I2.hok.fresh hle)
theorem for_enumS {K : PySem.W.Frag} {a : Addr} {k0 : Int} {xs : List V} {g : TG} {tb : TS} {D : Ends} {σ : L2.St} {H : Hp} (Pv : Nat → L2.St → Hp → Prop) (h0 : Pv 0 σ H) (hq : ∀ i σ H, Pv i σ H → SqL K H a xs)
    (hs : ∀ (i : Nat) (x : V) (T : Addr) (σ : L2.St) (H : Hp), xs[i]? = some x → Pv i σ H → H T = none → g (.ref T) σ (upd H T (.tup [.int (k0 + (i : Int)), x])) fun σ2 H2 => tb { D with nx := Pv (i + 1), ct := Pv (i + 1), bk := D.nx } σ2 H2) (hd : ∀ σ H, Pv xs.length σ H → D.nx σ H) :
    ∃ W : Nat → Nat → L2.St → Hp → Prop, (∃ m, W 0 m σ H) ∧ ∀ i m σ H, W i m σ H →
      ((Ites K a k0).stop i H ∧ D.nx σ H) ∨ ((Ites K a k0).go i H ∧ ∃ N : L2.St → Hp → Prop, (∀ σ' H', N σ' H' → ∃ m', m' < m ∧ W (i + 1) m' σ' H') ∧ ∀ v H', (Ites K a k0).yld i H v H' → g v σ H' fun σ2 H2 => tb { D with nx := N, ct := N, bk := D.nx } σ2 H2) := by
  refine ⟨fun i m σ H => m = xs.length - i ∧ i ≤ xs.length ∧ Pv i σ H, ⟨xs.length, rfl, Nat.zero_le _, h0⟩, ?_⟩
  rintro i m σ H ⟨rfl, hi, p⟩
  have qx := hq i σ H p
  by_cases hlt : i < xs.length
  · have hx : xs[i]? = some xs[i] := List.getElem?_eq_getElem hlt
    refine .inr ⟨⟨xs, _, qx, hx⟩, Pv (i + 1), fun σ' H' p' => ⟨xs.length - (i + 1), by omega, rfl, hlt, p'⟩, fun v H' y => ?_⟩
    obtain ⟨T, x', rfl, hT, rfl, f1⟩ := y
    exact hs i x' T σ H (f1 xs qx) p hT
  · have e : i = xs.length := by omega
    subst e
    exact .inl ⟨⟨xs, qx, rfl⟩, hd σ H p⟩
end SR

set_option Elab.async false
set_option linter.all false
set_option maxRecDepth 100000
set_option maxHeartbeats 4000000
/-! Own error classes with one or two fields, stored by their __init__. -/
namespace SR
open PySem PySem.Spec PyProof.Rows L2
def spI1 (C : Addr) (f1 : Str) : Sp := fun vs H Q _ => ∃ (a : Addr) (x : V), vs = [.ref a, x] ∧ H a = some (exo a C none) ∧
  ∀ dx, H dx = none → dx ≠ a → Q .non (upd (upd H dx (exd dx [(f1, x)])) a (exo a C (some dx)))
def spI2 (C : Addr) (f1 f2 : Str) : Sp := fun vs H Q _ => ∃ (a : Addr) (x y : V), vs = [.ref a, x, y] ∧ H a = some (exo a C none) ∧
  ∀ dx, H dx = none → dx ≠ a → Q .non (upd (upd (upd H dx (exd dx [(f1, x)])) a (exo a C (some dx))) dx (exd dx [(f2, y), (f1, x)]))
/-- such a class x, at C -/
structure FxT (P : Program) (w : World) (K : PySem.W.Frag) (mg : Str → Option Value) (base : Heap) (x : Str) (C : Addr) (ps : List Str) (sp : Sp) : Prop where
  T : OexC K C
  X : XfC K C
  gC : mg x = some (.ref C)
  mkI : ∃ fI fd, PySem.W.findIn K (.ref C) "__init__" = some (some (.ref fI)) ∧ PySem.W.typeIn K (.ref fI) = some (.type "function") ∧ FnOk P w K mg base CX0 1 fI fd ps sp ∧ Binds K fd ps []
section
variable {X : Cx} {x : Str} {C : Addr} {ps : List Str} {sp : Sp} {e : Expr} {es : List Expr} {ta : TA} {p pos : Pos}
theorem pmk_fx (D : FxT X.prog X.w X.K X.mg X.base x C ps sp) (hr : Room 2 X.A) (ha : PA X (e :: es) ta) (hg : Gl X x)
    (hdb : (x == ("__debug__" : Str)) = false := by decide) (he : starEach (e :: es) X.env = (false, eval e X.env) :: starEach es X.env := by rfl) (hpl : (backTo pos (starEach es X.env)).any (·.1) = false := by rfl) :
    PMk X (.Call (.Name x p) (e :: es) [] pos) (tMkO C sp [] ta) := by
  obtain ⟨fI, fd, iC, tI, F, hb⟩ := D.mkI
  exact pmk_oex D.T iC tI F hr hb .nil pass0 hg D.gC ha hdb he hpl
end
section
variable {C : Addr}
def XQ (C a : Addr) (H1 : Hp) (Q : XK) : VK := fun v H2 => v = .non ∧ ∃ (d : Addr) (fs : List (Str × V)), H2 a = some (exo a C (some d)) ∧ H2 d = some (exd d fs) ∧ H1 d = none ∧ Q (.ref C) (some d) (upd (del H2 a) d (.xd fs))
theorem made1 {f1 : Str} {H1 : Hp} {Q : XK} {x : V} (k : ∀ d H', Same H1 H' → H1 d = none → H' d = some (.xd [(f1, x)]) → Q (.ref C) (some d) H') :
    ([x] : List V).length ≤ 1000 ∧ ∀ a, H1 a = none → spI1 C f1 (.ref a :: ([x] ++ [])) (upd H1 a (exo a C none)) (XQ C a H1 Q) (fun _ _ _ => False) := by
  refine ⟨by show 1 ≤ 1000; decide, fun a na => ⟨a, x, rfl, upd_same, fun dx nd ne => ⟨rfl, dx, [(f1, x)], upd_same, ?_, ?_, ?_⟩⟩⟩
  · rw [upd_ne ne, upd_same]
  · rw [upd_ne ne] at nd; exact nd
  · rw [upd_ne ne] at nd
    refine k dx _ (fun b o hb => ?_) nd upd_same
    have hbd : b ≠ dx := ne_of_none hb nd
    have hba : b ≠ a := ne_of_none hb na
    rw [upd_ne hbd, del_ne hba, upd_ne hba, upd_ne hbd, upd_ne hba]
    exact hb
theorem made2 {f1 f2 : Str} {H1 : Hp} {Q : XK} {x y : V} (k : ∀ d H', Same H1 H' → H1 d = none → H' d = some (.xd [(f2, y), (f1, x)]) → Q (.ref C) (some d) H') :
    ([x, y] : List V).length ≤ 1000 ∧ ∀ a, H1 a = none → spI2 C f1 f2 (.ref a :: ([x, y] ++ [])) (upd H1 a (exo a C none)) (XQ C a H1 Q) (fun _ _ _ => False) := by
  refine ⟨by show 2 ≤ 1000; decide, fun a na => ⟨a, x, y, rfl, upd_same, fun dx nd ne => ⟨rfl, dx, [(f2, y), (f1, x)], ?_, upd_same, ?_, ?_⟩⟩⟩
  · rw [upd_ne (Ne.symm ne), upd_same]
  · rw [upd_ne ne] at nd; exact nd
  · rw [upd_ne ne] at nd
    refine k dx _ (fun b o hb => ?_) nd upd_same
    have hbd : b ≠ dx := ne_of_none hb nd
    have hba : b ≠ a := ne_of_none hb na
    rw [upd_ne hbd, del_ne hba, upd_ne hbd, upd_ne hba, upd_ne hbd, upd_ne hba]
    exact hb
end
end SR

set_option Elab.async false
set_option linter.all false
set_option maxRecDepth 100000
set_option maxHeartbeats 4000000
/-! isinstance of a caught error, with or without fields. -/
namespace SR
open PySem PySem.Spec PyProof.Rows L2
/-- isinstance(e, c), e the error at a that the suite holds -/
def rIsX (K : PySem.W.Frag) (a : Addr) (cls : Value) (d : Option Addr) : List V → Hp → VK → Prop := fun xs H Q => ∃ (D : Addr) (c : V) (cv : Value) (b : Bool), cls = .ref D ∧ ExcC K D ∧ xs = [.ref a, c] ∧ (∀ u, RelV c u → u = cv) ∧
  PySem.W.kitOne K (.ref D) cv = some b ∧ (∀ dd, d = some dd → ∃ fs, H dd = some (.xd fs)) ∧ Q (.bl b) H
theorem isX_inst {X : Cx} {a D : Addr} {oe : Obj} {d : Option Addr} {pn pins : List (Addr × Obj)} {σ : L2.St} {H : Hp} {s : Shared} (I : Inv (X.suite a ((a, oe) :: pn)) pins σ H s) (hz : Zc (.ref D) d oe) (hf : ∃ vs, oe.data = .fields vs) (hd : ∀ dd, d = some dd → ∃ fs, H dd = some (.xd fs)) :
    ∃ od, PySem.W.InstAt s.heap a oe D od := by
  obtain ⟨ha, _⟩ := I.pin (a, oe) (List.mem_append_left _ List.mem_cons_self)
  obtain ⟨vs, hv⟩ := hf
  have hno : PySem.W.notCls oe = true := by unfold PySem.W.notCls; rw [hv] <;> rfl
  cases d with
  | none =>
    refine ⟨none, ha, hz.1, hno, ?_⟩
    have := hz.2
    rw [this]
    trivial
  | some dd =>
    obtain ⟨fs, hxd⟩ := hd dd rfl
    have ho : ObjOk X.prog X.w H s.heap dd (.xd fs) := I.hok dd _ hxd
    obtain ⟨mA, hns, _⟩ := ho
    obtain ⟨od, h1, _⟩ := lookIn_ns hns
    exact ⟨some od, ha, hz.1, hno, by rw [hz.2]; exact h1⟩
theorem call_isX {X : Cx} {a : Addr} {oe : Obj} {cls : Value} {d : Option Addr} {pn : List (Addr × Obj)} (hz : Zc cls d oe) (hf : ∃ vs, oe.data = .fields vs) : CallR (X.suite a ((a, oe) :: pn)) (.builtin "isinstance") (rIsX X.K a cls d) := by
  intro pins s σ H xs us Q I r h
  obtain ⟨D, c, cv, b, rfl, C, rfl, hcv, e, hd, q⟩ := h
  cases r with
  | cons rx rr =>
    cases rr with
    | cons rt rr =>
      cases rr
      cases rx
      have ec := hcv _ rt
      subst ec
      obtain ⟨od, J⟩ := isX_inst I hz hf hd
      obtain ⟨cdD, hcD, _⟩ := PySem.W.any_some C.hd
      exact PySem.W.kia_one (PySem.W.kitx_exc (od := od) (by rw [hcD]; rfl) C.hg C.hk C.hs C.ha C.hn C.ht C.hm) I.kIn J e (fun z => nomatch z) fun tk => ⟨.bl b, H, I.kept (t' := tk) fun _ _ z => z, rfl, q⟩
theorem ref_is {C : Addr} : ∀ u, RelV (.ref C) u → u = .ref C := fun u h => h
/-- own classes asked for -/
theorem kit_own {K : PySem.W.Frag} {A S : Addr} {b : Bool} (h1 : PySem.W.isClsIn K S = true) (h2 : PySem.W.typeIn K (.ref S) = some (.type "type")) (h3 : PySem.W.subIn K (.ref A) (.ref S) = some b) (h4 : PySem.W.subIn K (.ref A) (.ref A) = some true) : PySem.W.kitOne K (.ref A) (.ref S) = some b := by
  by_cases e : A = S
  · subst e
    rw [h3] at h4
    rw [h4]
    exact if_pos (beq_self_eq_true _)
  · have h1' : (PySem.W.clsIn K S).isSome = true := h1
    have e1 : ((PySem.W.clsIn K S).isSome && PySem.W.typeIn K (.ref S) == some (.type "type")) = true := by rw [h1', h2] <;> rfl
    have e2 : (Value.ref A == Value.ref S) = false := beq_eq_false_iff_ne.mpr fun z => e (by injection z)
    have : PySem.W.kitOne K (.ref A) (.ref S) = if (Value.ref A == Value.ref S) = true then some true else (if ((PySem.W.clsIn K S).isSome && PySem.W.typeIn K (.ref S) == some (.type "type")) = true then PySem.W.subIn K (.ref A) (.ref S) else none) := rfl
    rw [this, e2, if_neg Bool.false_ne_true, if_pos e1]
    exact h3
end SR

set_option Elab.async false
set_option linter.all false
set_option maxRecDepth 100000
set_option maxHeartbeats 4000000
/-! Texts: numbers as texts, texts cut at one sign, words between spaces. -/
namespace SR
open PySem PySem.NumText
abbrev L (s : Str) : List Nat := s.cps.toList
theorem str_ext {a b : Str} (h : L a = L b) : a = b := PyProof.Rows.ext_toList h
theorem L_app (a b : Str) : L (a ++ b) = L a ++ L b := PySem.W.KT.app_list a b
theorem L_len (a : Str) : (L a).length = a.length := Array.length_toList
def mkS (l : List Nat) : Str := ⟨l.toArray⟩
theorem L_mk (l : List Nat) : L (mkS l) = l := by simp [L, mkS]
theorem mk_L (s : Str) : mkS (L s) = s := str_ext (L_mk _)
/-- a number's text -/
abbrev Tx (i : Int) : Str := Str.ofString (toString i)
def dg (m : Nat) : List Nat := (Nat.toDigits 10 m).map Char.toNat
theorem dg_all (m : Nat) : AllDigits (dg m) := by
  intro c hc
  obtain ⟨ch, hch, e⟩ := List.mem_map.mp hc
  have r := PyProof.Rows.digit_range (Nat.isDigit_of_mem_toDigits (by decide) (by decide) hch)
  rw [← e]
  exact r
theorem dg_ne (m : Nat) : dg m ≠ [] := by
  intro e
  have h : 0 < (Nat.toDigits 10 m).length := Nat.length_toDigits_pos
  rw [List.map_eq_nil_iff.mp e] at h
  exact absurd h (by decide)
theorem dg_val (m : Nat) : digitsVal (dg m) = m := PySem.W.KIN.val_back m
theorem dg_len {m k : Nat} (h0 : 0 < k) (h : m < 10 ^ k) : (dg m).length ≤ k := by
  unfold dg
  rw [List.length_map]
  exact (Nat.length_toDigits_le_iff (by decide) h0).mpr h
theorem Tx_nat (m : Nat) : L (Tx (m : Int)) = dg m := PySem.W.KIN.signs_num m
theorem Tx_neg (m : Nat) : L (Tx (Int.negSucc m)) = 45 :: dg (m + 1) := by
  show (Str.ofString (toString (Int.negSucc m))).cps.toList = _
  rw [PyProof.Rows.signs_ofString]
  show ("-" ++ Nat.repr (m + 1) : String).toList.map Char.toNat = _
  rw [String.toList_append, List.map_append, Nat.toList_repr]
  rfl
theorem Tx_cases (n : Int) : (∃ m : Nat, n = m ∧ L (Tx n) = dg m) ∨ ∃ m : Nat, n = -((m + 1 : Nat) : Int) ∧ L (Tx n) = 45 :: dg (m + 1) := by
  cases n with
  | ofNat m => exact .inl ⟨m, rfl, Tx_nat m⟩
  | negSucc m => exact .inr ⟨m, rfl, Tx_neg m⟩
theorem Tx_signs (n : Int) : ∀ c ∈ L (Tx n), c = 45 ∨ (48 ≤ c ∧ c ≤ 57) := by
  intro c hc
  rcases Tx_cases n with ⟨m, rfl, e⟩ | ⟨m, rfl, e⟩
  · rw [e] at hc; exact .inr (dg_all m c hc)
  · rw [e] at hc
    rcases List.mem_cons.mp hc with h | h
    · exact .inl h
    · exact .inr (dg_all _ c h)
theorem Tx_ne (n : Int) : L (Tx n) ≠ [] := by
  rcases Tx_cases n with ⟨m, rfl, e⟩ | ⟨m, rfl, e⟩
  · rw [e]; exact dg_ne m
  · rw [e]; simp
theorem Tx_len {n : Int} (h : n.natAbs < 10 ^ 31) : (L (Tx n)).length ≤ 32 := by
  rcases Tx_cases n with ⟨m, rfl, e⟩ | ⟨m, rfl, e⟩
  · rw [e]; have := dg_len (m := m) (k := 31) (by decide) (by omega); omega
  · rw [e, List.length_cons]; have := dg_len (m := m + 1) (k := 31) (by decide) (by omega); omega
theorem Tx_reads {n : Int} (h : (L (Tx n)).length ≤ 4300) : intText? (Tx n) = some n := by
  have hl := L_len (Tx n)
  rcases Tx_cases n with ⟨m, rfl, e⟩ | ⟨m, rfl, e⟩
  · have q := intText_digits (x := Tx (m : Int)) (by rw [show (Tx (m : Int)).cps.toList = dg m from e]; exact dg_all m) (by rw [show (Tx (m : Int)).cps.toList = dg m from e]; exact dg_ne m) (by omega)
    rw [show (Tx (m : Int)).cps.toList = dg m from e, dg_val] at q
    exact q
  · have q := intText_neg (x := Tx (-((m + 1 : Nat) : Int))) e (dg_all _) (dg_ne _) (by omega)
    rw [dg_val] at q
    exact q
theorem Tx_inj {n k : Int} (h : Tx n = Tx k) (hn : n.natAbs < 10 ^ 31) : n = k := by
  have a := Tx_reads (n := n) (by have := Tx_len hn; omega)
  have b := Tx_reads (n := k) (by rw [← h]; have := Tx_len hn; omega)
  rw [h, b] at a
  exact (Option.some.inj a).symm
/-- a word that can be a number -/
def minus : Str := Str.ofString "-"
def okNum (w : Str) : Bool := !(decide (31 < (Txt.removeprefix w minus).length) || !Txt.isascii (Txt.removeprefix w minus) || !Txt.isdigit (Txt.removeprefix w minus))
def bare (l : List Nat) : List Nat := match l with
  | 45 :: r => r
  | l => l
theorem bare_is (w : Str) : L (Txt.removeprefix w minus) = bare (L w) := by
  rw [StrLaws.removeprefix_eq]
  have e1 : minus.length = 1 := by decide +kernel
  have e2 : minus.cps.toList = [45] := by decide +kernel
  have hl := L_len w
  have hd : Builtin.Str.subAt w minus 0 = (((L w).drop 0).take 1 == [45]) := by rw [StrLaws.subAt_eq, e1, e2]
  rw [hd, e1]
  generalize hw : L w = l at hl
  rw [show w.cps.toList = l from hw]
  unfold bare
  cases l with
  | nil =>
    rw [List.length_nil] at hl
    rw [if_neg (by rw [decide_eq_false (by omega)]; simp)]
    exact hw
  | cons c r =>
    rw [List.length_cons] at hl
    by_cases hc : c = 45
    · subst hc
      rw [if_pos (by rw [decide_eq_true (by omega)]; rfl)]
      show ((List.drop 1 (45 :: r)).take (w.length - 1)).toArray.toList = r
      rw [List.drop_one, List.tail_cons, List.take_of_length_le (by omega)]
    · rw [if_neg (by simp [hc])]
      rw [hw]
      split
      · rename_i heq
        exact absurd (List.cons.inj heq).1 hc
      · rfl
theorem digit_low : ∀ c, c < 128 → Unicode.isDigit c = (decide (48 ≤ c) && decide (c ≤ 57)) := by decide +kernel
theorem okNum_iff (w : Str) : okNum w = true ↔ (bare (L w)).length ≤ 31 ∧ bare (L w) ≠ [] ∧ AllDigits (bare (L w)) := by
  unfold okNum
  have hl := L_len (Txt.removeprefix w minus)
  have e := bare_is w
  generalize Txt.removeprefix w minus = d at hl e
  rw [e] at hl
  have ea : Txt.isascii d = (bare (L w)).all (· < 128) := by
    unfold Txt.isascii
    rw [← Array.all_toList]
    show (L d).all _ = _
    rw [e]
  have ed : Txt.isdigit d = (decide (d.length > 0) && (bare (L w)).all Unicode.isDigit) := by
    unfold Txt.isdigit
    rw [← Array.all_toList]
    show (_ && (L d).all _) = _
    rw [e]
  rw [ea, ed, ← hl]
  generalize bare (L w) = l
  simp only [Bool.not_eq_true', Bool.or_eq_false_iff, Bool.not_eq_false', decide_eq_false_iff_not, Bool.and_eq_true, decide_eq_true_eq, List.all_eq_true]
  constructor
  · rintro ⟨⟨h1, h2⟩, h3, h4⟩
    refine ⟨by omega, fun z => by rw [z] at h3; simp at h3, fun c hc => ?_⟩
    have a := digit_low c (h2 c hc)
    rw [h4 c hc] at a
    have a := a.symm
    simp only [Bool.and_eq_true, decide_eq_true_eq] at a
    exact a
  · rintro ⟨h1, h2, h3⟩
    refine ⟨⟨by omega, fun c hc => by have := h3 c hc; omega⟩, ?_, fun c hc => ?_⟩
    · have := List.length_pos_iff.mpr h2; omega
    · have := h3 c hc
      rw [digit_low c (by omega)]
      simp only [Bool.and_eq_true, decide_eq_true_eq]
      exact this
theorem bare_digits {l : List Nat} (h : AllDigits l) : bare l = l := by
  unfold bare
  split
  · have := h 45 (List.mem_cons_self ..)
    omega
  · rfl
theorem okNum_Tx {n : Int} (h : n.natAbs < 10 ^ 31) : okNum (Tx n) = true := by
  rw [okNum_iff]
  rcases Tx_cases n with ⟨m, rfl, e⟩ | ⟨m, rfl, e⟩
  · rw [e, bare_digits (dg_all m)]
    exact ⟨dg_len (by decide) (by omega), dg_ne m, dg_all m⟩
  · rw [e]
    exact ⟨dg_len (m := m + 1) (by decide) (by omega), dg_ne _, dg_all _⟩
/-- such a word is read -/
theorem okNum_reads {w : Str} (h : okNum w = true) : w.length ≤ 32 ∧ ∃ n, intText? w = some n := by
  obtain ⟨h1, h2, h3⟩ := (okNum_iff w).mp h
  have hl := L_len w
  generalize hw : L w = l at h1 h2 h3 hl
  cases l with
  | nil => exact absurd rfl h2
  | cons c r =>
    by_cases hc : c = 45
    · subst hc
      have h1' : r.length ≤ 31 := h1
      rw [List.length_cons] at hl
      exact ⟨by omega, _, intText_neg (x := w) hw h3 h2 (by omega)⟩
    · have eb : bare (c :: r) = c :: r := by
        unfold bare
        split
        · rename_i heq
          exact absurd (List.cons.inj heq).1 hc
        · rfl
      rw [eb] at h1 h2 h3
      exact ⟨by omega, _, intText_digits (x := w) (by rw [show w.cps.toList = c :: r from hw]; exact h3) (by rw [show w.cps.toList = c :: r from hw]; exact h2) (by omega)⟩
/-- the number that a word is -/
def numS (w : Str) : Option Int := if okNum w = true then (match intText? w with
  | some n => if Tx n = w then some n else none
  | none => none) else none
theorem numS_Tx {n : Int} (h : n.natAbs < 10 ^ 31) : numS (Tx n) = some n := by
  unfold numS
  rw [if_pos (okNum_Tx h), Tx_reads (by have := Tx_len h; omega)]
  exact if_pos rfl
theorem numS_some {w : Str} {n : Int} (h : numS w = some n) : Tx n = w := by
  unfold numS at h
  split at h
  · split at h
    · split at h
      · rename_i e
        cases h
        exact e
      · cases h
    · cases h
  · cases h
theorem numS_none {w : Str} (h : ∀ n, Tx n ≠ w) : numS w = none := by
  cases e : numS w with
  | none => rfl
  | some n => exact absurd (numS_some e) (h n)
/-! texts cut at one sign -/
def cutL (c : Nat) : List Nat → List (List Nat)
  | [] => [[]]
  | x :: r => if x = c then [] :: cutL c r else match cutL c r with
    | p :: q => (x :: p) :: q
    | [] => [[x]]
theorem cutL_ne (c : Nat) : ∀ l, ∃ p q, cutL c l = p :: q
  | [] => ⟨[], [], rfl⟩
  | x :: r => by
    unfold cutL
    by_cases h : x = c
    · rw [if_pos h]; exact ⟨_, _, rfl⟩
    · rw [if_neg h]
      obtain ⟨p, q, e⟩ := cutL_ne c r
      rw [e]
      exact ⟨_, _, rfl⟩
theorem cutL_free {c : Nat} {p : List Nat} (h : c ∉ p) : cutL c p = [p] := by
  induction p with
  | nil => rfl
  | cons x r ih =>
    unfold cutL
    rw [if_neg (fun z => h (by rw [z]; exact List.mem_cons_self ..)), ih fun z => h (List.mem_cons_of_mem _ z)]
theorem cutL_app (c : Nat) : ∀ a b, cutL c (a ++ c :: b) = cutL c a ++ cutL c b
  | [], b => by show cutL c (c :: b) = [] :: cutL c b; rw [cutL, if_pos rfl]
  | x :: r, b => by
    rw [List.cons_append, cutL, cutL, cutL_app c r b]
    obtain ⟨p, q, e⟩ := cutL_ne c r
    by_cases h : x = c
    · rw [if_pos h, if_pos h]; rfl
    · rw [if_neg h, if_neg h, e]; rfl
def glueL (c : Nat) : List (List Nat) → List Nat
  | [] => []
  | [x] => x
  | x :: r => x ++ c :: glueL c r
theorem cut_glue {c : Nat} : ∀ {ps : List (List Nat)}, ps ≠ [] → (∀ p ∈ ps, c ∉ p) → cutL c (glueL c ps) = ps
  | [], h, _ => absurd rfl h
  | [x], _, h => cutL_free (h x (List.mem_singleton.mpr rfl))
  | x :: y :: r, _, h => by
    rw [glueL, cutL_app, cut_glue (by simp) fun p hp => h p (List.mem_cons_of_mem _ hp), cutL_free (h x (List.mem_cons_self ..))]
    · rfl
    · intro z; cases z
theorem L_join (c : Nat) : ∀ ys : List Str, L (Str.join ⟨#[c]⟩ ys) = glueL c (ys.map L)
  | [] => rfl
  | [x] => rfl
  | x :: y :: r => by
    show L (x ++ ⟨#[c]⟩ ++ Str.join ⟨#[c]⟩ (y :: r)) = _
    rw [L_app, L_app, L_join c (y :: r)]
    show (L x ++ [c]) ++ glueL c (L y :: r.map L) = L x ++ c :: glueL c (L y :: r.map L)
    rw [List.append_assoc]
    rfl
theorem txt_join (c : Nat) (ys : List Str) : Txt.join ⟨#[c]⟩ ys = Str.join ⟨#[c]⟩ ys := StrLaws.glued_eq_join _ _
theorem split_ne (x y : Str) : Txt.split x y ≠ [] := by
  intro z
  have := PyProof.Rows.split_pos x y
  rw [z] at this
  exact absurd this (by decide)
theorem split_is (x : Str) (c : Nat) : (Txt.split x ⟨#[c]⟩).map L = cutL c (L x) := by
  have h := StrLaws.join_split x ⟨#[c]⟩
  have e : L x = glueL c ((Txt.split x ⟨#[c]⟩).map L) := by rw [← L_join, h]
  rw [e, cut_glue]
  · exact fun z => split_ne x _ (List.map_eq_nil_iff.mp z)
  · intro p hp
    obtain ⟨q, hq, rfl⟩ := List.mem_map.mp hp
    exact StrLaws.split_free x c q hq
theorem map_L_inj : ∀ {a b : List Str}, a.map L = b.map L → a = b
  | [], [], _ => rfl
  | [], _ :: _, h => nomatch h
  | _ :: _, [], h => nomatch h
  | x :: a, y :: b, h => by
    rw [List.map_cons, List.map_cons] at h
    injection h with h1 h2
    rw [str_ext h1, map_L_inj h2]
theorem split_join {c : Nat} {ys : List Str} (hne : ys ≠ []) (h : ∀ y ∈ ys, c ∉ L y) : Txt.split (Txt.join ⟨#[c]⟩ ys) ⟨#[c]⟩ = ys := by
  apply map_L_inj
  rw [split_is, txt_join, L_join, cut_glue (fun z => hne (List.map_eq_nil_iff.mp z))]
  intro p hp
  obtain ⟨q, hq, rfl⟩ := List.mem_map.mp hp
  exact h q hq
/-! words -/
def wordsL (l : List Nat) : List (List Nat) := (cutL 32 l).filter fun w => decide (w ≠ [])
theorem wordsL_app (a b : List Nat) : wordsL (a ++ 32 :: b) = wordsL a ++ wordsL b := by
  unfold wordsL
  rw [cutL_app, List.filter_append]
theorem wordsL_nil : wordsL [] = [] := rfl
theorem wordsL_word {w : List Nat} (h : 32 ∉ w) (hne : w ≠ []) : wordsL w = [w] := by
  unfold wordsL
  rw [cutL_free h]
  exact List.filter_cons_of_pos (by simpa using hne)
theorem wordsL_sp (l : List Nat) : ∀ k, wordsL (List.replicate k 32 ++ l) = wordsL l
  | 0 => rfl
  | k + 1 => by
    rw [List.replicate_succ, List.cons_append]
    exact (wordsL_app [] _).trans (wordsL_sp l k)
theorem wordsL_end (l : List Nat) : ∀ k, wordsL (l ++ List.replicate k 32) = wordsL l
  | 0 => by rw [List.replicate_zero, List.append_nil]
  | k + 1 => by
    rw [List.replicate_succ, wordsL_app]
    have := wordsL_sp [] k
    rw [List.append_nil] at this
    rw [this, wordsL_nil, List.append_nil]
theorem wordsL_mid (a b : List Nat) (k : Nat) : wordsL (a ++ (List.replicate (k + 1) 32 ++ b)) = wordsL a ++ wordsL b := by
  rw [List.replicate_succ, List.cons_append, wordsL_app, wordsL_sp]
theorem wordsL_glue : ∀ {ws : List (List Nat)}, (∀ w ∈ ws, 32 ∉ w ∧ w ≠ []) → wordsL (glueL 32 ws) = ws
  | [], _ => rfl
  | [w], h => wordsL_word (h w (List.mem_singleton.mpr rfl)).1 (h w (List.mem_singleton.mpr rfl)).2
  | w :: x :: r, h => by
    rw [glueL, wordsL_app, wordsL_glue fun p hp => h p (List.mem_cons_of_mem _ hp), wordsL_word (h w (List.mem_cons_self ..)).1 (h w (List.mem_cons_self ..)).2]
    · rfl
    · intro z; cases z
def sp32 : Str := ⟨#[32]⟩
def wordsS (x : Str) : List Str := (Txt.split x sp32).filter fun w => !(w.length == 0)
theorem wordsS_is (x : Str) : (wordsS x).map L = wordsL (L x) := by
  unfold wordsS wordsL
  rw [← split_is, List.filter_map]
  congr 1
  apply List.filter_congr
  intro w _
  have h := L_len w
  show (!(w.length == 0)) = decide (L w ≠ [])
  cases e : L w with
  | nil => rw [e] at h; rw [← h]; rfl
  | cons c r => rw [e] at h; rw [← h]; simp
/-- trailing spaces taken off -/
theorem rstrip_is (x : Str) : ∃ t, L x = L (Txt.rstrip x) ++ t ∧ ∀ c ∈ t, Unicode.isSpace c = true := by
  have hl := L_len x
  obtain ⟨t, ht⟩ : ∃ t, t = (L x).reverse.takeWhile Unicode.isSpace := ⟨_, rfl⟩
  have hpre : t <+: (L x).reverse := by rw [ht]; exact List.takeWhile_prefix _
  obtain ⟨u, hu⟩ := hpre
  have ex : L x = u.reverse ++ t.reverse := by rw [← List.reverse_append, hu, List.reverse_reverse]
  have hlen : (L x).length = u.length + t.length := by rw [ex]; simp
  have er : L (stripped Unicode.isSpace false true x) = u.reverse := by
    unfold stripped stripLo stripHi
    rw [if_neg Bool.false_ne_true, if_pos rfl, List.drop_zero, ← ht]
    show (Builtin.Str.strSub x 0 (x.length - t.length)).cps.toList = _
    rw [StrLaws.strSub_toList, List.drop_zero]
    show (L x).take _ = _
    rw [ex, List.take_append_of_le_length (by rw [List.length_reverse]; omega)]
    exact List.take_of_length_le (by rw [List.length_reverse]; omega)
  have ec : L (Txt.rstrip x) = u.reverse := by
    unfold Txt.rstrip Txt.stripBy
    by_cases hs : stripSame Unicode.isSpace false true x = true
    · rw [if_pos hs]
      unfold stripSame stripLo stripHi at hs
      rw [if_neg Bool.false_ne_true, if_pos rfl, List.drop_zero, ← ht] at hs
      simp only [Bool.and_eq_true, beq_iff_eq] at hs
      have t0 : t = [] := by
        cases t with
        | nil => rfl
        | cons c r => rw [List.length_cons] at hs hlen; omega
      rw [ex, t0]
      simp
    · rw [if_neg hs]; exact er
  refine ⟨t.reverse, by rw [ec]; exact ex, fun c hc => ?_⟩
  have hc' := List.mem_reverse.mp hc
  rw [ht] at hc'
  have := List.all_takeWhile (l := (L x).reverse) (p := Unicode.isSpace)
  exact List.all_eq_true.mp this c hc'
theorem all_rep : ∀ {t : List Nat}, (∀ c ∈ t, c = 32) → t = List.replicate t.length 32
  | [], _ => rfl
  | c :: r, h => by rw [List.length_cons, List.replicate_succ, ← all_rep fun d hd => h d (List.mem_cons_of_mem _ hd), h c (List.mem_cons_self ..)]
theorem rstrip_words {x : Str} (h : ∀ c ∈ L x, Unicode.isSpace c = true → c = 32) : wordsL (L (Txt.rstrip x)) = wordsL (L x) := by
  obtain ⟨t, e, ht⟩ := rstrip_is x
  have et : t = List.replicate t.length 32 := all_rep fun c hc => h c (by rw [e]; exact List.mem_append_right _ hc) (ht c hc)
  rw [e, et, wordsL_end]
end SR

set_option Elab.async false
set_option linter.all false
set_option maxRecDepth 100000
set_option maxHeartbeats 4000000
/-! A summary's text, and what is read from a text. -/
namespace SR
open PySem PySem.NumText
def nl10 : Str := ⟨#[10]⟩
def countW : Str := Str.ofString "count"
def headS (n : Int) : Str := Str.ofString "count " ++ Tx n
def lineS (e : Ent) : Str := Tx e.1 ++ sp32 ++ Tx e.2.1 ++ sp32 ++ Tx e.2.2
def rowsS (n : Int) (es : List Ent) : List Str := headS n :: es.map lineS
def textS (n : Int) (es : List Ent) : Str := Txt.join nl10 (rowsS n es)
/-- where a text is refused -/
abbrev Rf := Int × Int
def numAt (line : Int) (ws : List Str) (k : Nat) (a b : Int) : Except Rf Int := match (ws[k - 1]?).bind numS with
  | some n => if a ≤ n ∧ n ≤ b then .ok n else .error (line, (k : Int))
  | none => .error (line, (k : Int))
def endAt (line : Int) (ws : List Str) (k : Nat) : Except Rf Unit := if k < ws.length then .error (line, (k : Int) + 1) else .ok ()
def readCount (ws : List Str) : Except Rf Int := if ws.take 1 = [countW] then
    match numAt 1 ws 2 1 (10 ^ 30) with
    | .ok n => match endAt 1 ws 2 with
      | .ok _ => .ok n
      | .error r => .error r
    | .error r => .error r
  else .error (1, 1)
def readEntry (line : Int) (ws : List Str) (least many : Int) : Except Rf Ent := match numAt line ws 1 least (10 ^ 30) with
  | .error r => .error r
  | .ok v => match numAt line ws 2 1 many with
    | .error r => .error r
    | .ok a => match numAt line ws 3 a many with
      | .error r => .error r
      | .ok b => match endAt line ws 3 with
        | .error r => .error r
        | .ok _ => .ok (v, a, b)
def leastOf (es : List Ent) : Int := match es.getLast? with
  | some e => e.1
  | none => -10 ^ 30
def readRest (many : Int) : List Str → Int → List Ent → Except Rf (List Ent)
  | [], _, es => .ok es
  | s :: r, line, es => if es.length = 12 then .error (line, 1) else match readEntry line (wordsS s) (leastOf es) many with
    | .error z => .error z
    | .ok e => readRest many r (line + 1) (es ++ [e])
def readS (t : Str) : Except Rf (Int × List Ent) := match Txt.split t nl10 with
  | [] => .error (1, 1)
  | s :: r => match readCount (wordsS s) with
    | .error z => .error z
    | .ok n => match readRest n r 2 [] with
      | .error z => .error z
      | .ok es => .ok (n, es)
theorem small31 {v : Int} (h1 : -10 ^ 30 ≤ v) (h2 : v ≤ 10 ^ 30) : v.natAbs < 10 ^ 31 := by
  have a : ((v.natAbs : Nat) : Int) ≤ 10 ^ 30 := by omega
  have b : (10 : Int) ^ 30 < ((10 ^ 31 : Nat) : Int) := by decide
  omega
theorem numAt_ok {line : Int} {ws : List Str} {k : Nat} {a b n : Int} (h : ws[k - 1]? = some (Tx n)) (hn : n.natAbs < 10 ^ 31) (h1 : a ≤ n) (h2 : n ≤ b) : numAt line ws k a b = .ok n := by
  unfold numAt
  rw [h, Option.bind_some, numS_Tx hn]
  exact if_pos ⟨h1, h2⟩
theorem readCount_ok {n : Int} (h1 : 1 ≤ n) (h2 : n ≤ 10 ^ 30) : readCount [countW, Tx n] = .ok n := by
  unfold readCount
  rw [if_pos (show List.take 1 [countW, Tx n] = [countW] from rfl), numAt_ok (n := n) rfl (small31 (by omega) h2) h1 h2]
  rfl
theorem readEntry_ok {line least many : Int} {e : Ent} (hm : many ≤ 10 ^ 30) (h0 : -10 ^ 30 ≤ least) (h1 : least ≤ e.1) (h2 : e.1 ≤ 10 ^ 30) (h3 : 1 ≤ e.2.1) (h4 : e.2.1 ≤ e.2.2) (h5 : e.2.2 ≤ many) :
    readEntry line [Tx e.1, Tx e.2.1, Tx e.2.2] least many = .ok e := by
  unfold readEntry
  rw [numAt_ok (n := e.1) rfl (small31 (by omega) h2) h1 h2]
  show (match numAt line _ 2 1 many with | .error r => _ | .ok a => _) = _
  rw [numAt_ok (n := e.2.1) rfl (small31 (by omega) (by omega)) h3 (by omega)]
  show (match numAt line _ 3 e.2.1 many with | .error r => _ | .ok a => _) = _
  rw [numAt_ok (n := e.2.2) rfl (small31 (by omega) (by omega)) h4 h5]
  rfl
/-- the words of the lines of a summary's text -/
structure RowW (s : Str) (e : Ent) : Prop where
  ws : wordsS s = [Tx e.1, Tx e.2.1, Tx e.2.2]
theorem leastOf_lt {es : List Ent} {k : Nat} (hk : k < es.length) (h : 0 < k) : leastOf (es.take k) = vl es (k - 1) := by
  unfold leastOf
  have e : (es.take k).getLast? = es[k - 1]? := by
    rw [List.getLast?_eq_getElem?, List.length_take, List.getElem?_take, show min k es.length - 1 = k - 1 by omega, if_pos (by omega)]
  rw [e]
  have e2 : es[k - 1]? = some (es[k - 1]'(by omega)) := List.getElem?_eq_getElem (by omega)
  rw [e2, vl_of e2]
theorem readRest_ok {many : Int} {es : List Ent} (hv : Valid many es) : ∀ (ss : List Str) (k : Nat), k + ss.length = es.length → (∀ i, (h : i < ss.length) → ∃ e, es[k + i]? = some e ∧ wordsS ss[i] = [Tx e.1, Tx e.2.1, Tx e.2.2]) → ∀ line, readRest many ss line (es.take k) = .ok es
  | [], k, hk, _, line => by
    rw [List.length_nil] at hk
    unfold readRest
    rw [List.take_of_length_le (by omega)]
  | s :: r, k, hk, hw, line => by
    rw [List.length_cons] at hk
    have hl := hv.len
    obtain ⟨e, he, ew⟩ := hw 0 (by simp)
    rw [Nat.add_zero] at he
    rw [List.getElem_cons_zero] at ew
    have hkl : k < es.length := by omega
    have hent := hv.ent k hkl
    rw [vl_of he, lo_of he, hi_of he] at hent
    obtain ⟨h1, h2, h3, h4, h5⟩ := hent
    have hle : -10 ^ 30 ≤ leastOf (es.take k) ∧ leastOf (es.take k) ≤ e.1 := by
      by_cases k0 : 0 < k
      · rw [leastOf_lt hkl k0]
        have a := hv.asc (k - 1) (by omega)
        rw [show k - 1 + 1 = k by omega, vl_of he] at a
        exact ⟨(hv.ent (k - 1) (by omega)).1, a⟩
      · have : k = 0 := by omega
        subst this
        exact ⟨Int.le_refl _, h1⟩
    unfold readRest
    rw [if_neg (by rw [List.length_take]; omega), ew, readEntry_ok hv.n2 hle.1 hle.2 h2 h3 h4 h5]
    show readRest many r (line + 1) (es.take k ++ [e]) = _
    have et : es.take k ++ [e] = es.take (k + 1) := by rw [List.take_add_one, he]; rfl
    rw [et]
    refine readRest_ok hv r (k + 1) (by omega) (fun i hi => ?_) (line + 1)
    obtain ⟨e', h', w'⟩ := hw (i + 1) (by simp; omega)
    exact ⟨e', by rw [← h']; congr 1; omega, by rw [← w']; rfl⟩
/-- a text whose lines have the words of the summary's text is read as the summary -/
theorem readS_ok {n : Int} {es : List Ent} {t s : Str} {r : List Str} (hv : Valid n es) (ht : Txt.split t nl10 = s :: r) (h0 : wordsS s = [countW, Tx n]) (hl : r.length = es.length)
    (hw : ∀ i, (h : i < r.length) → ∃ e, es[i]? = some e ∧ wordsS r[i] = [Tx e.1, Tx e.2.1, Tx e.2.2]) : readS t = .ok (n, es) := by
  unfold readS
  rw [ht]
  show (match readCount (wordsS s) with | .error z => _ | .ok n => _) = _
  rw [h0, readCount_ok hv.n1 hv.n2]
  show (match readRest n r 2 [] with | .error z => _ | .ok es => _) = _
  have := readRest_ok hv r 0 (by omega) (fun i hi => by rw [Nat.zero_add]; exact hw i hi) 2
  rw [List.take_zero] at this
  rw [this]
/-! the words of the rows -/
theorem L_sp : L sp32 = [32] := rfl
theorem L_count : L (Str.ofString "count ") = [99, 111, 117, 110, 116, 32] := by decide +kernel
theorem L_countW : L countW = [99, 111, 117, 110, 116] := by decide +kernel
theorem Tx_no {n : Int} {c : Nat} (h : c < 45) : c ∉ L (Tx n) := fun hc => by have := Tx_signs n c hc; omega
theorem L_head (n : Int) : L (headS n) = [99, 111, 117, 110, 116] ++ 32 :: L (Tx n) := by
  unfold headS
  rw [L_app, L_count]
  rfl
theorem L_line (e : Ent) : L (lineS e) = L (Tx e.1) ++ 32 :: (L (Tx e.2.1) ++ 32 :: L (Tx e.2.2)) := by
  unfold lineS
  rw [L_app, L_app, L_app, L_app, L_sp]
  simp
theorem words_head {s : Str} {n : Int} (h : wordsL (L s) = [L countW, L (Tx n)]) : wordsS s = [countW, Tx n] := map_L_inj (by rw [wordsS_is, h]; rfl)
theorem words_line {s : Str} {e : Ent} (h : wordsL (L s) = [L (Tx e.1), L (Tx e.2.1), L (Tx e.2.2)]) : wordsS s = [Tx e.1, Tx e.2.1, Tx e.2.2] := map_L_inj (by rw [wordsS_is, h]; rfl)
theorem wordsL_Tx (n : Int) : wordsL (L (Tx n)) = [L (Tx n)] := wordsL_word (Tx_no (by decide)) (Tx_ne n)
theorem wordsL_count : wordsL (L countW) = [L countW] := wordsL_word (by rw [L_countW]; decide) (by rw [L_countW]; decide)
theorem head_words (n : Int) : wordsS (headS n) = [countW, Tx n] := words_head (by rw [L_head, wordsL_app, wordsL_Tx, ← L_countW, wordsL_count]; rfl)
theorem line_words (e : Ent) : wordsS (lineS e) = [Tx e.1, Tx e.2.1, Tx e.2.2] := words_line (by rw [L_line, wordsL_app, wordsL_app, wordsL_Tx, wordsL_Tx, wordsL_Tx]; rfl)
theorem head_no (n : Int) : 10 ∉ L (headS n) := by
  rw [L_head]
  intro h
  rcases List.mem_append.mp h with h | h
  · revert h; decide
  · rcases List.mem_cons.mp h with h | h
    · exact absurd h (by decide)
    · exact Tx_no (by decide) h
theorem line_no (e : Ent) : 10 ∉ L (lineS e) := by
  rw [L_line]
  intro h
  rcases List.mem_append.mp h with h | h
  · exact Tx_no (by decide) h
  rcases List.mem_cons.mp h with h | h
  · exact absurd h (by decide)
  rcases List.mem_append.mp h with h | h
  · exact Tx_no (by decide) h
  rcases List.mem_cons.mp h with h | h
  · exact absurd h (by decide)
  · exact Tx_no (by decide) h
theorem rows_split (n : Int) (es : List Ent) : Txt.split (textS n es) nl10 = rowsS n es := by
  refine split_join (by unfold rowsS; simp) fun y hy => ?_
  rcases List.mem_cons.mp hy with rfl | hy
  · exact head_no n
  · obtain ⟨e, _, rfl⟩ := List.mem_map.mp hy
    exact line_no e
theorem textS_reads {n : Int} {es : List Ent} (hv : Valid n es) : readS (textS n es) = .ok (n, es) := by
  refine readS_ok hv (rows_split n es) (head_words n) (List.length_map ..) fun i hi => ?_
  rw [List.length_map] at hi
  refine ⟨es[i], List.getElem?_eq_getElem hi, ?_⟩
  rw [List.getElem_map]
  exact line_words _
end SR

set_option Elab.async false
set_option linter.all false
set_option maxRecDepth 100000
set_option maxHeartbeats 4000000
/-! What is read is a summary; numbers read are small; rows are short. -/
namespace SR
open PySem PySem.NumText
theorem digitsVal_lt : ∀ (k : Nat) (cs : List Nat), cs.length = k → AllDigits cs → digitsVal cs < 10 ^ k
  | 0, cs, hl, _ => by
    rw [List.length_eq_zero_iff.mp hl]
    decide
  | k + 1, cs, hl, h => by
    have hne : cs ≠ [] := by intro e; rw [e] at hl; simp at hl
    have e := List.dropLast_concat_getLast hne
    generalize cs.dropLast = ini at e
    generalize cs.getLast hne = c at e
    subst e
    have hc : 48 ≤ c ∧ c ≤ 57 := h c (List.mem_append_right _ (List.mem_singleton.mpr rfl))
    have ih := digitsVal_lt k ini (by rw [List.length_append, List.length_singleton] at hl; omega) fun d hd => h d (List.mem_append_left _ hd)
    rw [digitsVal_snoc, Nat.pow_succ]
    omega
theorem okNum_num {w : Str} (h : okNum w = true) : w.length ≤ 32 ∧ ∃ n, intText? w = some n ∧ n.natAbs < 10 ^ 31 := by
  obtain ⟨h1, h2, h3⟩ := (okNum_iff w).mp h
  have hl := L_len w
  have le31 : ∀ cs : List Nat, cs.length ≤ 31 → AllDigits cs → digitsVal cs < 10 ^ 31 := fun cs a b =>
    Nat.lt_of_lt_of_le (digitsVal_lt cs.length cs rfl b) (Nat.pow_le_pow_right (by decide) a)
  generalize hw : L w = l at h1 h2 h3 hl
  cases l with
  | nil => exact absurd rfl h2
  | cons c r =>
    by_cases hc : c = 45
    · subst hc
      have h1' : r.length ≤ 31 := h1
      rw [List.length_cons] at hl
      refine ⟨by omega, _, intText_neg (x := w) hw h3 h2 (by omega), ?_⟩
      have := le31 r h1' h3
      rw [Int.natAbs_neg]
      exact this
    · have eb : bare (c :: r) = c :: r := by
        unfold bare
        split
        · rename_i heq
          exact absurd (List.cons.inj heq).1 hc
        · rfl
      rw [eb] at h1 h2 h3
      refine ⟨by omega, _, intText_digits (x := w) (by rw [show w.cps.toList = c :: r from hw]; exact h3) (by rw [show w.cps.toList = c :: r from hw]; exact h2) (by omega), ?_⟩
      rw [show w.cps.toList = c :: r from hw]
      exact le31 _ h1 h3
theorem log31 {n : Nat} (h : n < 10 ^ 31) : n.log2 < 1920 := by
  by_cases h0 : n = 0
  · rw [h0]; decide
  · exact (Nat.log2_lt h0).mpr (Nat.lt_of_lt_of_le h (Nat.le_trans (show 10 ^ 31 ≤ 2 ^ 128 by decide) (Nat.pow_le_pow_right (by decide) (by decide))))
theorem numAt_bd {line : Int} {ws : List Str} {k : Nat} {a b n : Int} (h : numAt line ws k a b = .ok n) : a ≤ n ∧ n ≤ b := by
  unfold numAt at h
  split at h
  · split at h
    · rename_i c
      cases h
      exact c
    · cases h
  · cases h
theorem readCount_bd {ws : List Str} {n : Int} (h : readCount ws = .ok n) : 1 ≤ n ∧ n ≤ 10 ^ 30 := by
  unfold readCount at h
  split at h
  · split at h
    · rename_i m e
      split at h
      · cases h
        exact numAt_bd e
      · cases h
    · cases h
  · cases h
theorem readEntry_bd {line least many : Int} {ws : List Str} {e : Ent} (h : readEntry line ws least many = .ok e) : least ≤ e.1 ∧ e.1 ≤ 10 ^ 30 ∧ 1 ≤ e.2.1 ∧ e.2.1 ≤ e.2.2 ∧ e.2.2 ≤ many := by
  unfold readEntry at h
  split at h
  · cases h
  · rename_i v ev
    split at h
    · cases h
    · rename_i a ea
      split at h
      · cases h
      · rename_i b eb
        split at h
        · cases h
        · cases h
          have h1 := numAt_bd ev
          have h2 := numAt_bd ea
          have h3 := numAt_bd eb
          exact ⟨h1.1, h1.2, h2.1, h3.1, h3.2⟩
theorem vl_snoc {es : List Ent} {e : Ent} {j : Nat} (h : j < es.length) : (es ++ [e])[j]? = es[j]? := List.getElem?_append_left h
theorem Valid.snoc {n : Int} {es : List Ent} (v : Valid n es) {e : Ent} (h12 : es.length < 12) (h0 : leastOf es ≤ e.1) (h1 : e.1 ≤ 10 ^ 30) (h2 : 1 ≤ e.2.1) (h3 : e.2.1 ≤ e.2.2) (h4 : e.2.2 ≤ n) : Valid n (es ++ [e]) := by
  have le : ∀ j, j + 1 = es.length → leastOf es = vl es j := fun j hj => by
    have := leastOf_lt (es := es) (k := es.length - 1 + 1)
    unfold leastOf
    rw [List.getLast?_eq_getElem?, show es.length - 1 = j by omega]
    have e2 : es[j]? = some (es[j]'(by omega)) := List.getElem?_eq_getElem (by omega)
    rw [e2, vl_of e2]
  have last : (es ++ [e])[es.length]? = some e := by rw [List.getElem?_append_right (Nat.le_refl _), Nat.sub_self]; rfl
  have low : -10 ^ 30 ≤ e.1 := by
    by_cases hz : es.length = 0
    · have : es = [] := List.length_eq_zero_iff.mp hz
      subst this
      exact h0
    · have a := le (es.length - 1) (by omega)
      have b := v.ent (es.length - 1) (by omega)
      rw [a] at h0
      exact Int.le_trans b.1 h0
  refine ⟨v.n1, v.n2, by rw [List.length_append]; exact h12, fun j hj => ?_, fun j hj => ?_⟩
  · rw [List.length_append, List.length_singleton] at hj
    by_cases c : j < es.length
    · have a := v.ent j c
      have e2 : es[j]? = some (es[j]'c) := List.getElem?_eq_getElem c
      have e3 := vl_snoc (e := e) c
      rw [e2] at e3
      rw [vl_of e3, lo_of e3, hi_of e3]
      rw [vl_of e2, lo_of e2, hi_of e2] at a
      exact a
    · have : j = es.length := by omega
      subst this
      rw [vl_of last, lo_of last, hi_of last]
      exact ⟨low, h1, h2, h3, h4⟩
  · rw [List.length_append, List.length_singleton] at hj
    have c : j < es.length := by omega
    have e2 : es[j]? = some (es[j]'c) := List.getElem?_eq_getElem c
    have e3 := vl_snoc (e := e) c
    rw [e2] at e3
    by_cases c2 : j + 1 < es.length
    · have f2 : es[j + 1]? = some (es[j + 1]'c2) := List.getElem?_eq_getElem c2
      have f3 := vl_snoc (e := e) c2
      rw [f2] at f3
      have a := v.asc j c2
      rw [vl_of e3, vl_of f3]
      rw [vl_of e2, vl_of f2] at a
      exact a
    · have q : j + 1 = es.length := by omega
      rw [vl_of e3, q, vl_of last, ← vl_of e2, ← le j q]
      exact h0
theorem valid_nil {n : Int} (h1 : 1 ≤ n) (h2 : n ≤ 10 ^ 30) : Valid n [] := ⟨h1, h2, by decide, fun j hj => absurd hj (by simp), fun j hj => absurd hj (by simp)⟩
/-! lengths -/
theorem Tx_small {v : Int} (h1 : -10 ^ 30 ≤ v) (h2 : v ≤ 10 ^ 30) : (Tx v).length ≤ 32 := by
  rw [← L_len]
  exact Tx_len (small31 h1 h2)
theorem head_len {n : Int} (h1 : 1 ≤ n) (h2 : n ≤ 10 ^ 30) : (headS n).length ≤ 100 := by
  have := Tx_small (v := n) (by omega) h2
  unfold headS
  rw [Str.length_append, show (Str.ofString "count ").length = 6 by decide +kernel]
  omega
theorem line_len {n : Int} {es : List Ent} (hv : Valid n es) {j : Nat} {e : Ent} (h : es[j]? = some e) : (lineS e).length ≤ 100 ∧ (Tx e.1).length ≤ 32 ∧ (Tx e.2.1).length ≤ 32 ∧ (Tx e.2.2).length ≤ 32 := by
  have hj : j < es.length := (List.getElem?_eq_some_iff.mp h).1
  have a := hv.ent j hj
  rw [vl_of h, lo_of h, hi_of h] at a
  obtain ⟨a1, a2, a3, a4, a5⟩ := a
  have n2 := hv.n2
  have b1 := Tx_small a1 a2
  have b2 := Tx_small (v := e.2.1) (by omega) (by omega)
  have b3 := Tx_small (v := e.2.2) (by omega) (by omega)
  unfold lineS
  rw [Str.length_append, Str.length_append, Str.length_append, Str.length_append, show sp32.length = 1 by decide +kernel]
  omega
theorem rows_len {n : Int} {es : List Ent} (hv : Valid n es) : ∀ y ∈ rowsS n es, y.length ≤ 100 := fun y hy => by
  rcases List.mem_cons.mp hy with rfl | hy
  · exact head_len hv.n1 hv.n2
  · obtain ⟨e, he, rfl⟩ := List.mem_map.mp hy
    obtain ⟨j, hj⟩ := List.getElem?_of_mem he
    exact (line_len hv hj).1
theorem rows_sum {n : Int} {es : List Ent} (hv : Valid n es) : ((rowsS n es).map (·.length)).sum ≤ 1300 ∧ (rowsS n es).length ≤ 13 := by
  have a := StrLaws.sumLen_le (rowsS n es) (rows_len hv)
  have b : (rowsS n es).length ≤ 13 := by
    unfold rowsS
    rw [List.length_cons, List.length_map]
    have := hv.len
    omega
  have : (rowsS n es).length * 100 ≤ 13 * 100 := Nat.mul_le_mul_right _ b
  exact ⟨by omega, b⟩
theorem text_len {n : Int} {es : List Ent} (hv : Valid n es) : (textS n es).length ≤ 1400 := by
  obtain ⟨a, b⟩ := rows_sum hv
  unfold textS
  rw [show Txt.join nl10 (rowsS n es) = Str.join nl10 (rowsS n es) from txt_join 10 _]
  have := StrLaws.join_length_le nl10 (rowsS n es)
  rw [show nl10.length = 1 by decide +kernel] at this
  exact Nat.le_trans this (by omega)
theorem size1000 {n : Nat} (h : n ≤ 100000) : n ≤ sizeLine := by rw [sizeLine_eq]; omega
theorem log_w : True := trivial
theorem nlS : Str.ofString "\n" = nl10 := by decide +kernel
theorem spS : Str.ofString " " = sp32 := by decide +kernel

/-! lists of texts as data -/
open L2 in
theorem strs_dp {K : PySem.W.Frag} {H : Hp} : ∀ ws : List Str, DpAll K H (ws.map V.str) (ws.map PyData.str)
  | [] => .nil
  | w :: r => .cons (.str w) (strs_dp r)
theorem strs_lay : ∀ {ds : List PyData}, (∀ d ∈ ds, d.canLay0 = true ∧ d.depth ≤ 0) → (PyData.list ds).canLay0 = true ∧ (PyData.list ds).depth ≤ 1
  | [], _ => ⟨rfl, by show 0 + 1 ≤ 0 + 1; omega⟩
  | d :: ds, h => by
    have h1 := h d (List.mem_cons_self ..)
    have h2 := strs_lay (ds := ds) fun x hx => h x (List.mem_cons_of_mem _ hx)
    have a : PyData.canLayAll0 (d :: ds) = true := by
      show (d.canLay0 && PyData.canLayAll0 ds) = true
      rw [h1.1]
      exact h2.1
    refine ⟨a, ?_⟩
    show PyData.depthAll (d :: ds) + 1 ≤ 1
    have b : PyData.depthAll ds + 1 ≤ 1 := h2.2
    show max d.depth (PyData.depthAll ds) + 1 ≤ 1
    have := h1.2
    omega
theorem shaped_strs (ws : List Str) (h : ∀ w ∈ ws, PyData.strOk w = true) : SeqAt.shaped (.list (ws.map PyData.str)) = true := by
  refine shaped_of ?_
  have := strs_lay (ds := ws.map PyData.str) fun d hd => by
    obtain ⟨w, hw, rfl⟩ := List.mem_map.mp hd
    exact ⟨h w hw, Nat.le_refl _⟩
  exact ⟨this.1, Nat.le_trans this.2 (by decide)⟩
theorem eqv_str (a b : Str) : PyData.eqv (.str a) (.str b) = decide (a = b) := by
  show (a == b) = decide (a = b)
  by_cases h : a = b
  · subst h; simp
  · rw [decide_eq_false h]; exact beq_eq_false_iff_ne.mpr h
theorem eqv_strs : ∀ a b : List Str, PyData.eqv (.list (a.map PyData.str)) (.list (b.map PyData.str)) = decide (a = b)
  | [], [] => rfl
  | [], _ :: _ => rfl
  | _ :: _, [] => rfl
  | x :: a, y :: b => by
    have ih : PyData.eqvAll (a.map PyData.str) (b.map PyData.str) = decide (a = b) := eqv_strs a b
    show (PyData.eqv (.str x) (.str y) && PyData.eqvAll (a.map PyData.str) (b.map PyData.str)) = _
    rw [ih, eqv_str, ← Bool.decide_and]
    exact decide_eq_decide.mpr ⟨fun ⟨h1, h2⟩ => by rw [h1, h2], fun h => by injection h with h1 h2; exact ⟨h1, h2⟩⟩

theorem strOk_of {w : Str} : PyData.strOk w = true ↔ ∀ c ∈ L w, c < 0x110000 := by
  unfold PyData.strOk
  rw [← Array.all_toList, List.all_eq_true]
  exact ⟨fun h c hc => of_decide_eq_true (h c hc), fun h c hc => decide_eq_true (h c hc)⟩
theorem cutL_sub (c : Nat) : ∀ (l p : List Nat), p ∈ cutL c l → ∀ x ∈ p, x ∈ l
  | [], p, hp, x, hx => by
    rw [show cutL c [] = [[]] from rfl, List.mem_singleton] at hp
    rw [hp] at hx
    cases hx
  | y :: r, p, hp, x, hx => by
    unfold cutL at hp
    split at hp
    · rcases List.mem_cons.mp hp with e | hp
      · rw [e] at hx; cases hx
      · exact List.mem_cons_of_mem _ (cutL_sub c r p hp x hx)
    · obtain ⟨q, s, e⟩ := cutL_ne c r
      rw [e] at hp
      rcases List.mem_cons.mp hp with e2 | hp
      · rw [e2] at hx
        rcases List.mem_cons.mp hx with rfl | hx
        · exact List.mem_cons_self ..
        · exact List.mem_cons_of_mem _ (cutL_sub c r q (by rw [e]; exact List.mem_cons_self ..) x hx)
      · exact List.mem_cons_of_mem _ (cutL_sub c r p (by rw [e]; exact List.mem_cons_of_mem _ hp) x hx)
theorem split_ok {t : Str} {c : Nat} (h : PyData.strOk t = true) : ∀ w ∈ Txt.split t ⟨#[c]⟩, PyData.strOk w = true := fun w hw => strOk_of.mpr fun x hx =>
  strOk_of.mp h x (cutL_sub c (L t) (L w) (by rw [← split_is]; exact List.mem_map.mpr ⟨w, hw, rfl⟩) x hx)
theorem words_ok {t : Str} (h : PyData.strOk t = true) : ∀ w ∈ wordsS t, PyData.strOk w = true := fun w hw => split_ok h w (List.mem_filter.mp hw).1
theorem words_short {t : Str} : ∀ w ∈ wordsS t, w.length ≤ t.length := fun w hw => PyProof.Rows.part_short (x := t) (y := sp32) (a := w) (List.mem_filter.mp hw).1

section
variable {ws : List Str} {n : Int} {u : Unit} {r : Rf}
theorem readCount_1 (c : ws.take 1 = [countW]) (hn : numAt 1 ws 2 1 (10 ^ 30) = .ok n) (hu : endAt 1 ws 2 = .ok u) : readCount ws = .ok n := by
  unfold readCount; rw [if_pos c, hn]; dsimp only; rw [hu]
theorem readCount_2 (c : ws.take 1 = [countW]) (hn : numAt 1 ws 2 1 (10 ^ 30) = .ok n) (hu : endAt 1 ws 2 = .error r) : readCount ws = .error r := by
  unfold readCount; rw [if_pos c, hn]; dsimp only; rw [hu]
theorem readCount_3 (c : ws.take 1 = [countW]) (hn : numAt 1 ws 2 1 (10 ^ 30) = .error r) : readCount ws = .error r := by
  unfold readCount; rw [if_pos c, hn]
theorem readS_1 {t s : Str} {q : List Str} {es : List Ent} (h : Txt.split t nl10 = s :: q) (hn : readCount (wordsS s) = .ok n) (he : readRest n q 2 [] = .ok es) : readS t = .ok (n, es) := by
  unfold readS; rw [h]; dsimp only; rw [hn]; dsimp only; rw [he]
theorem readS_2 {t s : Str} {q : List Str} (h : Txt.split t nl10 = s :: q) (hn : readCount (wordsS s) = .ok n) (he : readRest n q 2 [] = .error r) : readS t = .error r := by
  unfold readS; rw [h]; dsimp only; rw [hn]; dsimp only; rw [he]
theorem readS_3 {t s : Str} {q : List Str} (h : Txt.split t nl10 = s :: q) (hn : readCount (wordsS s) = .error r) : readS t = .error r := by
  unfold readS; rw [h]; dsimp only; rw [hn]
theorem readRest_1 {s : Str} {q : List Str} {l : Int} {es : List Ent} (h : es.length = 12) : readRest n (s :: q) l es = .error (l, 1) := by
  unfold readRest; rw [if_pos h]
theorem readRest_2 {s : Str} {q : List Str} {l : Int} {es : List Ent} (h : es.length ≠ 12) (he : readEntry l (wordsS s) (leastOf es) n = .error r) : readRest n (s :: q) l es = .error r := by
  unfold readRest; rw [if_neg h, he]
theorem readRest_3 {s : Str} {q : List Str} {l : Int} {es : List Ent} {e : Ent} (h : es.length ≠ 12) (he : readEntry l (wordsS s) (leastOf es) n = .ok e) : readRest n (s :: q) l es = readRest n q (l + 1) (es ++ [e]) := by
  rw [readRest, if_neg h, he]
theorem leastOf_snoc {es : List Ent} {e : Ent} : leastOf (es ++ [e]) = e.1 := by
  unfold leastOf
  rw [List.getLast?_append]
  rfl
end
end SR

set_option Elab.async false
set_option linter.all false
set_option maxRecDepth 100000
set_option maxHeartbeats 4000000
/-! Rows written with further spaces. -/
namespace SR
open PySem PySem.NumText
/-- signs as they stand in rows: no line end, no other blank than the space -/
def PlainL (l : List Nat) : Prop := ∀ c ∈ l, c < 128 ∧ c ≠ 10 ∧ (Unicode.isSpace c = true → c = 32)
theorem space_low : ∀ c, c < 128 → (c = 32 ∨ c = 45 ∨ (48 ≤ c ∧ c ≤ 57) ∨ (97 ≤ c ∧ c ≤ 122)) → (Unicode.isSpace c = true → c = 32) := by decide +kernel
theorem plain_of {l : List Nat} (h : ∀ c ∈ l, c = 32 ∨ c = 45 ∨ (48 ≤ c ∧ c ≤ 57) ∨ (97 ≤ c ∧ c ≤ 122)) : PlainL l := fun c hc => by
  have := h c hc
  exact ⟨by omega, by omega, space_low c (by omega) this⟩
theorem plain_app {a b : List Nat} (ha : PlainL a) (hb : PlainL b) : PlainL (a ++ b) := fun c hc => (List.mem_append.mp hc).elim (ha c) (hb c)
theorem plain_rep (k : Nat) : PlainL (List.replicate k 32) := plain_of fun c hc => .inl (List.eq_of_mem_replicate hc)
theorem plain_Tx (n : Int) : PlainL (L (Tx n)) := plain_of fun c hc => (Tx_signs n c hc).elim (fun h => .inr (.inl h)) fun h => .inr (.inr (.inl h))
theorem plain_count : PlainL (L countW) := plain_of (by rw [L_countW]; decide)
theorem plain_sp : PlainL [32] := plain_rep 1
/-- a row: its words parted by one space each -/
structure RowS (row : Str) (ws : List Str) : Prop where
  sp : Txt.split row sp32 = ws
  wd : ∀ w ∈ ws, wordsL (L w) = [L w] ∧ PlainL (L w) ∧ w.length ≤ 32
  l3 : ws.length ≤ 3
theorem row_of {row : Str} {ws : List Str} (e : L row = glueL 32 (ws.map L)) (hne : ws ≠ []) (h : ∀ w ∈ ws, 32 ∉ L w ∧ L w ≠ [] ∧ PlainL (L w) ∧ w.length ≤ 32) (h3 : ws.length ≤ 3) : RowS row ws where
  sp := map_L_inj (by
    rw [show sp32 = ⟨#[32]⟩ from rfl, split_is, e, cut_glue (fun z => hne (List.map_eq_nil_iff.mp z))]
    intro p hp
    obtain ⟨q, hq, rfl⟩ := List.mem_map.mp hp
    exact (h q hq).1)
  wd := fun w hw => ⟨wordsL_word (h w hw).1 (h w hw).2.1, (h w hw).2.2⟩
  l3 := h3
theorem tx_word {n : Int} (h1 : -10 ^ 30 ≤ n) (h2 : n ≤ 10 ^ 30) : 32 ∉ L (Tx n) ∧ L (Tx n) ≠ [] ∧ PlainL (L (Tx n)) ∧ (Tx n).length ≤ 32 := ⟨Tx_no (by decide), Tx_ne n, plain_Tx n, Tx_small h1 h2⟩
theorem row_head {n : Int} (h1 : 1 ≤ n) (h2 : n ≤ 10 ^ 30) : RowS (headS n) [countW, Tx n] := by
  refine row_of (by rw [L_head, ← L_countW]; rfl) (by simp) (fun w hw => ?_) (by simp)
  rcases List.mem_cons.mp hw with rfl | hw
  · exact ⟨by rw [L_countW]; decide, by rw [L_countW]; decide, plain_count, by decide +kernel⟩
  · rw [List.mem_singleton.mp hw]; exact tx_word (by omega) h2
theorem row_line {n : Int} {e : Ent} (hn : n ≤ 10 ^ 30) (h1 : -10 ^ 30 ≤ e.1) (h2 : e.1 ≤ 10 ^ 30) (h3 : 1 ≤ e.2.1) (h4 : e.2.1 ≤ e.2.2) (h5 : e.2.2 ≤ n) : RowS (lineS e) [Tx e.1, Tx e.2.1, Tx e.2.2] := by
  refine row_of (by rw [L_line]; rfl) (by simp) (fun w hw => ?_) (by simp)
  rcases List.mem_cons.mp hw with rfl | hw
  · exact tx_word h1 h2
  rcases List.mem_cons.mp hw with rfl | hw
  · exact tx_word (by omega) (by omega)
  · rw [List.mem_singleton.mp hw]; exact tx_word (by omega) (by omega)
/-- what can be written behind A begins with a new word -/
def OpenL (A : List Nat) (ws : List (List Nat)) : Prop := ∀ x, wordsL (A ++ x) = ws ++ wordsL x
theorem open_sp (k : Nat) : OpenL (List.replicate k 32) [] := fun x => wordsL_sp x k
theorem OpenL.more {A : List Nat} {ws : List (List Nat)} (h : OpenL A ws) {w : List Nat} (hw : wordsL w = [w]) (k : Nat) : OpenL (A ++ w ++ List.replicate (k + 1) 32) (ws ++ [w]) := fun x => by
  rw [List.append_assoc, List.append_assoc, h, wordsL_mid, hw, List.append_assoc]
theorem OpenL.end_ {A : List Nat} {ws : List (List Nat)} (h : OpenL A ws) : wordsL A = ws := by
  have := h []
  rw [List.append_nil, wordsL_nil, List.append_nil] at this
  exact this
/-- the row as far as it is written: i words -/
structure LooseI (ws : List Str) (i : Nat) (y : Str) : Prop where
  op : OpenL (L y) ((ws.take i).map L)
  pl : PlainL (L y)
  ln : y.length ≤ 3 + i * 36
theorem LooseI.zero {ws : List Str} {y : Str} {k : Nat} (e : L y = List.replicate k 32) (hk : k ≤ 3) : LooseI ws 0 y where
  op := by rw [e]; exact open_sp k
  pl := by rw [e]; exact plain_rep k
  ln := by rw [← L_len, e, List.length_replicate]; omega
theorem LooseI.succ {ws : List Str} {i : Nat} {y w z : Str} {k : Nat} (h : LooseI ws i y) (hw : ws[i]? = some w) (o : wordsL (L w) = [L w] ∧ PlainL (L w) ∧ w.length ≤ 32) (e : L z = List.replicate (k + 1) 32) (hk : k ≤ 3) : LooseI ws (i + 1) (y ++ w ++ z) where
  op := by
    rw [L_app, L_app, e, List.take_add_one, hw, List.map_append]
    exact h.op.more o.1 k
  pl := by rw [L_app, L_app, e]; exact plain_app (plain_app h.pl o.2.1) (plain_rep _)
  ln := by
    have := h.ln
    have lz : z.length = k + 1 := by rw [← L_len, e, List.length_replicate]
    rw [Str.length_append, Str.length_append, lz]
    omega
/-- a row with the same words -/
structure LooseR (ws : List Str) (y : Str) : Prop where
  wd : wordsL (L y) = ws.map L
  pl : PlainL (L y)
  ln : y.length ≤ 200
theorem LooseI.full {ws : List Str} {y : Str} (h : LooseI ws ws.length y) (h3 : ws.length ≤ 3) : LooseR ws y where
  wd := by have := h.op.end_; rw [List.take_length] at this; exact this
  pl := h.pl
  ln := by have := h.ln; omega
theorem LooseR.strip {ws : List Str} {y : Str} (h : LooseR ws y) : LooseR ws (Txt.rstrip y) := by
  obtain ⟨t, e, ht⟩ := rstrip_is y
  refine ⟨by rw [rstrip_words fun c hc => (h.pl c hc).2.2]; exact h.wd, fun c hc => h.pl c (by rw [e]; exact List.mem_append_left _ hc), ?_⟩
  have a := congrArg List.length e
  rw [List.length_append] at a
  have b := L_len y
  have c := L_len (Txt.rstrip y)
  have d := h.ln
  omega
theorem LooseR.head {n : Int} {y : Str} (h : LooseR [countW, Tx n] y) : wordsS y = [countW, Tx n] := words_head h.wd
theorem LooseR.line {e : Ent} {y : Str} (h : LooseR [Tx e.1, Tx e.2.1, Tx e.2.2] y) : wordsS y = [Tx e.1, Tx e.2.1, Tx e.2.2] := words_line h.wd
theorem LooseR.no {ws : List Str} {y : Str} (h : LooseR ws y) : 10 ∉ L y := fun hc => (h.pl 10 hc).2.1 rfl
theorem LooseR.ok {ws : List Str} {y : Str} (h : LooseR ws y) : PyData.strOk y = true := strOk_of.mpr fun c hc => by have := (h.pl c hc).1; omega
/-- the words of the rows of a summary -/
def rowWs (n : Int) (es : List Ent) : List (List Str) := [countW, Tx n] :: es.map fun e => [Tx e.1, Tx e.2.1, Tx e.2.2]
theorem rows_row {n : Int} {es : List Ent} (hv : Valid n es) {i : Nat} {y : Str} (h : (rowsS n es)[i]? = some y) : ∃ ws, (rowWs n es)[i]? = some ws ∧ RowS y ws := by
  cases i with
  | zero =>
    cases h
    exact ⟨_, rfl, row_head hv.n1 hv.n2⟩
  | succ j =>
    have h' : (es.map lineS)[j]? = some y := h
    rw [List.getElem?_map] at h'
    cases e : es[j]? with
    | none => rw [e] at h'; cases h'
    | some x =>
      rw [e] at h'
      cases h'
      have hj : j < es.length := (List.getElem?_eq_some_iff.mp e).1
      have a := hv.ent j hj
      rw [vl_of e, lo_of e, hi_of e] at a
      exact ⟨_, by show (es.map _)[j]? = _; rw [List.getElem?_map, e]; rfl, row_line hv.n2 a.1 a.2.1 a.2.2.1 a.2.2.2.1 a.2.2.2.2⟩
/-- rows with the same words are read as the summary -/
theorem loose_reads {n : Int} {es : List Ent} (hv : Valid n es) {ys : List Str} (hl : ys.length = es.length + 1) (h : ∀ (i : Nat) (y : Str), ys[i]? = some y → ∃ ws, (rowWs n es)[i]? = some ws ∧ LooseR ws y) : readS (Txt.join nl10 ys) = .ok (n, es) := by
  cases ys with
  | nil => simp at hl
  | cons s r =>
    rw [List.length_cons] at hl
    have hno : ∀ y ∈ s :: r, 10 ∉ L y := fun y hy => by
      obtain ⟨i, hi⟩ := List.getElem?_of_mem hy
      obtain ⟨ws, _, lw⟩ := h i y hi
      exact lw.no
    refine readS_ok hv (s := s) (r := r) (split_join (by simp) hno) ?_ (by omega) fun i hi => ?_
    · obtain ⟨ws, e, lw⟩ := h 0 s rfl
      cases e
      exact lw.head
    · obtain ⟨ws, e, lw⟩ := h (i + 1) r[i] (by rw [List.getElem?_cons_succ, List.getElem?_eq_getElem hi])
      have e' : (es.map fun e => [Tx e.1, Tx e.2.1, Tx e.2.2])[i]? = some ws := e
      rw [List.getElem?_map, List.getElem?_eq_getElem (show i < es.length by omega)] at e'
      cases e'
      exact ⟨_, List.getElem?_eq_getElem (by omega), lw.line⟩
theorem joined_ok {ys : List Str} (h : ∀ y ∈ ys, PyData.strOk y = true) : PyData.strOk (Txt.join nl10 ys) = true := strOk_of.mpr fun c hc => by
  rw [show Txt.join nl10 ys = Str.join nl10 ys from txt_join 10 _, show nl10 = ⟨#[10]⟩ from rfl, L_join] at hc
  have key : ∀ ps : List (List Nat), (∀ p ∈ ps, ∀ x ∈ p, x < 0x110000) → ∀ x ∈ glueL 10 ps, x < 0x110000 := by
    intro ps
    induction ps with
    | nil => intro _ x hx; cases hx
    | cons p r ih =>
      intro hp x hx
      cases r with
      | nil => exact hp p (List.mem_cons_self ..) x hx
      | cons q s =>
        rw [glueL] at hx
        · rcases List.mem_append.mp hx with hx | hx
          · exact hp p (List.mem_cons_self ..) x hx
          rcases List.mem_cons.mp hx with rfl | hx
          · decide
          · exact ih (fun p' hp' => hp p' (List.mem_cons_of_mem _ hp')) x hx
        · intro z; cases z
  refine key _ (fun p hp => ?_) c hc
  obtain ⟨y, hy, rfl⟩ := List.mem_map.mp hp
  exact strOk_of.mp (h y hy)
open L2 in
theorem at_vs {xs : List L2.V} {r : Int} (h0 : 0 ≤ r) (h1 : r < xs.length) : ∃ v, atI xs r = some v ∧ v ∈ xs := by
  have hl : r.toNat < xs.length := by omega
  exact ⟨xs[r.toNat], at_of (j := r.toNat) (by omega) (List.getElem?_eq_getElem hl), List.getElem_mem hl⟩
end SR

set_option Elab.async false
set_option linter.all false
set_option maxRecDepth 100000
set_option maxHeartbeats 4000000
/-! Texts with a fault: where they are refused. -/
namespace SR
open PySem PySem.NumText
/-- the words of a line that is written with one space between them -/
theorem words_of {s : Str} {ls : List (List Nat)} (e : L s = glueL 32 ls) (h : ∀ w ∈ ls, 32 ∉ w ∧ w ≠ []) : wordsS s = ls.map mkS := map_L_inj (by
  rw [wordsS_is, e, wordsL_glue h, List.map_map]
  exact (List.map_id ls).symm.trans (List.map_congr_left fun w _ => (L_mk w).symm))
theorem numAt_none {line : Int} {ws : List Str} {k : Nat} {a b : Int} (h : ws[k - 1]? = none) : numAt line ws k a b = .error (line, (k : Int)) := by
  unfold numAt; rw [h]; rfl
theorem numAt_bad {line : Int} {ws : List Str} {k : Nat} {a b : Int} {w : Str} (h : ws[k - 1]? = some w) (hn : numS w = none) : numAt line ws k a b = .error (line, (k : Int)) := by
  unfold numAt; rw [h, Option.bind_some, hn]
theorem numAt_out {line : Int} {ws : List Str} {k : Nat} {a b n : Int} (h : ws[k - 1]? = some (Tx n)) (hn : n.natAbs < 10 ^ 31) (o : ¬ (a ≤ n ∧ n ≤ b)) : numAt line ws k a b = .error (line, (k : Int)) := by
  unfold numAt; rw [h, Option.bind_some, numS_Tx hn]; exact if_neg o
/-- a number with a nought before it is none -/
theorem num_zero {n : Int} (h : 0 ≤ n) (hs : n.natAbs < 10 ^ 30) : numS (mkS (48 :: L (Tx n))) = none := by
  refine numS_none fun k e => ?_
  obtain ⟨m, rfl⟩ := Int.eq_ofNat_of_zero_le h
  have eL := congrArg L e
  rw [L_mk, Tx_nat] at eL
  have hm : m < 10 ^ 30 := by simpa using hs
  have l1 := dg_len (m := m) (k := 30) (by decide) hm
  have hlen : (L (Tx k)).length ≤ 4300 := by rw [eL, List.length_cons]; omega
  have a := Tx_reads hlen
  have hd : AllDigits (48 :: dg m) := fun c hc => (List.mem_cons.mp hc).elim (fun z => by omega) (dg_all m c)
  have b := intText_digits (x := Tx k) (by rw [show (Tx k).cps.toList = 48 :: dg m from eL]; exact hd) (by rw [show (Tx k).cps.toList = 48 :: dg m from eL]; simp) (by rw [← L_len]; exact hlen)
  rw [show (Tx k).cps.toList = 48 :: dg m from eL] at b
  have e3 : digitsVal (48 :: dg m) = m := by rw [digitsVal_zero, dg_val]
  rw [e3, a] at b
  have : k = (m : Int) := Option.some.inj b
  subst this
  rw [Tx_nat] at eL
  have := congrArg List.length eL
  rw [List.length_cons] at this
  omega
section
variable {line least many : Int} {ws : List Str}
theorem entry_1 (h : numAt line ws 1 least (10 ^ 30) = .error (line, 1)) : readEntry line ws least many = .error (line, 1) := by
  unfold readEntry; rw [h]
theorem entry_2 {v : Int} (h1 : numAt line ws 1 least (10 ^ 30) = .ok v) (h : numAt line ws 2 1 many = .error (line, 2)) : readEntry line ws least many = .error (line, 2) := by
  unfold readEntry; rw [h1]; dsimp only; rw [h]
theorem entry_3 {v a : Int} (h1 : numAt line ws 1 least (10 ^ 30) = .ok v) (h2 : numAt line ws 2 1 many = .ok a) (h : numAt line ws 3 a many = .error (line, 3)) : readEntry line ws least many = .error (line, 3) := by
  unfold readEntry; rw [h1]; dsimp only; rw [h2]; dsimp only; rw [h]
theorem entry_4 {v a b : Int} (h1 : numAt line ws 1 least (10 ^ 30) = .ok v) (h2 : numAt line ws 2 1 many = .ok a) (h3 : numAt line ws 3 a many = .ok b) (h : 3 < ws.length) : readEntry line ws least many = .error (line, 4) := by
  unfold readEntry; rw [h1]; dsimp only; rw [h2]; dsimp only; rw [h3]; dsimp only
  unfold endAt
  rw [if_pos h]
  rfl
end
/-- rows as they stand ahead of a fault -/
theorem readRest_pre {many : Int} {es : List Ent} (hv : Valid many es) (r : List Str) : ∀ (ss : List Str) (k : Nat), k + ss.length ≤ es.length → (∀ i, (h : i < ss.length) → ∃ e, es[k + i]? = some e ∧ wordsS ss[i] = [Tx e.1, Tx e.2.1, Tx e.2.2]) → ∀ line : Int,
    readRest many (ss ++ r) line (es.take k) = readRest many r (line + (ss.length : Int)) (es.take (k + ss.length))
  | [], k, hk, _, line => by simp
  | s :: q, k, hk, hw, line => by
    rw [List.length_cons] at hk
    have hl := hv.len
    obtain ⟨e, he, ew⟩ := hw 0 (by simp)
    rw [Nat.add_zero] at he
    rw [List.getElem_cons_zero] at ew
    have hkl : k < es.length := by omega
    have hent := hv.ent k hkl
    rw [vl_of he, lo_of he, hi_of he] at hent
    obtain ⟨h1, h2, h3, h4, h5⟩ := hent
    have hle : -10 ^ 30 ≤ leastOf (es.take k) ∧ leastOf (es.take k) ≤ e.1 := by
      by_cases k0 : 0 < k
      · rw [leastOf_lt hkl k0]
        have a := hv.asc (k - 1) (by omega)
        rw [show k - 1 + 1 = k by omega, vl_of he] at a
        exact ⟨(hv.ent (k - 1) (by omega)).1, a⟩
      · have : k = 0 := by omega
        subst this
        exact ⟨Int.le_refl _, h1⟩
    rw [List.cons_append, readRest_3 (e := e) (by rw [List.length_take]; omega) (by rw [ew]; exact readEntry_ok hv.n2 hle.1 hle.2 h2 h3 h4 h5)]
    have et : es.take k ++ [e] = es.take (k + 1) := by rw [List.take_add_one, he]; rfl
    rw [et, readRest_pre hv r q (k + 1) (by omega) (fun i hi => ?_) (line + 1)]
    · rw [List.length_cons]
      congr 1
      · push_cast; omega
      · congr 1; omega
    · obtain ⟨e', h', w'⟩ := hw (i + 1) (by simp; omega)
      exact ⟨e', by rw [← h']; congr 1; omega, by rw [← w']; rfl⟩
/-- a text as rows, the head good -/
theorem readS_rows {n : Int} {es : List Ent} (hv : Valid n es) {r : List Str} (hr : ∀ y ∈ r, 10 ∉ L y) {f : Rf} (h : readRest n r 2 [] = .error f) : readS (Txt.join nl10 (headS n :: r)) = .error f := by
  refine readS_2 (s := headS n) (q := r) (split_join (by simp) fun y hy => ?_) (by rw [head_words]; exact readCount_ok hv.n1 hv.n2) h
  rcases List.mem_cons.mp hy with rfl | hy
  · exact head_no n
  · exact hr y hy
/-- a faulty head -/
theorem readS_head {s : Str} {r : List Str} (h0 : 10 ∉ L s) (hr : ∀ y ∈ r, 10 ∉ L y) {f : Rf} (h : readCount (wordsS s) = .error f) : readS (Txt.join nl10 (s :: r)) = .error f := by
  refine readS_3 (s := s) (q := r) (split_join (by simp) fun y hy => ?_) h
  rcases List.mem_cons.mp hy with rfl | hy
  · exact h0
  · exact hr y hy
theorem lines_pre {n : Int} {es : List Ent} {k : Nat} (hk : k ≤ es.length) : ∀ i, (h : i < ((es.map lineS).take k).length) → ∃ e, es[0 + i]? = some e ∧ wordsS ((es.map lineS).take k)[i] = [Tx e.1, Tx e.2.1, Tx e.2.2] := fun i hi => by
  rw [List.length_take, List.length_map] at hi
  refine ⟨es[i], by rw [Nat.zero_add]; exact List.getElem?_eq_getElem (by omega), ?_⟩
  rw [List.getElem_take, List.getElem_map]
  exact line_words _
/-- k good entries, then the rest -/
theorem rest_at {n : Int} {es : List Ent} (hv : Valid n es) {k : Nat} (hk : k ≤ es.length) (r : List Str) : readRest n ((es.map lineS).take k ++ r) 2 [] = readRest n r (2 + (k : Int)) (es.take k) := by
  have h := readRest_pre hv r ((es.map lineS).take k) 0 (by rw [List.length_take, List.length_map]; omega) (lines_pre (n := n) hk) 2
  rw [List.take_zero, List.length_take, List.length_map, Nat.min_eq_left hk, Nat.zero_add] at h
  exact h
theorem lines_no (es : List Ent) : ∀ y ∈ es.map lineS, 10 ∉ L y := fun y hy => by
  obtain ⟨e, _, rfl⟩ := List.mem_map.mp hy
  exact line_no e
/-- signs of a row that is short, and has no line end -/
structure FineS (s : Str) : Prop where
  pl : ∀ c ∈ L s, c < 128 ∧ c ≠ 10
  ln : s.length ≤ 200
theorem FineS.no {s : Str} (h : FineS s) : 10 ∉ L s := fun hc => (h.pl 10 hc).2 rfl
theorem FineS.ok {s : Str} (h : FineS s) : PyData.strOk s = true := strOk_of.mpr fun c hc => by have := (h.pl c hc).1; omega
/-- the row in the place of entry k is refused at a word -/
structure Flt (n : Int) (es : List Ent) (k : Nat) (s : Str) (w : Int) : Prop where
  fine : FineS s
  bad : ∀ line : Int, readEntry line (wordsS s) (leastOf (es.take k)) n = .error (line, w)
/-- the row in the place of the head is refused at a word -/
structure FltH (s : Str) (w : Int) : Prop where
  fine : FineS s
  bad : readCount (wordsS s) = .error (1, w)
theorem fine_line {n : Int} {es : List Ent} (hv : Valid n es) : ∀ y ∈ es.map lineS, FineS y := fun y hy => by
  obtain ⟨e, he, rfl⟩ := List.mem_map.mp hy
  obtain ⟨j, hj⟩ := List.getElem?_of_mem he
  refine ⟨fun c hc => ?_, by have := (line_len hv hj).1; omega⟩
  have hr := rows_row hv (i := j + 1) (y := lineS e) (by show (es.map lineS)[j]? = _; rw [List.getElem?_map, hj]; rfl)
  have h2 : ∀ c ∈ L (lineS e), c = 32 ∨ c = 45 ∨ (48 ≤ c ∧ c ≤ 57) := fun c hc => by
    rw [L_line] at hc
    rcases List.mem_append.mp hc with h | h
    · exact .inr (Tx_signs _ c h)
    rcases List.mem_cons.mp h with rfl | h
    · exact .inl rfl
    rcases List.mem_append.mp h with h | h
    · exact .inr (Tx_signs _ c h)
    rcases List.mem_cons.mp h with rfl | h
    · exact .inl rfl
    · exact .inr (Tx_signs _ c h)
  have := h2 c hc
  omega
theorem fine_head {n : Int} (h1 : 1 ≤ n) (h2 : n ≤ 10 ^ 30) : FineS (headS n) := by
  refine ⟨fun c hc => ?_, by have := head_len h1 h2; omega⟩
  rw [L_head] at hc
  rcases List.mem_append.mp hc with h | h
  · exact (show ∀ c ∈ [99, 111, 117, 110, 116], c < 128 ∧ c ≠ 10 by decide) c h
  rcases List.mem_cons.mp h with rfl | h
  · decide
  · have := Tx_signs n c h; omega
/-- an entry's row is refused: the text -/
theorem flt_text {n : Int} {es : List Ent} (hv : Valid n es) {k : Nat} (hk : k < es.length) {s : Str} {w : Int} (f : Flt n es k s w) :
    readS (Txt.join nl10 (headS n :: ((es.map lineS).take k ++ s :: (es.map lineS).drop (k + 1)))) = .error ((k : Int) + 2, w) := by
  refine readS_rows hv (fun y hy => ?_) ?_
  · rcases List.mem_append.mp hy with hy | hy
    · exact lines_no es y (List.mem_of_mem_take hy)
    rcases List.mem_cons.mp hy with rfl | hy
    · exact f.fine.no
    · exact lines_no es y (List.mem_of_mem_drop hy)
  · have hl := hv.len
    rw [rest_at hv (by omega), readRest_2 (by rw [List.length_take]; omega) (f.bad _), show 2 + (k : Int) = (k : Int) + 2 by omega]
/-- an empty line -/
theorem empty_text {n : Int} {es : List Ent} (hv : Valid n es) {k : Nat} (hk : k ≤ es.length) {s : Str} (hs : 10 ∉ L s) (hw : wordsS s = []) :
    readS (Txt.join nl10 (headS n :: ((es.map lineS).take k ++ s :: (es.map lineS).drop k))) = .error ((k : Int) + 2, 1) := by
  refine readS_rows hv (fun y hy => ?_) ?_
  · rcases List.mem_append.mp hy with hy | hy
    · exact lines_no es y (List.mem_of_mem_take hy)
    rcases List.mem_cons.mp hy with rfl | hy
    · exact hs
    · exact lines_no es y (List.mem_of_mem_drop hy)
  · have hl := hv.len
    rw [rest_at hv hk, show (k : Int) + 2 = 2 + (k : Int) by omega]
    by_cases c : (es.take k).length = 12
    · exact readRest_1 c
    · exact readRest_2 c (by rw [hw]; exact entry_1 (numAt_none rfl))
/-- entries too many -/
theorem many_text {n : Int} {es : List Ent} (hv : Valid n es) {v : Int} (h0 : leastOf es ≤ v) (h1 : v ≤ 10 ^ 30) {m : Nat} (hm : es.length + m = 12) {s : Str} (hs : 10 ∉ L s) :
    readS (Txt.join nl10 (headS n :: (es.map lineS ++ List.replicate m (lineS (v, 1, 1)) ++ [s]))) = .error (14, 1) := by
  have key : ∀ (m : Nat) (es : List Ent), Valid n es → leastOf es ≤ v → es.length + m ≤ 12 → Valid n (es ++ List.replicate m (v, 1, 1)) := by
    intro m
    induction m with
    | zero => intro es hv _ _; rw [List.replicate_zero, List.append_nil]; exact hv
    | succ m ih =>
      intro es hv h0 hl
      rw [List.replicate_succ, ← List.singleton_append, ← List.append_assoc]
      exact ih _ (hv.snoc (by omega) h0 h1 (Int.le_refl 1) (Int.le_refl 1) hv.n1) (by rw [leastOf_snoc]; exact Int.le_refl _) (by rw [List.length_append, List.length_singleton]; omega)
  have hv2 := key m es hv h0 (by omega)
  have el : es.map lineS ++ List.replicate m (lineS (v, 1, 1)) = (es ++ List.replicate m (v, 1, 1)).map lineS := by rw [List.map_append, List.map_replicate]
  refine readS_rows hv (fun y hy => ?_) ?_
  · rw [el] at hy
    rcases List.mem_append.mp hy with hy | hy
    · exact lines_no _ y hy
    · rw [List.mem_singleton.mp hy]; exact hs
  · rw [el]
    have hl : (es ++ List.replicate m (v, 1, 1)).length = 12 := by rw [List.length_append, List.length_replicate]; exact hm
    have h := rest_at hv2 (k := 12) (by omega) [s]
    rw [List.take_of_length_le (by rw [List.length_map]; omega), List.take_of_length_le (by omega)] at h
    rw [h]
    exact readRest_1 hl
end SR

set_option Elab.async false
set_option linter.all false
set_option maxRecDepth 100000
set_option maxHeartbeats 4000000
/-! Rows with one fault each. -/
namespace SR
open PySem PySem.NumText
def wd (w : List Nat) : Prop := 32 ∉ w ∧ w ≠ []
theorem wd_Tx (n : Int) : wd (L (Tx n)) := ⟨Tx_no (by decide), Tx_ne n⟩
section
variable {s : Str} {A B C D : List Nat}
theorem w1 (e : L s = A) (a : wd A) : wordsS s = [mkS A] := words_of (ls := [A]) e fun w hw => by rw [List.mem_singleton.mp hw]; exact a
theorem w2 (e : L s = A ++ 32 :: B) (a : wd A) (b : wd B) : wordsS s = [mkS A, mkS B] := words_of (ls := [A, B]) e fun w hw => by
  rcases List.mem_cons.mp hw with rfl | hw
  · exact a
  · rw [List.mem_singleton.mp hw]; exact b
theorem w3 (e : L s = A ++ 32 :: (B ++ 32 :: C)) (a : wd A) (b : wd B) (c : wd C) : wordsS s = [mkS A, mkS B, mkS C] := words_of (ls := [A, B, C]) e fun w hw => by
  rcases List.mem_cons.mp hw with rfl | hw
  · exact a
  rcases List.mem_cons.mp hw with rfl | hw
  · exact b
  · rw [List.mem_singleton.mp hw]; exact c
theorem w4 (e : L s = A ++ 32 :: (B ++ 32 :: (C ++ 32 :: D))) (a : wd A) (b : wd B) (c : wd C) (d : wd D) : wordsS s = [mkS A, mkS B, mkS C, mkS D] := words_of (ls := [A, B, C, D]) e fun w hw => by
  rcases List.mem_cons.mp hw with rfl | hw
  · exact a
  rcases List.mem_cons.mp hw with rfl | hw
  · exact b
  rcases List.mem_cons.mp hw with rfl | hw
  · exact c
  · rw [List.mem_singleton.mp hw]; exact d
theorem w0 (e : L s = []) : wordsS s = [] := map_L_inj (by rw [wordsS_is, e]; rfl)
end
def okC (l : List Nat) : Prop := ∀ c ∈ l, c < 128 ∧ c ≠ 10
theorem okC_app {a b : List Nat} (ha : okC a) (hb : okC b) : okC (a ++ b) := fun c hc => (List.mem_append.mp hc).elim (ha c) (hb c)
theorem okC_cons {a : Nat} {b : List Nat} (ha : a < 128 ∧ a ≠ 10) (hb : okC b) : okC (a :: b) := fun c hc => (List.mem_cons.mp hc).elim (fun e => e ▸ ha) (hb c)
theorem okC_Tx (n : Int) : okC (L (Tx n)) := fun c hc => by have := Tx_signs n c hc; omega
theorem len_Tx {n : Int} (h : n.natAbs < 10 ^ 31) : (L (Tx n)).length ≤ 32 := Tx_len h
theorem fine_of {s : Str} {l : List Nat} (e : L s = l) (h : okC l) (hl : l.length ≤ 200) : FineS s := ⟨by rw [e]; exact h, by rw [← L_len, e]; exact hl⟩
theorem nMk (n : Int) : mkS (L (Tx n)) = Tx n := mk_L _
/-- an entry and what stands before it -/
structure AtE (n : Int) (es : List Ent) (k : Nat) (e : Ent) : Prop where
  v0 : -10 ^ 30 ≤ e.1
  v1 : e.1 ≤ 10 ^ 30
  a1 : 1 ≤ e.2.1
  ab : e.2.1 ≤ e.2.2
  bn : e.2.2 ≤ n
  n2 : n ≤ 10 ^ 30
  lo : leastOf (es.take k) ≤ e.1
  l0 : -10 ^ 30 ≤ leastOf (es.take k)
theorem atE {n : Int} {es : List Ent} (hv : Valid n es) {k : Nat} {e : Ent} (h : es[k]? = some e) : AtE n es k e := by
  have hk : k < es.length := (List.getElem?_eq_some_iff.mp h).1
  have hent := hv.ent k hk
  rw [vl_of h, lo_of h, hi_of h] at hent
  have hle : -10 ^ 30 ≤ leastOf (es.take k) ∧ leastOf (es.take k) ≤ e.1 := by
    by_cases k0 : 0 < k
    · rw [leastOf_lt hk k0]
      have a := hv.asc (k - 1) (by omega)
      rw [show k - 1 + 1 = k by omega, vl_of h] at a
      exact ⟨(hv.ent (k - 1) (by omega)).1, a⟩
    · have : k = 0 := by omega
      subst this
      exact ⟨Int.le_refl _, hent.1⟩
  exact ⟨hent.1, hent.2.1, hent.2.2.1, hent.2.2.2.1, hent.2.2.2.2, hv.n2, hle.2, hle.1⟩
theorem big31 : (((10 : Int) ^ 30 + 1).natAbs) < 10 ^ 31 := by decide
section
variable {n : Int} {es : List Ent} {k : Nat} {e : Ent}
theorem f_v (A : AtE n es k e) {ws : List Str} {line : Int} (h : ws[0]? = some (Tx e.1)) : numAt line ws 1 (leastOf (es.take k)) (10 ^ 30) = .ok e.1 := numAt_ok h (small31 A.v0 A.v1) A.lo A.v1
theorem f_a (A : AtE n es k e) {ws : List Str} {line : Int} (h : ws[1]? = some (Tx e.2.1)) : numAt line ws 2 1 n = .ok e.2.1 := numAt_ok h (small31 (by have := A.a1; omega) (by have := A.ab; have := A.bn; have := A.n2; omega)) A.a1 (by have := A.ab; have := A.bn; omega)
theorem f_b (A : AtE n es k e) {ws : List Str} {line : Int} (h : ws[2]? = some (Tx e.2.2)) : numAt line ws 3 e.2.1 n = .ok e.2.2 := numAt_ok h (small31 (by have := A.a1; have := A.ab; omega) (by have := A.bn; have := A.n2; omega)) A.ab A.bn
theorem sN (A : AtE n es k e) : e.1.natAbs < 10 ^ 31 ∧ e.2.1.natAbs < 10 ^ 31 ∧ e.2.2.natAbs < 10 ^ 31 ∧ (n + 1).natAbs < 10 ^ 31 ∧ (e.2.1 - 1).natAbs < 10 ^ 31 := by
  have h0 := A.a1; have h1 := A.ab; have h2 := A.bn; have h3 := A.n2
  refine ⟨small31 A.v0 A.v1, small31 (by omega) (by omega), small31 (by omega) (by omega), ?_, small31 (by omega) (by omega)⟩
  have b : (10 : Int) ^ 30 + 1 < ((10 ^ 31 : Nat) : Int) := by decide
  omega
theorem flt1 : Flt n es k (Str.ofString "") 1 := ⟨fine_of (l := []) (by decide +kernel) (fun c hc => nomatch hc) (by decide), fun line => by rw [w0 (by decide +kernel)]; exact entry_1 (numAt_none rfl)⟩
theorem flt2 : Flt n es k (Str.ofString "x") 1 := ⟨fine_of (l := [120]) (by decide +kernel) (by unfold okC; decide) (by decide), fun line => by rw [w1 (A := [120]) (by decide +kernel) (by unfold wd; decide)]; exact entry_1 (numAt_bad rfl (by decide +kernel))⟩
theorem flt3 (A : AtE n es k e) : Flt n es k (Tx e.1) 2 := ⟨fine_of rfl (okC_Tx _) (by have := len_Tx (sN A).1; omega), fun line => by
  rw [w1 rfl (wd_Tx _), nMk]
  exact entry_2 (f_v A rfl) (numAt_none rfl)⟩
theorem L_spc : L (Str.ofString " ") = [32] := by decide +kernel
theorem flt4 (A : AtE n es k e) : Flt n es k (Tx e.1 ++ Str.ofString " " ++ Tx e.2.1) 3 := by
  have eL : L (Tx e.1 ++ Str.ofString " " ++ Tx e.2.1) = L (Tx e.1) ++ 32 :: L (Tx e.2.1) := by rw [L_app, L_app, L_spc]; simp
  obtain ⟨s1, s2, s3, s4, s5⟩ := sN A
  refine ⟨fine_of eL (okC_app (okC_Tx _) (okC_cons (by decide) (okC_Tx _))) (by have := len_Tx s1; have := len_Tx s2; rw [List.length_append, List.length_cons]; omega), fun line => ?_⟩
  rw [w2 eL (wd_Tx _) (wd_Tx _), nMk, nMk]
  exact entry_3 (f_v A rfl) (f_a A rfl) (numAt_none rfl)
/-- three words of which numbers are made -/
theorem three (x y z : Int) : L (Tx x ++ Str.ofString " " ++ Tx y ++ Str.ofString " " ++ Tx z) = L (Tx x) ++ 32 :: (L (Tx y) ++ 32 :: L (Tx z)) := by rw [L_app, L_app, L_app, L_app, L_spc]; simp
theorem fine3 {s : Str} {X Y Z : List Nat} (e : L s = X ++ 32 :: (Y ++ 32 :: Z)) (x : okC X) (y : okC Y) (z : okC Z) (lx : X.length ≤ 60) (ly : Y.length ≤ 60) (lz : Z.length ≤ 60) : FineS s :=
  fine_of e (okC_app x (okC_cons (by decide) (okC_app y (okC_cons (by decide) z)))) (by rw [List.length_append, List.length_cons, List.length_append, List.length_cons]; omega)
theorem l60 {n : Int} (h : n.natAbs < 10 ^ 31) : (L (Tx n)).length ≤ 60 := Nat.le_trans (len_Tx h) (by decide)
theorem flt5 (A : AtE n es k e) : Flt n es k (Tx e.1 ++ Str.ofString " " ++ Tx e.2.1 ++ Str.ofString " " ++ Tx e.2.2 ++ Str.ofString " 1") 4 := by
  have eL : L (Tx e.1 ++ Str.ofString " " ++ Tx e.2.1 ++ Str.ofString " " ++ Tx e.2.2 ++ Str.ofString " 1") = L (Tx e.1) ++ 32 :: (L (Tx e.2.1) ++ 32 :: (L (Tx e.2.2) ++ 32 :: [49])) := by
    rw [L_app, three, show L (Str.ofString " 1") = [32, 49] by decide +kernel]; simp
  obtain ⟨s1, s2, s3, s4, s5⟩ := sN A
  refine ⟨fine_of eL (okC_app (okC_Tx _) (okC_cons (by decide) (okC_app (okC_Tx _) (okC_cons (by decide) (okC_app (okC_Tx _) (by unfold okC; decide)))))) ?_, fun line => ?_⟩
  · have := len_Tx s1; have := len_Tx s2; have := len_Tx s3
    rw [List.length_append, List.length_cons, List.length_append, List.length_cons, List.length_append]
    simp only [List.length_cons, List.length_nil]
    omega
  rw [w4 eL (wd_Tx _) (wd_Tx _) (wd_Tx _) (by unfold wd; decide), nMk, nMk, nMk]
  exact entry_4 (f_v A rfl) (f_a A rfl) (f_b A rfl) (by simp)
theorem tx0 : mkS [48] = Tx 0 := by decide +kernel
theorem flt6 (A : AtE n es k e) : Flt n es k (Tx e.1 ++ Str.ofString " 0 " ++ Tx e.2.2) 2 := by
  have eL : L (Tx e.1 ++ Str.ofString " 0 " ++ Tx e.2.2) = L (Tx e.1) ++ 32 :: ([48] ++ 32 :: L (Tx e.2.2)) := by
    rw [L_app, L_app, show L (Str.ofString " 0 ") = [32, 48, 32] by decide +kernel]; simp
  obtain ⟨s1, s2, s3, s4, s5⟩ := sN A
  refine ⟨fine3 eL (okC_Tx _) (by unfold okC; decide) (okC_Tx _) (l60 s1) (by decide) (l60 s3), fun line => ?_⟩
  rw [w3 eL (wd_Tx _) (by unfold wd; decide) (wd_Tx _), nMk, nMk, tx0]
  exact entry_2 (f_v A rfl) (numAt_out (n := 0) rfl (by decide) (by omega))
theorem flt7 (A : AtE n es k e) : Flt n es k (Tx e.1 ++ Str.ofString " " ++ Tx e.2.1 ++ Str.ofString " " ++ Tx (e.2.1 - 1)) 3 := by
  obtain ⟨s1, s2, s3, s4, s5⟩ := sN A
  refine ⟨fine3 (three _ _ _) (okC_Tx _) (okC_Tx _) (okC_Tx _) (l60 s1) (l60 s2) (l60 s5), fun line => ?_⟩
  rw [w3 (three _ _ _) (wd_Tx _) (wd_Tx _) (wd_Tx _), nMk, nMk, nMk]
  exact entry_3 (f_v A rfl) (f_a A rfl) (numAt_out (n := e.2.1 - 1) rfl s5 (by omega))
theorem flt8 (A : AtE n es k e) : Flt n es k (Tx e.1 ++ Str.ofString " " ++ Tx (n + 1) ++ Str.ofString " " ++ Tx (n + 1)) 2 := by
  obtain ⟨s1, s2, s3, s4, s5⟩ := sN A
  refine ⟨fine3 (three _ _ _) (okC_Tx _) (okC_Tx _) (okC_Tx _) (l60 s1) (l60 s4) (l60 s4), fun line => ?_⟩
  rw [w3 (three _ _ _) (wd_Tx _) (wd_Tx _) (wd_Tx _), nMk, nMk]
  exact entry_2 (f_v A rfl) (numAt_out (n := n + 1) rfl s4 (by omega))
theorem flt9 (A : AtE n es k e) : Flt n es k (Tx e.1 ++ Str.ofString " " ++ Tx e.2.1 ++ Str.ofString " " ++ Tx (n + 1)) 3 := by
  obtain ⟨s1, s2, s3, s4, s5⟩ := sN A
  refine ⟨fine3 (three _ _ _) (okC_Tx _) (okC_Tx _) (okC_Tx _) (l60 s1) (l60 s2) (l60 s4), fun line => ?_⟩
  rw [w3 (three _ _ _) (wd_Tx _) (wd_Tx _) (wd_Tx _), nMk, nMk, nMk]
  exact entry_3 (f_v A rfl) (f_a A rfl) (numAt_out (n := n + 1) rfl s4 (by omega))
theorem flt10 (A : AtE n es k e) : Flt n es k (Tx (10 ^ 30 + 1) ++ Str.ofString " " ++ Tx e.2.1 ++ Str.ofString " " ++ Tx e.2.2) 1 := by
  obtain ⟨s1, s2, s3, s4, s5⟩ := sN A
  refine ⟨fine3 (three _ _ _) (okC_Tx _) (okC_Tx _) (okC_Tx _) (l60 big31) (l60 s2) (l60 s3), fun line => ?_⟩
  rw [w3 (three _ _ _) (wd_Tx _) (wd_Tx _) (wd_Tx _), nMk, nMk, nMk]
  exact entry_1 (numAt_out (n := 10 ^ 30 + 1) rfl big31 (by omega))
/-- a bad first word, written -/
theorem fltW (A : AtE n es k e) {s : Str} {B : List Nat} (eL : L s = B ++ 32 :: (L (Tx e.2.1) ++ 32 :: L (Tx e.2.2))) (b : okC B) (bl : B.length ≤ 60) (w : wd B) (h : numS (mkS B) = none) : Flt n es k s 1 := by
  obtain ⟨s1, s2, s3, s4, s5⟩ := sN A
  refine ⟨fine3 eL b (okC_Tx _) (okC_Tx _) bl (l60 s2) (l60 s3), fun line => ?_⟩
  rw [w3 eL w (wd_Tx _) (wd_Tx _)]
  exact entry_1 (numAt_bad rfl h)
theorem flt11 (A : AtE n es k e) : Flt n es k (Str.ofString "-0 " ++ Tx e.2.1 ++ Str.ofString " " ++ Tx e.2.2) 1 :=
  fltW A (B := [45, 48]) (by rw [L_app, L_app, L_app, L_spc, show L (Str.ofString "-0 ") = [45, 48, 32] by decide +kernel]; simp) (by unfold okC; decide) (by decide) (by unfold wd; decide) (by decide +kernel)
theorem flt12 (A : AtE n es k e) : Flt n es k (Str.ofString "+1 " ++ Tx e.2.1 ++ Str.ofString " " ++ Tx e.2.2) 1 :=
  fltW A (B := [43, 49]) (by rw [L_app, L_app, L_app, L_spc, show L (Str.ofString "+1 ") = [43, 49, 32] by decide +kernel]; simp) (by unfold okC; decide) (by decide) (by unfold wd; decide) (by decide +kernel)
theorem flt14 (A : AtE n es k e) : Flt n es k (Str.ofString "- " ++ Tx e.2.1 ++ Str.ofString " " ++ Tx e.2.2) 1 :=
  fltW A (B := [45]) (by rw [L_app, L_app, L_app, L_spc, show L (Str.ofString "- ") = [45, 32] by decide +kernel]; simp) (by unfold okC; decide) (by decide) (by unfold wd; decide) (by decide +kernel)
theorem small30 {n : Int} (h1 : 0 ≤ n) (h2 : n < 10 ^ 30) : n.natAbs < 10 ^ 30 := by
  have : ((n.natAbs : Nat) : Int) < ((10 ^ 30 : Nat) : Int) := by
    rw [show ((10 ^ 30 : Nat) : Int) = 10 ^ 30 by decide]
    omega
  omega
theorem num_zero' {n : Int} (h : 0 ≤ n) (hs : n ≤ 10 ^ 30) : numS (mkS (48 :: L (Tx n))) = none := by
  by_cases c : n < 10 ^ 30
  · exact num_zero h (small30 h c)
  · have : n = 10 ^ 30 := by omega
    subst this
    decide +kernel
theorem flt13 (A : AtE n es k e) : Flt n es k (Tx e.1 ++ Str.ofString " 0" ++ Tx e.2.1 ++ Str.ofString " " ++ Tx e.2.2) 2 := by
  have eL : L (Tx e.1 ++ Str.ofString " 0" ++ Tx e.2.1 ++ Str.ofString " " ++ Tx e.2.2) = L (Tx e.1) ++ 32 :: ((48 :: L (Tx e.2.1)) ++ 32 :: L (Tx e.2.2)) := by
    rw [L_app, L_app, L_app, L_app, L_spc, show L (Str.ofString " 0") = [32, 48] by decide +kernel]; simp
  obtain ⟨s1, s2, s3, s4, s5⟩ := sN A
  have wz : wd (48 :: L (Tx e.2.1)) := ⟨fun h => (List.mem_cons.mp h).elim (fun z => absurd z (by decide)) (Tx_no (by decide)), by simp⟩
  refine ⟨fine3 eL (okC_Tx _) (okC_cons (by decide) (okC_Tx _)) (okC_Tx _) (l60 s1) (by have := len_Tx s2; rw [List.length_cons]; omega) (l60 s3), fun line => ?_⟩
  rw [w3 eL (wd_Tx _) wz (wd_Tx _), nMk, nMk]
  exact entry_2 (f_v A rfl) (numAt_bad rfl (num_zero' (by have := A.a1; omega) (by have := A.ab; have := A.bn; have := A.n2; omega)))
theorem flt15 (A : AtE n es k e) (k0 : 0 < k) (hk : k < es.length) : Flt n es k (Tx (vl es (k - 1) - 1) ++ Str.ofString " " ++ Tx e.2.1 ++ Str.ofString " " ++ Tx e.2.2) 1 := by
  obtain ⟨s1, s2, s3, s4, s5⟩ := sN A
  have hl := leastOf_lt hk k0
  have h0 := A.l0
  have h1 := A.lo
  have h2 := A.v1
  have s6 : (vl es (k - 1) - 1).natAbs < 10 ^ 31 := by
    have b : (10 : Int) ^ 30 + 1 < ((10 ^ 31 : Nat) : Int) := by decide
    rw [hl] at h0 h1
    omega
  refine ⟨fine3 (three _ _ _) (okC_Tx _) (okC_Tx _) (okC_Tx _) (l60 s6) (l60 s2) (l60 s3), fun line => ?_⟩
  rw [w3 (three _ _ _) (wd_Tx _) (wd_Tx _) (wd_Tx _), nMk, nMk, nMk]
  exact entry_1 (numAt_out (n := vl es (k - 1) - 1) rfl s6 (by rw [hl]; omega))
end
/-! heads -/
section
variable {n : Int}
theorem head_1 {ws : List Str} (h : ws.take 1 ≠ [countW]) : readCount ws = .error (1, 1) := by
  unfold readCount; rw [if_neg h]
theorem head_2 {w : Str} (h : numS w = none) : readCount [countW, w] = .error (1, 2) := readCount_3 rfl (numAt_bad rfl h)
theorem head_2o {n : Int} (hn : n.natAbs < 10 ^ 31) (o : ¬ (1 ≤ n ∧ n ≤ 10 ^ 30)) : readCount [countW, Tx n] = .error (1, 2) := readCount_3 rfl (numAt_out rfl hn o)
theorem wd_count : wd (L countW) := by rw [L_countW]; unfold wd; decide
theorem okC_count : okC (L countW) := by rw [L_countW]; unfold okC; decide
theorem mk_count : mkS (L countW) = countW := mk_L _
/-- count and a word -/
theorem head2 {s : Str} {B : List Nat} {w : Int} (e : L s = L countW ++ 32 :: B) (b : okC B) (l : B.length ≤ 60) (wb : wd B) (h : readCount [countW, mkS B] = .error (1, w)) : FltH s w := by
  refine ⟨fine_of e (okC_app okC_count (okC_cons (by decide) b)) (by rw [List.length_append, List.length_cons, L_countW]; simp only [List.length_cons, List.length_nil]; omega), ?_⟩
  rw [w2 e wd_count wb, mk_count]
  exact h
theorem c6 : L (Str.ofString "count ") = L countW ++ [32] := by rw [L_count, L_countW]; rfl
theorem hd1 (h1 : 1 ≤ n) (h2 : n ≤ 10 ^ 30) : FltH (Str.ofString "counts " ++ Tx n) 1 := by
  have e : L (Str.ofString "counts " ++ Tx n) = [99, 111, 117, 110, 116, 115] ++ 32 :: L (Tx n) := by rw [L_app, show L (Str.ofString "counts ") = [99, 111, 117, 110, 116, 115, 32] by decide +kernel]; simp
  refine ⟨fine_of e (okC_app (by unfold okC; decide) (okC_cons (by decide) (okC_Tx _))) (by have := len_Tx (small31 (v := n) (by omega) h2); rw [List.length_append, List.length_cons]; simp only [List.length_cons, List.length_nil]; omega), ?_⟩
  rw [w2 e (by unfold wd; decide) (wd_Tx _)]
  exact head_1 (by
    show [mkS [99, 111, 117, 110, 116, 115]] ≠ [countW]
    decide +kernel)
theorem hd2 : FltH (Str.ofString "count") 2 := by
  refine ⟨fine_of (l := L countW) rfl okC_count (by rw [L_countW]; decide), ?_⟩
  rw [w1 (s := Str.ofString "count") (A := L countW) rfl wd_count, mk_count]
  exact readCount_3 rfl (numAt_none rfl)
theorem hd3 : FltH (Str.ofString "count 0") 2 := head2 (B := [48]) (by rw [L_countW]; decide +kernel) (by unfold okC; decide) (by decide) (by unfold wd; decide) (by rw [tx0]; exact head_2o (by decide) (by omega))
theorem hd4 : FltH (Str.ofString "count x") 2 := head2 (B := [120]) (by rw [L_countW]; decide +kernel) (by unfold okC; decide) (by decide) (by unfold wd; decide) (head_2 (by decide +kernel))
theorem hd5 (h1 : 1 ≤ n) (h2 : n ≤ 10 ^ 30) : FltH (Str.ofString "count " ++ Tx n ++ Str.ofString " 1") 3 := by
  have e : L (Str.ofString "count " ++ Tx n ++ Str.ofString " 1") = L countW ++ 32 :: (L (Tx n) ++ 32 :: [49]) := by rw [L_app, L_app, c6, show L (Str.ofString " 1") = [32, 49] by decide +kernel]; simp
  have hn := small31 (v := n) (by omega) h2
  refine ⟨fine3 e okC_count (okC_Tx _) (by unfold okC; decide) (by rw [L_countW]; decide) (l60 hn) (by decide), ?_⟩
  rw [w3 e wd_count (wd_Tx _) (by unfold wd; decide), mk_count, nMk]
  exact readCount_2 (n := n) rfl (numAt_ok rfl hn h1 h2) (by unfold endAt; rw [if_pos (by simp)]; rfl)
theorem hd6 : FltH (Str.ofString "") 1 := by
  refine ⟨fine_of (l := []) (by decide +kernel) (fun c hc => nomatch hc) (by decide), ?_⟩
  rw [w0 (by decide +kernel)]
  exact head_1 (by decide)
theorem hd7 : FltH (Str.ofString "count " ++ Tx (10 ^ 30 + 1)) 2 := head2 (B := L (Tx (10 ^ 30 + 1))) (by rw [L_app, c6]; simp) (okC_Tx _) (l60 big31) (wd_Tx _) (by rw [nMk]; exact head_2o big31 (by omega))
theorem hd8 (h1 : 1 ≤ n) (h2 : n ≤ 10 ^ 30) : FltH (Str.ofString "count 0" ++ Tx n) 2 :=
  head2 (B := 48 :: L (Tx n)) (by rw [L_app, L_countW, show L (Str.ofString "count 0") = [99, 111, 117, 110, 116, 32, 48] by decide +kernel]; simp) (okC_cons (by decide) (okC_Tx _))
    (by have := len_Tx (small31 (v := n) (by omega) h2); rw [List.length_cons]; omega) ⟨fun h => (List.mem_cons.mp h).elim (fun z => absurd z (by decide)) (Tx_no (by decide)), by simp⟩ (head_2 (num_zero' (by omega) h2))
theorem hd9 (h1 : 1 ≤ n) (h2 : n ≤ 10 ^ 30) : FltH (Tx n) 1 := by
  refine ⟨fine_of rfl (okC_Tx _) (by have := len_Tx (small31 (v := n) (by omega) h2); omega), ?_⟩
  rw [w1 rfl (wd_Tx _), nMk]
  refine head_1 fun z => ?_
  have e := congrArg L (List.cons.inj z).1
  rw [L_countW] at e
  have := Tx_signs n 99 (by rw [e]; exact List.mem_cons_self ..)
  omega
theorem hd10 : FltH (Str.ofString "count -1") 2 := head2 (B := [45, 49]) (by rw [L_countW]; decide +kernel) (by unfold okC; decide) (by decide) (by unfold wd; decide) (by
  rw [show mkS [45, 49] = Tx (-1) by decide +kernel]
  exact head_2o (by decide) (by omega))
end
end SR

set_option Elab.async false
set_option linter.all false
set_option maxRecDepth 100000
set_option maxHeartbeats 4000000
/-! The package's own defs: what is checked. -/
namespace SR
open PySem PySem.Spec PyProof.Rows L2
section
variable {P : Program} {w : World} {K : PySem.W.Frag} {mg : Str → Option Value} {base : Heap}
def spIsInt : Sp := fun vs H Q _ => ∃ i : Int, vs = [.int i] ∧ Q (.bl true) H
theorem sc_is_integer : FnScope ["value"] ["value"] (defScope s_is_integer) := ⟨rfl, rfl, rfl, by decide +kernel, rfl, by decide +kernel, by decide +kernel⟩
theorem ok_is_integer {f : Addr} {fd : FuncData} (F : Fun K "is_integer" "is_integer" s_is_integer f fd) (mi : mg "isinstance" = none) (mint : mg "int" = none) (mb : mg "bool" = none) : FnOk P w K mg base CX0 1 f fd ["value"] spIsInt := by
  refine F.ok sc_is_integer (fun vs H Q E h => ?_) (fun cdv A outer s H vs Q E hr h => ?_)
  · obtain ⟨i, rfl, _⟩ := h
    rfl
  · obtain ⟨i, rfl, k⟩ := h
    refine ⟨_, pss_one (ps_ret (pe_and (pe_callB call_isi (by rfl) mi (by decide +kernel) (pa_cons (pv 0) (pa_cons (pe_bltn (v := .ty "int") (by rfl) mint (by decide +kernel) rfl) pa_nil)))
      (pe_one (pe_not (pe_callB call_isi (by rfl) mi (by decide +kernel) (pa_cons (pv 0) (pa_cons (pe_bltn (v := .ty "bool") (by rfl) mb (by decide +kernel) rfl) pa_nil))))))), ?_⟩
    refine ⟨_, rfl, _, _, _, _, true, rfl, .ty _, .base (.int i), kit_ty (by decide +kernel), true, rfl, iteT ?_⟩
    refine ⟨_, rfl, _, _, _, _, false, rfl, .ty _, .base (.int i), kit_ty (by decide +kernel), false, rfl, ?_⟩
    exact k
def spBetween : Sp := fun vs H Q _ => ∃ v a b : Int, vs = [.int v, .int a, .int b] ∧ Q (.bl (decide (a ≤ v) && decide (v ≤ b))) H
theorem sc_is_between : FnScope ["value", "least", "greatest"] ["value", "least", "greatest"] (defScope s_is_between) := ⟨rfl, rfl, rfl, by decide +kernel, rfl, by decide +kernel, by decide +kernel⟩
theorem ok_is_between {f : Addr} {fd : FuncData} (F : Fun K "is_between" "is_between" s_is_between f fd) (D1 : Dn P w K mg base "is_integer" ["value"] 1 spIsInt) : FnOk P w K mg base CX0 2 f fd ["value", "least", "greatest"] spBetween := by
  refine F.ok sc_is_between (fun vs H Q E h => ?_) (fun cdv A outer s H vs Q E hr h => ?_)
  · obtain ⟨v, a, b, rfl, _⟩ := h
    rfl
  · obtain ⟨v, a, b, rfl, k⟩ := h
    have hr1 : Room 1 _ := hr.mono (by decide)
    refine ⟨_, pss_one (ps_ret (pe_and (pe_dn D1 hr1 (pa_cons (pv 0) pa_nil)) (pe_one (pe_chain op_le op_le (pv 1) (pv 0) (pv 2))))), ?_⟩
    refine ⟨_, rfl, v, rfl, true, rfl, iteT ?_⟩
    refine ⟨_, rfl, _, rfl, _, _, rfl, rfl, _, rfl, ?_⟩
    by_cases h1 : a ≤ v
    · rw [decide_eq_true h1] at k
      rw [if_pos (decide_eq_true h1)]
      exact ⟨_, rfl, _, _, rfl, rfl, k⟩
    · rw [decide_eq_false h1] at k
      rw [if_neg (by simp [h1])]
      exact k
end
end SR

set_option Elab.async false
set_option linter.all false
set_option maxRecDepth 100000
set_option maxHeartbeats 4000000
namespace SR
open PySem PySem.Spec PyProof.Rows L2
section
variable {P : Program} {w : World} {K : PySem.W.Frag} {mg : Str → Option Value} {base : Heap}
/-- an entry as it may stand in a summary of n -/
def EntOk (n : Int) (e : Ent) : Prop := -10 ^ 30 ≤ e.1 ∧ e.1 ≤ 10 ^ 30 ∧ 1 ≤ e.2.1 ∧ e.2.1 ≤ e.2.2 ∧ e.2.2 ≤ n
theorem Valid.at {n : Int} {es : List Ent} (v : Valid n es) {j : Nat} {e : Ent} (h : es[j]? = some e) : EntOk n e := by
  have hj : j < es.length := (List.getElem?_eq_some_iff.mp h).1
  have := v.ent j hj
  rw [vl_of h, lo_of h, hi_of h] at this
  exact this
def spIsValue : Sp := fun vs H Q _ => ∃ v : Int, vs = [.int v] ∧ Q (.bl (decide (-10 ^ 30 ≤ v) && decide (v ≤ 10 ^ 30))) H
theorem sc_is_value : FnScope ["thing"] ["thing"] (defScope s_is_value) := ⟨rfl, rfl, rfl, by decide +kernel, rfl, by decide +kernel, by decide +kernel⟩
theorem ok_is_value {f : Addr} {fd : FuncData} (F : Fun K "is_value" "is_value" s_is_value f fd) (D2 : Dn P w K mg base "is_between" ["value", "least", "greatest"] 2 spBetween) {tk : Tok} (gv : mg "GREATEST_VALUE" = some (.int (10 ^ 30) tk)) : FnOk P w K mg base CX0 3 f fd ["thing"] spIsValue := by
  refine F.ok sc_is_value (fun vs H Q E h => ?_) (fun cdv A outer s H vs Q E hr h => ?_)
  · obtain ⟨v, rfl, _⟩ := h
    rfl
  · obtain ⟨v, rfl, k⟩ := h
    have hr2 : Room 2 _ := hr.mono (by decide)
    exact ⟨_, pss_one (ps_ret (pe_dn D2 hr2 (pa_cons (pv 0) (pa_cons (pe_un un_neg (pe_gi gv)) (pa_cons (pe_gi gv) pa_nil))))), _, rfl, _, rfl, _, _, _, rfl, k⟩
def spIsEntry : Sp := fun vs H Q _ => ∃ (n : Int) (v : V) (e : Ent), vs = [.int n, v] ∧ EntV H v e ∧ EntOk n e ∧ Q (.bl true) H
theorem sc__is_entry : FnScope ["many", "thing", "value", "low", "high"] ["many", "thing"] (defScope s__is_entry) := ⟨rfl, rfl, rfl, by decide +kernel, rfl, by decide +kernel, by decide +kernel⟩
theorem ok__is_entry {f : Addr} {fd : FuncData} (F : Fun K "_is_entry" "_is_entry" s__is_entry f fd) (D2 : Dn P w K mg base "is_between" ["value", "least", "greatest"] 2 spBetween) (DV : Dn P w K mg base "is_value" ["thing"] 3 spIsValue)
    (mi : mg "isinstance" = none) (mt : mg "tuple" = none) (ml : mg "len" = none) : FnOk P w K mg base CX0 4 f fd ["many", "thing"] spIsEntry := by
  refine F.ok sc__is_entry (fun vs H Q E h => ?_) (fun cdv A outer s H vs Q E hr h => ?_)
  · obtain ⟨n, v, e, rfl, _⟩ := h
    rfl
  · obtain ⟨n, v, e, rfl, ⟨t, rfl, ht⟩, hok, k⟩ := h
    have hr2 : Room 2 _ := hr.mono (by decide)
    have hr3 : Room 3 _ := hr.mono (by decide)
    have nd := sc__is_entry.nd
    obtain ⟨h1, h2, h3, h4, h5⟩ := hok
    refine ⟨_, pss_cons (ps_if (PW.pt (pw_or (pt_not (pt_val (pe_callB call_isi (by rfl) mi (by decide +kernel) (pa_cons (pv 1) (pa_cons (pe_bltn (v := .ty "tuple") (by rfl) mt (by decide +kernel) rfl) pa_nil)))))
        (pw_or1 (pt_cmpR op_ne (pe_callB call_len_seq (by rfl) ml PySem.boot_len (pa_cons (pv 1) pa_nil)) pe_int (nomark _))))) (pss_one (ps_ret pe_bl)) pss_nil)
      (pss_cons (ps_asg (pv 1) (pg_tup rfl (pgs_cons (pg_name (i := 2) nd rfl (Or.inl rfl)) (pgs_cons (pg_name (i := 3) nd rfl (Or.inl rfl)) (pgs_cons (pg_name (i := 4) nd rfl (Or.inl rfl)) pgs_nil)))))
      (pss_one (ps_ret (pe_and (pe_dn DV hr3 (pa_cons (pv 2) pa_nil)) (pe_and (pe_dn D2 hr2 (pa_cons (pv 3) (pa_cons pe_int (pa_cons (pv 0) pa_nil)))) (pe_one (pe_dn D2 hr2 (pa_cons (pv 4) (pa_cons (pv 3) (pa_cons (pv 0) pa_nil))))))))))
      , ?_⟩
    refine ⟨_, rfl, _, _, _, _, true, rfl, .ty _, .base (.tup ht), kit_ty (by decide +kernel), true, rfl, iteF ?_⟩
    refine ⟨_, rfl, t, _, rfl, .inr (SqT.of ht), rfl, _, rfl, iteF ?_⟩
    refine ⟨_, rfl, t, _, rfl, SqT.of ht, rfl, _, _, rfl, _, _, rfl, _, _, rfl, rfl, ?_⟩
    refine ⟨_, rfl, _, rfl, ?_⟩
    rw [decide_eq_true (show -(10 : Int) ^ 30 ≤ e.1 from h1), decide_eq_true h2]
    refine ⟨_, rfl, iteT ?_⟩
    refine ⟨_, rfl, _, rfl, _, _, _, rfl, _, rfl, ?_⟩
    rw [decide_eq_true h3, decide_eq_true (show e.2.1 ≤ n by omega)]
    refine iteT ?_
    refine ⟨_, rfl, _, rfl, _, rfl, _, _, _, rfl, ?_⟩
    rw [decide_eq_true h4, decide_eq_true h5]
    exact k
def spCheck : Sp := fun vs H Q _ => ∃ (n : Int) (u : V) (es : List Ent), vs = [.int n, u] ∧ TupV H u es ∧ Valid n es ∧ ∀ H', Same H H' → Q .non H'
theorem sc__check_entries : FnScope ["many", "entries", "before", "index", "thing"] ["many", "entries"] (defScope s__check_entries) := ⟨rfl, rfl, rfl, by decide +kernel, rfl, by decide +kernel, by decide +kernel⟩
theorem ok__check_entries {f : Addr} {fd : FuncData} (F : Fun K "_check_entries" "_check_entries" s__check_entries f fd) (D3 : Dn P w K mg base "_is_entry" ["many", "thing"] 4 spIsEntry)
    (mi : mg "isinstance" = none) (mt : mg "tuple" = none) (ml : mg "len" = none) (me : mg "enumerate" = none) {tk tk2 : Tok} (gv : mg "GREATEST_VALUE" = some (.int (10 ^ 30) tk)) (gm : mg "MOST_ENTRIES" = some (.int 12 tk2)) : FnOk P w K mg base CX0 5 f fd ["many", "entries"] spCheck := by
  refine F.ok sc__check_entries (fun vs H Q E h => ?_) (fun cdv A outer s H vs Q E hr h => ?_)
  · obtain ⟨n, u, es, rfl, _⟩ := h
    rfl
  · obtain ⟨n, u, es, rfl, ⟨a, vs, rfl, ha, he⟩, hv, k⟩ := h
    have hr3 : Room 4 _ := hr.mono (by decide)
    have nd := sc__check_entries.nd
    have hl : vs.length = es.length := he.len
    refine ⟨_, pss_cons (ps_if (PW.pt (pw_or (pt_not (pt_val (pe_callB call_isi (by rfl) mi (by decide +kernel) (pa_cons (pv 1) (pa_cons (pe_bltn (v := .ty "tuple") (by rfl) mt (by decide +kernel) rfl) pa_nil)))))
        (pw_or1 (pt_cmpR op_gt (pe_callB call_len_seq (by rfl) ml PySem.boot_len (pa_cons (pv 1) pa_nil)) (pe_gi gm) (nomark _))))) (pss_one ps_never) pss_nil)
      (pss_cons (ps_set (i := 2) nd rfl (Or.inl rfl) (pe_un un_neg (pe_gi gv)))
      (pss_one (ps_for PassesOwn.never rfl (pi_enumT (by rfl) me (pa_cons (pv 1) pa_nil)) (pg_tup rfl (pgs_cons (pg_name (i := 3) nd rfl (Or.inl rfl)) (pgs_cons (pg_name (i := 4) nd rfl (Or.inl rfl)) pgs_nil)))
        (pss_cons (ps_if (PW.pt (pw_or (pt_not (pt_val (pe_dn D3 hr3 (pa_cons (pv 0) (pa_cons (pv 4) pa_nil))))) (pw_or1 (pt_cmpR op_lt (pe_ix ix_tup (pv 4) pe_int (fun _ _ => rfl)) (pv 2) (nomark _))))) (pss_one ps_never) pss_nil)
        (pss_one (ps_set (i := 2) nd rfl (Or.inl rfl) (pe_ix ix_tup (pv 4) pe_int (fun _ _ => rfl)))))))), ?_⟩
    refine ⟨_, rfl, _, _, _, _, true, rfl, .ty _, .base (.tup ha), kit_ty (by decide +kernel), true, rfl, iteF ?_⟩
    refine ⟨_, rfl, a, _, rfl, .inr (SqT.of ha), _, _, rfl, rfl, _, rfl, ?_⟩
    have h12 := hv.len
    rw [decide_eq_false (show ¬ (12 : Int) < (vs.length : Int) by omega)]
    refine iteF ?_
    refine ⟨_, rfl, ?_⟩
    refine ⟨_, rfl, a, vs, rfl, SqT.of ha, for_enumT (K := K) (a := a) (xs := vs) (fun i σ H' => ∃ (b : Int) (y3 y4 : Option V), σ = [some (.int n), some (.ref a), some (.int b), y3, y4] ∧ Same H H' ∧ (i < es.length → b ≤ vl es i))
      ⟨_, none, none, rfl, Same.refl H, fun h => (hv.ent 0 h).1⟩ (fun i σ H' ⟨_, _, _, _, s5, _⟩ => SqT.of (s5 _ _ ha)) ?_ ?_⟩
    · rintro i x T σ H' hx ⟨b, y3, y4, rfl, s5, hb⟩ hT
      obtain ⟨e, hei, t, rfl, ht⟩ := pr_at' he hx
      have s6 : Same H (upd H' T (.tup [.int (i : Nat), .ref t])) := Same_new2 s5 hT
      have ht6 := s6 _ _ ht
      have hil : i < es.length := (List.getElem?_eq_some_iff.mp hei).1
      refine ⟨T, _, rfl, SqT.of upd_same, rfl, _, _, rfl, _, _, rfl, rfl, ?_⟩
      refine ⟨_, rfl, _, rfl, n, .ref t, e, rfl, ⟨t, rfl, ht6⟩, hv.at hei, true, rfl, iteF ?_⟩
      have hvl := vl_of hei
      refine ⟨_, rfl, t, _, 0, _, rfl, rfl, SqT.of ht6, atI_nat (j := 0) rfl, _, rfl, _, _, rfl, rfl, _, rfl, ?_⟩
      have := hb hil
      rw [decide_eq_false (show ¬ e.1 < b by omega)]
      refine iteF ?_
      refine ⟨_, rfl, t, _, 0, _, rfl, rfl, SqT.of ht6, atI_nat (j := 0) rfl, ?_⟩
      refine ⟨_, _, _, rfl, s6, fun hi1 => ?_⟩
      rw [← hvl]
      exact hv.asc i hi1
    · rintro σ H' ⟨b, y3, y4, rfl, s5, _⟩
      exact k H' s5
end
end SR

set_option Elab.async false
set_option linter.all false
set_option maxRecDepth 100000
set_option maxHeartbeats 4000000
namespace SR
open PySem PySem.Spec PyProof.Rows L2
/-- an own class whose instances are asked by isinstance -/
structure IcX (K : PySem.W.Frag) (C : Addr) : Prop where
  cl : Cls K C
  ha : PySem.W.findIn K (.ref C) "__class__" = some (some (.builtin "object.__class__"))
  hn : PySem.W.specialIn K (.builtin "object.__class__") "__get__" = some (some (.builtin "getset_descriptor.__get__"))
  htk : PySem.W.takesIn K (.builtin "object.__class__") = some true
  hm : PySem.W.mroIn K C (.type "object") = some true
  me : PySem.W.kitOne K (.ref C) (.ref C) = some true
/-- the class Summary, as the top has made it -/
structure SumT (K : PySem.W.Frag) (mg : Str → Option Value) (C : Addr) : Prop where
  ic : IcX K C
  nM : NoAttr K C "_many"
  nE : NoAttr K C "_entries"
  g : mg "Summary" = some (.ref C)
  tup : PySem.W.kitOne K (.type "tuple") (.ref C) = some false
  nf1 : PySem.W.notFirst K C (.ref C) = true
  nf2 : PySem.W.notFirst K C (.type "tuple") = true
section
variable {P : Program} {w : World} {K : PySem.W.Frag} {mg : Str → Option Value} {base : Heap} {C : Addr}
theorem SumT.ty (T : SumT K mg C) {H : Hp} {p dx : Addr} {fs : List (Str × V)} (h : H p = some (.ins C dx fs)) : TyX K H (.ref p) (.ref C) := .base (.ins h T.ic.cl T.ic.ha T.ic.hn T.ic.htk T.ic.hm)
def spSumInit (C : Addr) : Sp := fun vs H Q _ => ∃ (p dx : Addr) (n : Int) (u : V) (es : List Ent), vs = [.ref p, .int n, u] ∧ H p = some (.ins C dx []) ∧ TupV H u es ∧ Valid n es ∧
  ∀ H', H' p = some (.ins C dx (sfl n u)) → (∀ b o, H b = some o → b ≠ p → H' b = some o) → Q .non H'
theorem sc_Summary_init : FnScope ["self", "many", "entries"] ["self", "many", "entries"] (defScope s_Summary_init) := ⟨rfl, rfl, rfl, by decide +kernel, rfl, by decide +kernel, by decide +kernel⟩
theorem ok_Summary_init {f : Addr} {fd : FuncData} (F : Fun K "__init__" "Summary.__init__" s_Summary_init f fd) (T : SumT K mg C) (D2 : Dn P w K mg base "is_between" ["value", "least", "greatest"] 2 spBetween) (D4 : Dn P w K mg base "_check_entries" ["many", "entries"] 5 spCheck)
    {tk : Tok} (gc : mg "GREATEST_COUNT" = some (.int (10 ^ 30) tk)) : FnOk P w K mg base CX0 6 f fd ["self", "many", "entries"] (spSumInit C) := by
  refine F.ok sc_Summary_init (fun vs H Q E h => ?_) (fun cdv A outer s H vs Q E hr h => ?_)
  · obtain ⟨p, dx, n, u, es, rfl, _⟩ := h
    rfl
  · obtain ⟨p, dx, n, u, es, rfl, hp, hu, hv, k⟩ := h
    have hr2 : Room 2 _ := hr.mono (by decide)
    have hr4 : Room 5 _ := hr.mono (by decide)
    refine ⟨_, pss_cons (ps_if (pt_not (pt_val (pe_dn D2 hr2 (pa_cons (pv 1) (pa_cons pe_int (pa_cons (pe_gi gc) pa_nil)))))) (pss_one ps_never) pss_nil)
      (pss_cons (ps_expr (pe_dn D4 hr4 (pa_cons (pv 1) (pa_cons (pv 2) pa_nil))))
      (pss_cons (ps_fld (pv 0) (pv 1) rfl) (pss_one (ps_fld (pv 0) (pv 2) rfl)))), ?_⟩
    refine ⟨_, rfl, _, _, _, rfl, _, rfl, ?_⟩
    rw [decide_eq_true hv.n1, decide_eq_true hv.n2]
    refine iteF ?_
    refine ⟨_, rfl, _, rfl, n, u, es, rfl, hu, hv, fun H1 s1 => ?_⟩
    refine ⟨_, rfl, _, rfl, p, C, dx, [], rfl, s1 _ _ hp, T.ic.cl, T.nM, (by show 0 < 1000; decide), _, rfl, _, rfl, p, C, dx, _, rfl, upd_same, T.ic.cl, T.nE, (by show 1 < 1000; decide), ?_⟩
    refine k _ upd_same fun b o e hb => ?_
    rw [upd_ne hb, upd_ne hb]
    exact s1 _ _ e
theorem sc_Summary_many : FnScope ["self"] ["self"] (defScope s_Summary_many) := ⟨rfl, rfl, rfl, by decide +kernel, rfl, by decide +kernel, by decide +kernel⟩
theorem ok_Summary_many {f : Addr} {fd : FuncData} (F : Fun K "many" "Summary.many" s_Summary_many f fd) (T : SumT K mg C) : FnOk P w K mg base CX0 1 f fd ["self"] (getSp C "_many") := by
  refine F.ok sc_Summary_many (fun vs H Q E h => ?_) (fun cdv A outer s H vs Q E hr h => ?_)
  · obtain ⟨a, dx, fs, v, rfl, _⟩ := h
    rfl
  · obtain ⟨a, dx, fs, v, rfl, ha, hl, k⟩ := h
    exact ⟨_, pss_one (ps_ret (pe_fld (pv 0) rfl)), _, rfl, a, C, dx, fs, v, rfl, ha, T.ic.cl, T.nM, hl, k⟩
theorem sc_Summary_entries : FnScope ["self"] ["self"] (defScope s_Summary_entries) := ⟨rfl, rfl, rfl, by decide +kernel, rfl, by decide +kernel, by decide +kernel⟩
theorem ok_Summary_entries {f : Addr} {fd : FuncData} (F : Fun K "entries" "Summary.entries" s_Summary_entries f fd) (T : SumT K mg C) : FnOk P w K mg base CX0 1 f fd ["self"] (getSp C "_entries") := by
  refine F.ok sc_Summary_entries (fun vs H Q E h => ?_) (fun cdv A outer s H vs Q E hr h => ?_)
  · obtain ⟨a, dx, fs, v, rfl, _⟩ := h
    rfl
  · obtain ⟨a, dx, fs, v, rfl, ha, hl, k⟩ := h
    exact ⟨_, pss_one (ps_ret (pe_fld (pv 0) rfl)), _, rfl, a, C, dx, fs, v, rfl, ha, T.ic.cl, T.nE, hl, k⟩
def spSumLen (C : Addr) : Sp := fun vs H Q _ => ∃ (v : V) (n : Int) (es : List Ent), vs = [v] ∧ SumV C H v n es ∧ Q (.int es.length) H
theorem sc_Summary_len : FnScope ["self"] ["self"] (defScope s_Summary_len) := ⟨rfl, rfl, rfl, by decide +kernel, rfl, by decide +kernel, by decide +kernel⟩
theorem ok_Summary_len {f : Addr} {fd : FuncData} (F : Fun K "__len__" "Summary.__len__" s_Summary_len f fd) (T : SumT K mg C) (ml : mg "len" = none) : FnOk P w K mg base CX0 1 f fd ["self"] (spSumLen C) := by
  refine F.ok sc_Summary_len (fun vs H Q E h => ?_) (fun cdv A outer s H vs Q E hr h => ?_)
  · obtain ⟨v, n, es, rfl, _⟩ := h
    rfl
  · obtain ⟨v, n, es, rfl, ⟨p, dx, u, rfl, hp, a, vs, rfl, ha, he⟩, k⟩ := h
    refine ⟨_, pss_one (ps_ret (pe_callB call_len_seq (by rfl) ml PySem.boot_len (pa_cons (pe_fld (pv 0) rfl) pa_nil))), ?_⟩
    refine ⟨_, rfl, p, C, dx, _, _, rfl, hp, T.ic.cl, T.nE, sfl_entries _ _, a, vs, rfl, .inr (SqT.of ha), ?_⟩
    rw [he.len]
    exact k
/-- self == other: other a Summary, or of another kind -/
def spSumEq (K : PySem.W.Frag) (C : Addr) : Sp := fun vs H Q _ => ∃ (v y : V) (n : Int) (es : List Ent), vs = [v, y] ∧ SumV C H v n es ∧
  ((∃ t, TyX K H y t ∧ PySem.W.kitOne K t (.ref C) = some false ∧ Q (.bl false) H) ∨ ∃ n2 es2, SumV C H y n2 es2 ∧ Q (.bl (decide (n = n2) && decide (es = es2))) H)
theorem sc_Summary_eq : FnScope ["self", "other"] ["self", "other"] (defScope s_Summary_eq) := ⟨rfl, rfl, rfl, by decide +kernel, rfl, by decide +kernel, by decide +kernel⟩
theorem ok_Summary_eq {f : Addr} {fd : FuncData} (F : Fun K "__eq__" "Summary.__eq__" s_Summary_eq f fd) (T : SumT K mg C) (mi : mg "isinstance" = none) : FnOk P w K mg base CX0 1 f fd ["self", "other"] (spSumEq K C) := by
  refine F.ok sc_Summary_eq (fun vs H Q E h => ?_) (fun cdv A outer s H vs Q E hr h => ?_)
  · obtain ⟨v, y, n, es, rfl, _⟩ := h
    rfl
  · obtain ⟨v, y, n, es, rfl, ⟨p, dx, u, rfl, hp, hu⟩, k⟩ := h
    refine ⟨_, pss_one (ps_ret (pe_and (pe_callB call_isi (by rfl) mi (by decide +kernel) (pa_cons (pv 1) (pa_cons (pe_glob (v := .ref C) rfl T.g rfl) pa_nil)))
      (pe_and (pe_cmpR op_eq (pe_fld (pv 0) rfl) (pe_fld (pv 1) rfl) (nomark _)) (pe_one (pe_cmpR (op_eqD hr.units) (pe_fld (pv 0) rfl) (pe_fld (pv 1) rfl) (nomark _)))))), ?_⟩
    rcases k with ⟨t, ty, hk, q⟩ | ⟨n2, es2, ⟨p2, dx2, u2, rfl, hp2, hu2⟩, q⟩
    · exact ⟨_, rfl, _, _, _, _, false, rfl, .own C, ty, hk, false, rfl, iteF q⟩
    · refine ⟨_, rfl, _, _, _, _, true, rfl, .own C, T.ty hp2, T.ic.me, true, rfl, iteT ?_⟩
      refine ⟨_, rfl, p, C, dx, _, _, rfl, hp, T.ic.cl, T.nM, sfl_many _ _, _, rfl, p2, C, dx2, _, _, rfl, hp2, T.ic.cl, T.nM, sfl_many _ _, rfl, _, rfl, ?_⟩
      refine ite2 (fun e => ?_) (fun e => ?_)
      · have e1 : n = n2 := V.int.inj (of_decide_eq_true e)
        subst e1
        refine ⟨_, rfl, p, C, dx, _, _, rfl, hp, T.ic.cl, T.nE, sfl_entries _ _, _, rfl, p2, C, dx2, _, _, rfl, hp2, T.ic.cl, T.nE, sfl_entries _ _, _, _, hu.dp, hu2.dp, shaped_ents _, shaped_ents _, ?_⟩
        rw [eqv_ents]
        rw [decide_eq_true rfl, Bool.true_and] at q
        exact q
      · have e1 : ¬ n = n2 := fun z => e (decide_eq_true (by rw [z]))
        rw [decide_eq_false e1, Bool.false_and] at q
        exact q
end
end SR

set_option Elab.async false
set_option linter.all false
set_option maxRecDepth 100000
set_option maxHeartbeats 4000000
namespace SR
open PySem PySem.Spec PyProof.Rows L2
section
variable {P : Program} {w : World} {K : PySem.W.Frag} {mg : Str → Option Value} {base : Heap} {C : Addr}
/-- a property under its name -/
def Pr (P : Program) (w : World) (K : PySem.W.Frag) (mg : Str → Option Value) (base : Heap) (C : Addr) (f : Str) (k : Nat) (sp : Sp) : Prop := ∃ p g fd, PropOf K C f p g ∧ FnOk P w K mg base CX0 k g fd ["self"] sp ∧ Binds K fd ["self"] []
theorem pe_pr {X : Cx} {f : Str} {k : Nat} {sp : Sp} {e : Expr} {ta : TE} {pos : Pos} (D : Pr X.prog X.w X.K X.mg X.base C f k sp) (c : Cls X.K C) (hr : Room (k + 1) X.A) (he : PE X e ta) (hab : attributeBase e f X.env (eval e X.env) = eval e X.env := by rfl) : PE X (.Attribute e f pos) (tProp C sp [] E0 ta) := by
  obtain ⟨p, g, fd, hp, F, b⟩ := D
  exact pe_prop he c hp F hr b .nil pass0 hab
/-- Summary(..) -/
def DnMk (P : Program) (w : World) (K : PySem.W.Frag) (mg : Str → Option Value) (base : Heap) (C : Addr) : Prop := ∃ fI fd, Mk K C fI ∧ FnOk P w K mg base CX0 6 fI fd ["self", "many", "entries"] (spSumInit C) ∧ Binds K fd ["self", "many", "entries"] []
theorem pe_mkS {X : Cx} {e : Expr} {es : List Expr} {t : TA} {p pos : Pos} (D : DnMk X.prog X.w X.K X.mg X.base C) (T : SumT X.K X.mg C) (hr : Room 7 X.A) (ha : PA X (e :: es) t) (hg : Gl X "Summary" := by rfl)
    (he : starEach (e :: es) X.env = (false, eval e X.env) :: starEach es X.env := by rfl) (hpl : (backTo pos (starEach es X.env)).any (·.1) = false := by rfl) :
    PE X (.Call (.Name "Summary" p) (e :: es) [] pos) (tMake C (spSumInit C) [] E0 t) := by
  obtain ⟨fI, fd, M, F, b⟩ := D
  exact pe_make M F hr hg T.g b .nil pass0 ha (by decide) he hpl
theorem sum_made {H1 : Hp} {n : Int} {u : V} {es : List Ent} {Q : VK} (hu : TupV H1 u es) (hv : Valid n es) (k : ∀ x H', H1 x = none → Same H1 H' → SumV C H' (.ref x) n es → Q (.ref x) H') : ∀ x dx, H1 x = none → H1 dx = none → dx ≠ x →
    spSumInit C (.ref x :: ([.int n, u] ++ [])) (upd (upd H1 dx (.own x)) x (.ins C dx [])) (fun v H2 => v = .non ∧ Q (.ref x) H2) E0 := fun x dx nx nd ne => by
  have s0 : Same H1 (upd (upd H1 dx (.own x)) x (.ins C dx [])) := fun b o e => by
    rw [upd_ne (ne_of_none e nx), upd_ne (ne_of_none e nd)]
    exact e
  refine ⟨x, dx, n, u, es, rfl, upd_same, hu.mono s0, hv, fun H' hx kp => ⟨rfl, ?_⟩⟩
  have s1 : Same H1 H' := fun b o e => kp b o (s0 b o e) (ne_of_none e nx)
  exact k x H' nx s1 ⟨x, dx, u, rfl, hx, hu.mono s1⟩
theorem sum_mk {H1 : Hp} {n : Int} {u : V} {es : List Ent} {x dx : Addr} {R : Hp → Prop} (hu : TupV H1 u es) (hv : Valid n es) (nx : H1 x = none) (nd : H1 dx = none) (ne : dx ≠ x) (k : ∀ H', Same H1 H' → SumV C H' (.ref x) n es → R H') :
    spSumInit C (.ref x :: ([.int n, u] ++ [])) (upd (upd H1 dx (.own x)) x (.ins C dx [])) (fun v H2 => v = .non ∧ R H2) E0 := by
  have s0 : Same H1 (upd (upd H1 dx (.own x)) x (.ins C dx [])) := fun b o e => by
    rw [upd_ne (ne_of_none e nx), upd_ne (ne_of_none e nd)]
    exact e
  refine ⟨x, dx, n, u, es, rfl, upd_same, hu.mono s0, hv, fun H' hx kp => ⟨rfl, ?_⟩⟩
  have s1 : Same H1 H' := fun b o e => kp b o (s0 b o e) (ne_of_none e nx)
  exact k H' s1 ⟨x, dx, u, rfl, hx, hu.mono s1⟩
end
end SR

set_option Elab.async false
set_option linter.all false
set_option maxRecDepth 100000
set_option maxHeartbeats 4000000
namespace SR
open PySem PySem.Spec PyProof.Rows L2
section
variable {P : Program} {w : World} {K : PySem.W.Frag} {mg : Str → Option Value} {base : Heap} {C : Addr}
def spCkSum (C : Addr) : Sp := fun vs H Q _ => ∃ (v : V) (n : Int) (es : List Ent), vs = [v] ∧ SumV C H v n es ∧ Q .non H
theorem sc_check_summary : FnScope ["summary"] ["summary"] (defScope s_check_summary) := ⟨rfl, rfl, rfl, by decide +kernel, rfl, by decide +kernel, by decide +kernel⟩
theorem ok_check_summary {f : Addr} {fd : FuncData} (F : Fun K "check_summary" "check_summary" s_check_summary f fd) (T : SumT K mg C) (mi : mg "isinstance" = none) : FnOk P w K mg base CX0 1 f fd ["summary"] (spCkSum C) := by
  refine F.ok sc_check_summary (fun vs H Q E h => ?_) (fun cdv A outer s H vs Q E hr h => ?_)
  · obtain ⟨v, n, es, rfl, _⟩ := h
    rfl
  · obtain ⟨v, n, es, rfl, ⟨p, dx, u, rfl, hp, _⟩, k⟩ := h
    refine ⟨_, pss_one (ps_if (pt_not (pt_val (pe_callB call_isi (by rfl) mi (by decide +kernel) (pa_cons (pv 0) (pa_cons (pe_glob (v := .ref C) rfl T.g rfl) pa_nil))))) (pss_one ps_never) pss_nil), ?_⟩
    exact ⟨_, rfl, _, _, _, _, true, rfl, .own C, T.ty hp, T.ic.me, true, rfl, iteF k⟩
end
end SR

set_option Elab.async false
set_option linter.all false
set_option maxRecDepth 100000
set_option maxHeartbeats 4000000
namespace SR
open PySem PySem.Spec PyProof.Rows L2
section
variable {P : Program} {w : World} {K : PySem.W.Frag} {mg : Str → Option Value} {base : Heap} {C : Addr}
def DEq (P : Program) (w : World) (K : PySem.W.Frag) (mg : Str → Option Value) (base : Heap) (C : Addr) : Prop := ∃ f fd, FnOk P w K mg base CX0 1 f fd ["self", "other"] (spSumEq K C) ∧ PySem.W.findIn K (.ref C) "__eq__" = some (some (.ref f)) ∧ PySem.W.isFn K (.ref f) = true ∧ Binds K fd ["self", "other"] []
/-- == of a summary and another one -/
theorem eq_sum {H : Hp} {v y : V} {n n2 : Int} {es es2 : List Ent} {Q : VK} (T : SumT K mg C) (h1 : SumV C H v n es) (h2 : SumV C H y n2 es2) (q : Q (.bl (decide (n = n2) && decide (es = es2))) H) : rEqO K C (spSumEq K C) E0 v y H Q := by
  obtain ⟨p, dx, u, rfl, hp, hu⟩ := id h1
  obtain ⟨p2, dx2, u2, rfl, hp2, hu2⟩ := id h2
  exact ⟨p, dx, _, _, rfl, hp, T.ty hp2, T.nf1, _, _, n, es, rfl, h1, .inr ⟨n2, es2, h2, q⟩⟩
end
end SR

set_option Elab.async false
set_option linter.all false
set_option maxRecDepth 100000
set_option maxHeartbeats 4000000
namespace SR
open PySem PySem.Spec PyProof.Rows L2
section
variable {P : Program} {w : World} {K : PySem.W.Frag} {mg : Str → Option Value} {base : Heap} {C : Addr}
def spMix (K : PySem.W.Frag) : Sp := fun vs H Q _ => ∃ (a : Addr) (ns : List Int) (seed : Int), vs = [.ref a, .int seed] ∧ SqL K H a (ns.map V.int) ∧ ns.length ≤ 63 ∧ 0 ≤ seed ∧ seed < 2147483647 ∧
  ∀ H' p c, Same H H' → H p = none → H c = none → DrawAt H' p c → Q (.ref p) H'
theorem sc__law_mix : FnScope ["_law_script", "_law_seed", "_law_state", "_law_cell"] ["_law_script", "_law_seed"] (defScope s__law_mix) := ⟨rfl, rfl, rfl, by decide +kernel, rfl, by decide +kernel, by decide +kernel⟩
theorem ok__law_mix {f : Addr} {fd : FuncData} (F : Fun K "_law_mix" "_law_mix" s__law_mix f fd) (mint : mg "int" = none) (mlist : mg "list" = none) : FnOk P w K mg base CX0 1 f fd ["_law_script", "_law_seed"] (spMix K) := by
  refine F.ok sc__law_mix (fun vs H Q E h => ?_) (fun cdv A outer s H vs Q E hr h => ?_)
  · obtain ⟨a, ns, seed, rfl, _⟩ := h
    rfl
  · obtain ⟨a, ns, seed, rfl, hS, h63, h0, h1, k⟩ := h
    have nd := sc__law_mix.nd
    refine ⟨_, pss_cons (ps_set (i := 2) nd rfl (Or.inl rfl) (pv 1))
      (pss_cons (ps_for PassesOwn.never rfl (pi_list (pv 0)) (pg_name (i := 3) nd rfl (Or.inl rfl))
        (pss_one (ps_set (i := 2) nd rfl (Or.inl rfl) (pe_op op_mod (pe_callTy call_int1 (by rfl) mint (by decide +kernel) (pa_cons (pe_op op_add (pe_op op_add (pe_op op_mul (pv 2) pe_int)
          (pe_op op_mod (pe_callTy call_int1 (by rfl) mint (by decide +kernel) (pa_cons (pv 3) pa_nil)) pe_int)) pe_int) pa_nil)) pe_int))))
      (pss_one (ps_ret (pe_lst (pa_cons (pv 2) (pa_cons (pe_callTy call_list_of (by rfl) mlist (by decide +kernel) (pa_cons (pv 0) pa_nil)) (pa_cons pe_int pa_nil))))))), ?_⟩
    refine ⟨_, rfl, _, rfl, a, rfl, ⟨_, hS⟩, for_list (K := K) (a := a) (xs := ns.map V.int) (fun i σ H' => ∃ (s : Int) (y : Option V), σ = [some (.ref a), some (.int seed), some (.int s), y] ∧ H' = H ∧ 0 ≤ s ∧ s < 2147483647)
      ⟨seed, none, rfl, rfl, h0, h1⟩ (fun i σ H' _ ⟨_, _, _, e, _⟩ => by rw [e]; exact hS) ?_ ?_⟩
    · rintro i x σ H' hi ⟨s, y, rfl, rfl, hs0, hs1⟩
      obtain ⟨z, rfl⟩ : ∃ z, x = V.int z := by
        rw [List.getElem?_map] at hi
        cases e : ns[i]? with
        | none => rw [e] at hi; cases hi
        | some z => rw [e] at hi; exact ⟨z, (Option.some.inj hi).symm⟩
      refine ⟨_, rfl, _, _, rfl, rfl, .inl ⟨by omega, by omega⟩, _, rfl, .inl ⟨_, rfl, _, _, rfl, rfl, (by show (0 : Int) < 2147483629; decide), _, _, rfl, rfl, _, _, rfl, rfl, .inl ⟨_, rfl, _, _, rfl, rfl, (by show (0 : Int) < 2147483647; decide), ?_⟩⟩⟩
      exact ⟨_, _, rfl, rfl, Int.emod_nonneg _ (by decide), Int.emod_lt_of_pos _ (by decide)⟩
    · rintro σ H' ⟨s, y, rfl, rfl, hs0, hs1⟩
      refine ⟨_, rfl, _, rfl, a, _, rfl, .inl hS, fun l nl => ⟨(by show 3 ≤ sizeLine; decide), fun p np => ?_⟩⟩
      have hpl : l ≠ p := fun z => by subst z; rw [upd_same] at np; cases np
      refine k _ p l ((Same_new nl).trans (Same_new np)) ((Same_new nl).free np) nl ⟨s, 0, ns, upd_same, ?_, hs0, hs1, Int.le_refl 0, h63⟩
      rw [upd_ne hpl, upd_same]
/-- a draw: any number from 0 up to below the bound -/
def spNext : Sp := fun vs H Q _ => ∃ (p c : Addr) (b : Int), vs = [.ref p, .int b] ∧ DrawAt H p c ∧ 0 < b ∧ b.natAbs < 2 ^ 200 ∧
  ∀ H' r, 0 ≤ r → r < b → DrawAt H' p c → SameD p c H H' → Q (.int r) H'
theorem sc__law_next : FnScope ["_law_h", "_law_bound", "_law_cell", "_law_cells"] ["_law_h", "_law_bound"] (defScope s__law_next) := ⟨rfl, rfl, rfl, by decide +kernel, rfl, by decide +kernel, by decide +kernel⟩
theorem ok__law_next {f : Addr} {fd : FuncData} (F : Fun K "_law_next" "_law_next" s__law_next f fd) (mint : mg "int" = none) (mmax : mg "max" = none) (mlen : mg "len" = none) : FnOk P w K mg base CX0 1 f fd ["_law_h", "_law_bound"] spNext := by
  refine F.ok sc__law_next (fun vs H Q E h => ?_) (fun cdv A outer s H vs Q E hr h => ?_)
  · obtain ⟨p, c, b, rfl, _⟩ := h
    rfl
  · obtain ⟨p, c, b, rfl, hD, hb, hb2, k⟩ := h
    have hne := hD.ne
    obtain ⟨s, i, cs, hp, hc, hs0, hs1, hi0, h63⟩ := id hD
    have nd := sc__law_next.nd
    refine ⟨_, pss_cons (ps_set (i := 2) nd rfl (Or.inl rfl) (pe_ix ix_list (pe_op op_cat (pe_ix ix_list (pv 0) pe_int (fun _ _ => rfl)) (pe_lst (pa_cons pe_int pa_nil)))
        (pe_op op_mod (pe_callTy call_int1 (by rfl) mint (by decide +kernel) (pa_cons (pe_ix ix_list (pv 0) pe_int (fun _ _ => rfl)) pa_nil)) (pe_callB (call_max2 rfl) (by rfl) mmax (by decide +kernel) (pa_cons pe_int (pa_cons (pe_callB call_len_seq (by rfl) mlen PySem.boot_len (pa_cons (pe_ix ix_list (pv 0) pe_int (fun _ _ => rfl)) pa_nil)) pa_nil)))) (fun _ _ => rfl)))
      (pss_cons (ps_if (pt_cmpR op_ge (pv 2) (pe_op op_pow pe_int pe_int) (nomark _))
        (pss_cons (ps_set (i := 3) nd rfl (Or.inl rfl) (pe_ix ix_list (pv 0) pe_int (fun _ _ => rfl)))
        (pss_cons (ps_asg (pe_op op_fdivW (pv 2) (pv 1)) (pg_sub (pv 3) (pe_op op_mod (pe_callTy call_int1 (by rfl) mint (by decide +kernel) (pa_cons (pe_ix ix_list (pv 0) pe_int (fun _ _ => rfl)) pa_nil)) (pe_callB call_len_seq (by rfl) mlen PySem.boot_len (pa_cons (pv 3) pa_nil))) set_list))
        (pss_one (ps_ret (pe_op op_mod (pe_callTy call_int1 (by rfl) mint (by decide +kernel) (pa_cons (pv 2) pa_nil)) (pv 1)))))) pss_nil)
      (pss_cons (ps_asg (pe_op op_mod (pe_callTy call_int1 (by rfl) mint (by decide +kernel) (pa_cons (pe_op op_add (pe_op op_add (pe_op op_mul (pe_ix ix_list (pv 0) pe_int (fun _ _ => rfl)) pe_int) (pe_op op_mul (pv 2) pe_int)) pe_int) pa_nil)) pe_int) (pg_sub (pv 0) pe_int set_list))
      (pss_cons (ps_asg (pe_op op_add (pe_ix ix_list (pv 0) pe_int (fun _ _ => rfl)) pe_int) (pg_sub (pv 0) pe_int set_list))
      (pss_one (ps_ret (pe_op op_mod (pe_callTy call_int1 (by rfl) mint (by decide +kernel) (pa_cons (pe_op op_fdiv (pe_ix ix_list (pv 0) pe_int (fun _ _ => rfl)) pe_int) pa_nil)) (pv 1))))))), ?_⟩
    -- the cell
    refine ⟨_, rfl, p, _, 1, _, rfl, rfl, SqL.of hp, atI_nat (j := 1) rfl, (by show 1 ≤ sizeLine; decide), fun z nz => ?_⟩
    have s1 : Same H (upd H z (.lst [.int 0])) := Same_new nz
    refine ⟨c, z, _, _, rfl, rfl, s1 _ _ hc, upd_same, ?_, fun y ny => ?_⟩
    · show (cs.map V.int).length + 1 ≤ sizeLine
      rw [List.length_map]
      exact Nat.le_of_lt (small1000 (by omega))
    have s2 := Same_new2 (o := .lst (cs.map V.int ++ [.int 0])) s1 ny
    refine ⟨_, rfl, p, _, 2, _, rfl, rfl, SqL.of (s2 _ _ hp), atI_nat (j := 2) rfl, .inl ⟨_, rfl, ?_⟩⟩
    refine ⟨_, rfl, p, _, 1, _, rfl, rfl, SqL.of (s2 _ _ hp), atI_nat (j := 1) rfl, c, _, rfl, .inl (SqL.of (s2 _ _ hc)), _, _, rfl, _, _, rfl, rfl, ?_, ?_⟩
    · show (0 : Int) < if ((cs.map V.int).length : Int) > 1 then ((cs.map V.int).length : Int) else 1
      split <;> omega
    have ek : ∃ j : Nat, (i % (if ((cs.map V.int).length : Int) > 1 then ((cs.map V.int).length : Int) else 1)) = (j : Int) ∧ j < cs.length + 1 ∧ (cs ≠ [] → (j : Int) = i % (cs.length : Int) ∧ j < cs.length) := by
      rw [List.length_map]
      cases cs with
      | nil =>
        refine ⟨0, ?_, by simp, fun z => absurd rfl z⟩
        show i % 1 = 0
        exact Int.emod_one i
      | cons x r =>
        have hl : (if (((x :: r).length : Nat) : Int) > 1 then (((x :: r).length : Nat) : Int) else 1) = (((x :: r).length : Nat) : Int) := by
          rw [List.length_cons]
          split <;> omega
        rw [hl]
        have a1 : 0 ≤ i % (((x :: r).length : Nat) : Int) := Int.emod_nonneg _ (by rw [List.length_cons]; omega)
        have a2 : i % (((x :: r).length : Nat) : Int) < (((x :: r).length : Nat) : Int) := Int.emod_lt_of_pos _ (by rw [List.length_cons]; omega)
        exact ⟨(i % (((x :: r).length : Nat) : Int)).toNat, by omega, by omega, fun _ => ⟨by omega, by omega⟩⟩
    obtain ⟨j, ej, hj, hjc⟩ := ek
    obtain ⟨cell, hcell, hin⟩ : ∃ cell : Int, (cs.map V.int ++ [V.int 0])[j]? = some (.int cell) ∧ (cell ≠ 0 → cs ≠ []) := by
      have e1 : (cs.map V.int ++ [V.int 0]) = (cs ++ [0]).map V.int := by rw [List.map_append]; rfl
      have hlt : j < (cs ++ [(0 : Int)]).length := by rw [List.length_append]; exact hj
      refine ⟨(cs ++ [(0 : Int)])[j], ?_, fun h z => h ?_⟩
      · rw [e1, List.getElem?_map, List.getElem?_eq_getElem hlt]; rfl
      · subst z
        have : j = 0 := by simp at hj; exact hj
        subst this
        rfl
    refine ⟨y, _, _, .int cell, rfl, rfl, SqL.of upd_same, at_of ej hcell, ?_⟩
    refine ⟨_, rfl, _, _, rfl, rfl, ⟨by decide, by decide, by decide⟩, _, _, rfl, rfl, _, rfl, ite2 (fun hc18 => ?_) (fun hc18 => ?_)⟩
    · have big : (10 : Int) ^ (18 : Int).toNat ≤ cell := of_decide_eq_true hc18
      have big1 : (10 : Int) ^ (18 : Int).toNat = 1000000000000000000 := by decide
      have hne0 : cs ≠ [] := hin (by omega)
      obtain ⟨hj1, hj2⟩ := hjc hne0
      refine ⟨_, rfl, p, _, 1, _, rfl, rfl, SqL.of (s2 _ _ hp), atI_nat (j := 1) rfl, ?_⟩
      refine ⟨_, rfl, _, rfl, _, _, rfl, rfl, wide_div hb hb2 (by decide) (by decide), ?_⟩
      refine ⟨_, rfl, _, rfl, p, _, 2, _, rfl, rfl, SqL.of (s2 _ _ hp), atI_nat (j := 2) rfl, .inl ⟨_, rfl, ?_⟩⟩
      refine ⟨_, rfl, c, _, rfl, .inl (SqL.of (s2 _ _ hc)), _, _, rfl, rfl, ?_, ?_⟩
      · show (0 : Int) < ((cs.map V.int).length : Int)
        rw [List.length_map]
        omega
      refine ⟨c, _, _, j, rfl, rfl, s2 _ _ hc, ?_, ?_⟩
      · rw [List.length_map, ← hj1]
        unfold ixN
        rw [if_pos (by omega), if_pos (by omega)]
        simp
      refine ⟨_, rfl, .inl ⟨_, rfl, _, rfl, _, _, rfl, rfl, hb, ?_⟩⟩
      refine k _ _ (Int.emod_nonneg _ (by omega)) (Int.emod_lt_of_pos _ hb) ⟨s, i, cs.set j (cell / b), ?_, ?_, hs0, hs1, hi0, ?_⟩ fun a o ha hap hac => ?_
      · rw [upd_ne hne]; exact s2 _ _ hp
      · rw [upd_same, List.map_set]
      · rw [List.length_set]; exact h63
      · rw [upd_ne hac]; exact s2 _ _ ha
    · refine ⟨_, rfl, p, _, 0, _, rfl, rfl, SqL.of (s2 _ _ hp), atI_nat (j := 0) rfl, _, _, rfl, rfl, .inl ⟨by omega, by omega⟩, ?_⟩
      refine ⟨_, rfl, _, _, rfl, rfl, .inr ⟨by decide, by decide⟩, _, _, rfl, rfl, _, _, rfl, rfl, .inl ⟨_, rfl, _, _, rfl, rfl, (by show (0 : Int) < 2147483647; decide), ?_⟩⟩
      refine ⟨_, rfl, p, _, 0, 0, rfl, rfl, s2 _ _ hp, rfl, ?_⟩
      refine ⟨_, rfl, p, _, 2, _, rfl, rfl, SqL.of upd_same, atI_nat (j := 2) rfl, _, _, rfl, rfl, ?_⟩
      refine ⟨_, rfl, p, _, 2, 2, rfl, rfl, upd_same, rfl, ?_⟩
      refine ⟨_, rfl, p, _, 0, _, rfl, rfl, SqL.of upd_same, atI_nat (j := 0) rfl, _, _, rfl, rfl, ⟨by decide, by decide⟩, .inl ⟨_, rfl, _, rfl, _, _, rfl, rfl, hb, ?_⟩⟩
      refine k _ _ (Int.emod_nonneg _ (by omega)) (Int.emod_lt_of_pos _ hb) ⟨_, i + 1, cs, upd_same, ?_, Int.emod_nonneg _ (by decide), Int.emod_lt_of_pos _ (by decide), by omega, h63⟩ fun a o ha hap hac => ?_
      · rw [upd_ne hne.symm, upd_ne hne.symm]; exact s2 _ _ hc
      · rw [upd_ne hap, upd_ne hap]; exact s2 _ _ ha
end
end SR

set_option Elab.async false
set_option linter.all false
set_option maxRecDepth 100000
set_option maxHeartbeats 4000000
namespace SR
open PySem PySem.Spec PyProof.Rows L2
/-- valid entries from what each keeps, and rising values -/
theorem valid_of {n : Int} {es : List Ent} (n1 : 1 ≤ n) (n2 : n ≤ 10 ^ 30) (l : es.length ≤ 12) (ok : ∀ e ∈ es, EntOk n e) (asc : es.Pairwise fun a b => a.1 ≤ b.1) : Valid n es where
  n1 := n1
  n2 := n2
  len := l
  ent := fun j hj => by
    have e := List.getElem?_eq_getElem hj
    rw [vl_of e, lo_of e, hi_of e]
    exact ok _ (List.getElem_mem hj)
  asc := fun j hj => by
    have e := List.getElem?_eq_getElem (show j < es.length by omega)
    have e2 := List.getElem?_eq_getElem hj
    rw [vl_of e, vl_of e2]
    exact List.pairwise_iff_getElem.mp asc j (j + 1) _ hj (by omega)
/-- the entries made so far, of a row in order -/
structure SmI (far n : Int) (rs : List Int) (i : Nat) (es : List Ent) : Prop where
  bd : ∀ e ∈ es, 0 ≤ e.1 ∧ e.1 < far
  l6 : es.length ≤ 6
  ok : ∀ e ∈ es, EntOk n e
  asc : es.Pairwise fun a b => a.1 ≤ b.1
  le : ∀ e ∈ es, ∀ k (h : k < rs.length), i ≤ k → e.1 ≤ rs[k]
theorem SmI.zero (far n : Int) (rs : List Int) : SmI far n rs 0 [] := ⟨fun e h => (nomatch h), by simp, fun e h => (nomatch h), List.Pairwise.nil, fun e h => (nomatch h)⟩
theorem SmI.skip {far n : Int} {rs : List Int} {i : Nat} {es : List Ent} (s : SmI far n rs i es) : SmI far n rs (i + 1) es := ⟨s.bd, s.l6, s.ok, s.asc, fun e h k hk hik => s.le e h k hk (by omega)⟩
theorem SmI.snoc {far n : Int} {rs : List Int} {i : Nat} {es : List Ent} (s : SmI far n rs i es) (hs : rs.Pairwise (· ≤ ·)) (hi : i < rs.length) {e : Ent} (h6 : es.length < 6) (ok : EntOk n e) (he : e.1 = rs[i]) (hb : 0 ≤ e.1 ∧ e.1 < far) : SmI far n rs (i + 1) (es ++ [e]) where
  bd := fun x hx => by
    rcases List.mem_append.mp hx with hx | hx
    · exact s.bd x hx
    · rw [List.mem_singleton.mp hx]; exact hb
  l6 := by rw [List.length_append]; exact h6
  ok := fun x hx => by
    rcases List.mem_append.mp hx with hx | hx
    · exact s.ok x hx
    · rw [List.mem_singleton.mp hx]; exact ok
  asc := List.pairwise_append.mpr ⟨s.asc, List.pairwise_singleton _ _, fun a ha b hb => by rw [List.mem_singleton.mp hb, he]; exact s.le a ha i hi (Nat.le_refl _)⟩
  le := fun x hx k hk hik => by
    rcases List.mem_append.mp hx with hx | hx
    · exact s.le x hx k hk (by omega)
    · rw [List.mem_singleton.mp hx, he]
      exact List.pairwise_iff_getElem.mp hs i k hi hk (by omega)
theorem set_valid {n : Int} {es : List Ent} (v : Valid n es) {k : Nat} (hk : k < es.length) {a b : Int} (h1 : 1 ≤ a) (h2 : a ≤ b) (h3 : b ≤ n) : Valid n (es.set k (vl es k, a, b)) := by
  have at_ : ∀ j, j < es.length → (es.set k (vl es k, a, b))[j]? = if k = j then some (vl es k, a, b) else es[j]? := fun j hj => by
    rw [List.getElem?_set]
    by_cases e : k = j
    · rw [if_pos e, if_pos e, if_pos hk]
    · rw [if_neg e, if_neg e]
  have vl_ : ∀ j, j < es.length → vl (es.set k (vl es k, a, b)) j = vl es j := fun j hj => by
    by_cases e : k = j
    · have q := at_ j hj
      rw [if_pos e] at q
      rw [vl_of q, e]
    · have q := at_ j hj
      rw [if_neg e, ent_at hj] at q
      rw [vl_of q]
  refine ⟨v.n1, v.n2, by rw [List.length_set]; exact v.len, fun j hj => ?_, fun j hj => ?_⟩
  · rw [List.length_set] at hj
    have w := v.ent j hj
    by_cases e : k = j
    · have q := at_ j hj
      rw [if_pos e] at q
      rw [vl_ j hj, lo_of q, hi_of q]
      exact ⟨w.1, w.2.1, h1, h2, h3⟩
    · have q := at_ j hj
      rw [if_neg e, ent_at hj] at q
      rw [vl_of q, lo_of q, hi_of q]
      exact w
  · rw [List.length_set] at hj
    rw [vl_ j (by omega), vl_ (j + 1) hj]
    exact v.asc j hj
theorem ents_layL (es : List Ent) : (PyData.list (es.map entD)).canLay0 = true ∧ (PyData.list (es.map entD)).depth ≤ 2 := ents_lay es
theorem shaped_entsL (es : List Ent) : SeqAt.shaped (.list (es.map entD)) = true := shaped_of ⟨(ents_layL es).1, Nat.le_trans (ents_layL es).2 (by decide)⟩
theorem eqv_entsL (es fs : List Ent) : PyData.eqv (.list (es.map entD)) (.list (fs.map entD)) = decide (es = fs) := eqvAll_ents es fs
section
variable {P : Program} {w : World} {K : PySem.W.Frag} {mg : Str → Option Value} {base : Heap} {C : Addr}
def spSmallV : Sp := fun vs H Q _ => ∃ (p c : Addr) (most far : Int), vs = [.ref p, .int most, .int far] ∧ DrawAt H p c ∧ 1 ≤ most ∧ most ≤ 900 ∧ 1 ≤ far ∧ far ≤ 10 ^ 9 ∧
  ∀ H' q u n es, 1 ≤ n → n ≤ most → Valid n es → es.length ≤ 6 → (∀ e ∈ es, 0 ≤ e.1 ∧ e.1 < far) → DrawAt H' p c → SameD p c H H' → H' q = some (.lst [.int n, u]) → TupV H' u es → Q (.ref q) H'
def spSmall : Sp := fun vs H Q _ => ∃ (p c : Addr) (most far : Int), vs = [.ref p, .int most, .int far] ∧ DrawAt H p c ∧ 1 ≤ most ∧ most ≤ 900 ∧ 1 ≤ far ∧ far ≤ 10 ^ 9 ∧
  ∀ H' q u n es, 1 ≤ n → n ≤ most → Valid n es → es.length ≤ 6 → DrawAt H' p c → SameD p c H H' → H' q = some (.lst [.int n, u]) → TupV H' u es → Q (.ref q) H'
theorem sc__law_small : FnScope ["_law_h", "_law_most", "_law_far", "_law_size", "_law_row", "_law_found", "_law_rank", "_law_low", "_law_high", "_law_spot", "_law_k"] ["_law_h", "_law_most", "_law_far"] (defScope s__law_small) := ⟨rfl, rfl, rfl, by decide +kernel, rfl, by decide +kernel, by decide +kernel⟩
def SmPv (H : Hp) (p c r q : Addr) (most far n : Int) (rs : List Int) (i : Nat) (σ : L2.St) (H' : Hp) : Prop := ∃ (y6 y7 y8 : Option V) (us : List V) (es : List Ent), σ = [some (.ref p), some (.int most), some (.int far), some (.int n), some (.ref r), some (.ref q), y6, y7, y8, none, none] ∧ DrawAt H' p c ∧ SameD p c H H' ∧
  H' r = some (.lst (rs.map V.int)) ∧ H' q = some (.lst us) ∧ EntsV H' us es ∧ SmI far n rs i es
set_option maxHeartbeats 8000000 in
theorem ok__law_smallV {f : Addr} {fd : FuncData} (F : Fun K "_law_small" "_law_small" s__law_small f fd) (DN : Dn P w K mg base "_law_next" ["_law_h", "_law_bound"] 1 spNext) (mso : mg "sorted" = none) (mra : mg "range" = none) (mmax : mg "max" = none) (mmin : mg "min" = none) (mlen : mg "len" = none) (mtup : mg "tuple" = none) :
    FnOk P w K mg base CX0 2 f fd ["_law_h", "_law_most", "_law_far"] spSmallV := by
  refine F.ok sc__law_small (fun vs H Q E h => ?_) (fun cdv A outer s H vs Q E hr h => ?_)
  · obtain ⟨p, c, most, far, rfl, _⟩ := h
    rfl
  · obtain ⟨p, c, most, far, rfl, hD, m1, m2, f1, f2, k⟩ := h
    have nd := sc__law_small.nd
    refine ⟨_, pss_cons (ps_set (i := 3) nd rfl (Or.inl rfl) (pe_op op_add pe_int (pe_dn DN hr (pa_cons (pv 0) (pa_cons (pv 1) pa_nil)))))
      (pss_cons (ps_set (i := 4) nd rfl (Or.inl rfl) (pe_callB cr_sortedI (by rfl) mso (by decide +kernel) (pa_cons (pe_lc (own := [("_law_k", 10)]) (g := gName 10) (tt := tYes) rfl nd (pi_range1 (by rfl) mra (pa_cons (pv 3) pa_nil)) (blkOk_by (own := [("_law_k", 10)]) (N := ["_law_h", "_law_most", "_law_far", "_law_size", "_law_row", "_law_found", "_law_rank", "_law_low", "_law_high", "_law_spot", "_law_k"]) (sc := defScope s__law_small) (by decide +kernel))
          (fun _ _ _ _ _ => pg_name (i := 10) nd rfl (Or.inl rfl)) (fun _ _ _ _ _ => pts_nil) (fun _ _ _ _ _ => pe_dn DN hr (pa_cons (pv 0) (pa_cons (pv 2) pa_nil)))) pa_nil)))
      (pss_cons (ps_set (i := 5) nd rfl (Or.inl rfl) (pe_lst pa_nil))
      (pss_cons (ps_for PassesOwn.never rfl (pi_range2 (by rfl) mra (pa_cons pe_int (pa_cons (pe_op op_add (pv 3) pe_int) pa_nil))) (pg_name (i := 6) nd rfl (Or.inl rfl))
        (pss_one (ps_if (PW.pt (pw_and (pt_cmpR op_eq (pe_dn DN hr (pa_cons (pv 0) (pa_cons pe_int pa_nil))) pe_int (nomark _)) (pw_and1 (pt_cmpR op_lt (pe_callB call_len_seq (by rfl) mlen PySem.boot_len (pa_cons (pv 5) pa_nil)) pe_int (nomark _)))))
          (pss_cons (ps_par (i := 7) (j := 8) rfl nd rfl rfl (by decide) rfl rfl (pa_cons (pe_callB (call_max2 rfl) (by rfl) mmax (by decide +kernel) (pa_cons pe_int (pa_cons (pe_op op_sub (pv 6) (pe_dn DN hr (pa_cons (pv 0) (pa_cons pe_int pa_nil)))) pa_nil)))
              (pa_cons (pe_callB (call_min2 rfl) (by rfl) mmin (by decide +kernel) (pa_cons (pv 3) (pa_cons (pe_op op_add (pv 6) (pe_dn DN hr (pa_cons (pv 0) (pa_cons pe_int pa_nil)))) pa_nil))) pa_nil)) (by rfl))
          (pss_cons (ps_if (pt_cmpR op_eq (pe_dn DN hr (pa_cons (pv 0) (pa_cons pe_int pa_nil))) pe_int (nomark _)) (pss_one (ps_par (i := 7) (j := 8) rfl nd rfl rfl (by decide) rfl rfl (pa_cons pe_int (pa_cons (pv 3) pa_nil)) (by rfl))) pss_nil)
          (pss_one (ps_expr (pe_bm PySem.F.plainAttrs_list PySem.F.slot_list_append PySem.F.type_list_append mt_append (pv 5) (pa_cons (pe_tup (pa_cons (pe_ix ix_list (pv 4) (pe_op op_sub (pv 6) pe_int) (fun _ _ => rfl)) (pa_cons (pv 7) (pa_cons (pv 8) pa_nil)))) pa_nil)))))) pss_nil)))
      (pss_cons (ps_if (PW.pt (pw_and (pt_cmpR (op_neD hr.units) (pv 5) (pe_lst pa_nil) (nomark _)) (pw_and1 (pt_cmpR op_eq (pe_dn DN hr (pa_cons (pv 0) (pa_cons pe_int pa_nil))) pe_int (nomark _)))))
          (pss_cons (ps_set (i := 9) nd rfl (Or.inl rfl) (pe_dn DN hr (pa_cons (pv 0) (pa_cons (pe_callB call_len_seq (by rfl) mlen PySem.boot_len (pa_cons (pv 5) pa_nil)) pa_nil))))
          (pss_cons (ps_set (i := 7) nd rfl (Or.inl rfl) (pe_op op_add pe_int (pe_dn DN hr (pa_cons (pv 0) (pa_cons (pv 3) pa_nil)))))
          (pss_one (ps_asg (pe_tup (pa_cons (pe_ix ix_tup (pe_ix ix_list (pv 5) (pv 9) (fun _ _ => rfl)) pe_int (fun _ _ => rfl)) (pa_cons (pv 7) (pa_cons (pe_op op_add (pv 7) (pe_dn DN hr (pa_cons (pv 0) (pa_cons (pe_op op_add (pe_op op_sub (pv 3) (pv 7)) pe_int) pa_nil)))) pa_nil)))) (pg_sub (pv 5) (pv 9) set_list))))) pss_nil)
      (pss_one (ps_ret (pe_lst (pa_cons (pv 3) (pa_cons (pe_callTy call_tuple_of (by rfl) mtup (by decide +kernel) (pa_cons (pv 5) pa_nil)) pa_nil))))))))), ?_⟩
    -- size
    refine ⟨_, rfl, _, rfl, p, c, most, rfl, hD, by omega, nb (by omega) (by omega), fun H1 r0 a0 a1 D1 s1 => ?_⟩
    refine ⟨_, _, rfl, rfl, ?_⟩
    dsimp only
    generalize hn : (1 : Int) + r0 = n
    have n1 : 1 ≤ n := by omega
    have n2 : n ≤ most := by omega
    -- row
    refine ⟨_, rfl, n, rfl, by omega, by omega, fun D nD => ?_⟩
    have dp : D ≠ p := fun z => by obtain ⟨_, _, _, e, _⟩ := D1; rw [z, e] at nD; cases nD
    have dc : D ≠ c := fun z => by obtain ⟨_, _, _, _, e, _⟩ := D1; rw [z, e] at nD; cases nD
    refine lc_range (lo := 0) (n := n.toNat) (fun i H' => ∃ rs : List Int, H' D = some (.lst (rs.map V.int)) ∧ rs.length = i ∧ (∀ x ∈ rs, 0 ≤ x ∧ x < far) ∧ DrawAt H' p c ∧ SameD p c H H')
      ⟨[], upd_same, rfl, fun x hx => (nomatch hx), D1.mono (Same_new nD), s1.trans (sameD_of (Same_new nD))⟩ ?_ ?_
    · rintro i H' hi ⟨rs, hrs, hl, hb, D2, s2⟩
      refine ⟨rfl, tyes_of ?_⟩
      rw [if_pos rfl]
      refine ⟨_, rfl, _, rfl, p, c, far, rfl, D2, by omega, nb (by omega) (by omega), fun H3 r b0 b1 D3 s3 => ?_⟩
      refine ⟨_, s3 _ _ hrs dp dc, ?_, rs ++ [r], ?_, ?_, ?_, ?_, ?_⟩
      · rw [List.length_map]
        exact small1000 (by omega)
      · rw [upd_same, List.map_append]; rfl
      · rw [List.length_append, hl]; rfl
      · intro x hx
        rcases List.mem_append.mp hx with hx | hx
        · exact hb x hx
        · rw [List.mem_singleton.mp hx]; exact ⟨b0, b1⟩
      · obtain ⟨s', i', cs, g1, g2, g3⟩ := D3
        exact ⟨s', i', cs, by rw [upd_ne (Ne.symm dp)]; exact g1, by rw [upd_ne (Ne.symm dc)]; exact g2, g3⟩
      · exact fun a o ha h1 h2 => by
          have ne : a ≠ D := fun z => by
            subst z
            have := s1 _ _ ha h1 h2
            rw [this] at nD; cases nD
          rw [upd_ne ne]
          exact s3 _ _ (s2 _ _ ha h1 h2) h1 h2
    rintro H2 ⟨ns, hns, hnl, hnb, D2, s2⟩
    refine ⟨D, ns, rfl, SqL.of hns, fun rs r perm asc nr => ?_⟩
    have hrl : rs.length = n.toNat := by rw [perm.length_eq]; exact hnl
    have hrb : ∀ x ∈ rs, 0 ≤ x ∧ x < far := fun x hx => hnb x (perm.mem_iff.mp hx)
    have D3 := D2.mono (Same_new (o := .lst (rs.map V.int)) nr)
    have s3 := s2.trans (sameD_of (Same_new (o := .lst (rs.map V.int)) nr))
    have rp : r ≠ p := fun z => by obtain ⟨_, _, _, e, _⟩ := D2; rw [z, e] at nr; cases nr
    have rc : r ≠ c := fun z => by obtain ⟨_, _, _, _, e, _⟩ := D2; rw [z, e] at nr; cases nr
    -- found = []
    refine ⟨Nat.zero_le _, fun q nq => ?_⟩
    have qp : q ≠ p := fun z => by obtain ⟨_, _, _, e, _⟩ := D3; rw [z, e] at nq; cases nq
    have qc : q ≠ c := fun z => by obtain ⟨_, _, _, _, e, _⟩ := D3; rw [z, e] at nq; cases nq
    have qr : r ≠ q := fun z => by subst z; rw [upd_same] at nq; cases nq
    have hqH : ∀ a o, H a = some o → a ≠ p → a ≠ c → a ≠ q := fun a o ha h1 h2 z => by
      subst z
      have := s3 _ _ ha h1 h2
      rw [this] at nq; cases nq
    refine ⟨_, rfl, _, _, rfl, rfl, _, _, rfl, ⟨by omega, by omega, by omega, by omega⟩, ?_⟩
    rw [show (n + 1 - 1).toNat = n.toNat by omega]
    refine for_range (lo := 1) (n := n.toNat) (SmPv H p c r q most far n rs)
      ⟨none, none, none, [], [], rfl, D3.mono (Same_new nq), s3.trans (sameD_of (Same_new nq)), Same_new nq _ _ upd_same, upd_same, .nil, SmI.zero far n rs⟩ ?_ ?_
    · rintro i σ H4 hi ⟨y6, y7, y8, us, es, rfl, D4, s4, hr4, hq4, he4, I4⟩
      have hir : i < rs.length := by omega
      have hval := hrb rs[i] (List.getElem_mem hir)
      refine ⟨_, rfl, p, c, 2, rfl, D4, by decide, by decide, fun H5 r5 b0 b1 D5 s5 => ?_⟩
      have hr5 := s5 _ _ hr4 rp rc
      have hq5 := s5 _ _ hq4 qp qc
      have he5 := s5.ents D4 he4
      refine ⟨rfl, _, rfl, ite2 (fun _ => ?_) (fun _ => iteF ⟨_, _, _, us, es, rfl, D5, s4.trans s5, hr5, hq5, he5, I4.skip⟩)⟩
      refine ⟨_, rfl, q, us, rfl, .inl (SqL.of hq5), _, _, rfl, rfl, _, rfl, ite2 (fun h6 => ?_) (fun _ => ⟨_, _, _, us, es, rfl, D5, s4.trans s5, hr5, hq5, he5, I4.skip⟩)⟩
      have h6' : (us.length : Int) < 6 := of_decide_eq_true h6
      have h66 : es.length < 6 := by have := he5.len; omega
      -- low, high
      refine ⟨_, rfl, _, rfl, p, c, 3, rfl, D5, by decide, by decide, fun H6 r6 c0 c1 D6 s6 => ?_⟩
      refine ⟨_, _, rfl, rfl, _, _, rfl, ?_⟩
      refine ⟨_, rfl, _, rfl, _, rfl, p, c, 3, rfl, D6, by decide, by decide, fun H7 r7 d0 d1 D7 s7 => ?_⟩
      refine ⟨_, _, rfl, rfl, _, _, rfl, _, _, rfl, ?_⟩
      rw [max_if, min_if]
      refine ⟨_, rfl, p, c, 9, rfl, D7, by decide, by decide, fun H8 r8 e0 e1 D8 s8 => ?_⟩
      have s57 : SameD p c H5 H8 := (s6.trans s7).trans s8
      have hr8 := s57 _ _ hr5 rp rc
      have hq8 := s57 _ _ hq5 qp qc
      have he8 := s57.ents D5 he5
      have s48 := (s4.trans s5).trans s57
      -- what follows, for any good low and high
      have fin : ∀ lo hi : Int, 1 ≤ lo → lo ≤ hi → hi ≤ n → ∀ σ' : L2.St, σ' = [some (.ref p), some (.int most), some (.int far), some (.int n), some (.ref r), some (.ref q), some (.int (1 + (i : Int))), some (.int lo), some (.int hi), none, none] →
          (tDrop (tBM K "list" rAppend (tVar 5) (tCons (tTup (tCons (tOp (rIxL K) (tVar 4) (tOp (rI0 fun i j => .int (i - j)) (tVar 6) (tC (.int 1)))) (tCons (tVar 7) (tCons (tVar 8) tNil)))) tNil))) { nx := SmPv H p c r q most far n rs (i + 1), rt := Q } σ' H8 := by
        intro lo hi l1 l2 l3 σ' eσ
        subst eσ
        refine ⟨_, rfl, .inl ⟨rfl, _, SqL.of hq8⟩, _, rfl, _, rfl, _, _, rfl, rfl, r, _, _, .int rs[i], rfl, rfl, SqL.of hr8, at_of (j := i) (by omega) ?_, _, rfl, _, rfl, (by show 3 ≤ sizeLine; decide), fun t nt => ?_⟩
        · rw [List.getElem?_map, List.getElem?_eq_getElem hir]; rfl
        refine ⟨q, _, _, rfl, rfl, Same_new nt _ _ hq8, ?_, ?_⟩
        · exact small1000 (by omega)
        · have tq : t ≠ q := fun z => by subst z; rw [hq8] at nt; cases nt
          have sq : ∀ (b : Addr) (o : HO), H8 b = some o → b ≠ q → upd (upd H8 t (.tup [.int rs[i], .int lo, .int hi])) q (.lst (us ++ [.ref t])) b = some o := fun b o hb hne => by
            rw [upd_ne hne]
            exact Same_new nt _ _ hb
          have hD9 : DrawAt (upd (upd H8 t (.tup [.int rs[i], .int lo, .int hi])) q (.lst (us ++ [.ref t]))) p c := by
            obtain ⟨s', i', cs, g1, g2, g3⟩ := D8
            exact ⟨s', i', cs, sq _ _ g1 (Ne.symm qp), sq _ _ g2 (Ne.symm qc), g3⟩
          refine ⟨_, _, _, us ++ [.ref t], es ++ [(rs[i], lo, hi)], rfl, hD9, fun a o ha h1 h2 => sq _ _ (s48 _ _ ha h1 h2) (hqH a o ha h1 h2), sq _ _ hr8 qr, upd_same, ?_, I4.snoc asc hir h66 ⟨by show -10 ^ 30 ≤ rs[i]; omega, by show rs[i] ≤ 10 ^ 30; omega, l1, l2, l3⟩ rfl hval⟩
          refine pr_app (Paired.mapP he8 fun v e' ⟨t', ev, et⟩ => ⟨t', ev, sq _ _ et (ne_of et hq8 (by intro z; cases z))⟩) (.cons ⟨t, rfl, ?_⟩ .nil)
          rw [upd_ne tq, upd_same]
      refine ⟨rfl, _, rfl, ite2 (fun _ => ?_) (fun _ => ?_)⟩
      · refine ⟨_, rfl, _, _, rfl, ?_⟩
        exact fin 1 n (by omega) (by omega) (by omega) _ rfl
      · exact fin _ _ (by omega) (by omega) (by omega) _ rfl
    · rintro σ H4 ⟨y6, y7, y8, us, es, rfl, D4, s4, hr4, hq4, he4, I4⟩
      have v4 : Valid n es := valid_of n1 (by omega) (by have := I4.l6; omega) I4.ok I4.asc
      have hl4 := he4.len
      have h6 := I4.l6
      -- the end
      have fin : ∀ (es' : List Ent) (us' : List V) (σ' : L2.St) (H' : Hp), Valid n es' → es'.length ≤ 6 → (∀ e ∈ es', 0 ≤ e.1 ∧ e.1 < far) → DrawAt H' p c → SameD p c H H' → H' q = some (.lst us') → EntsV H' us' es' → σ'[3]? = some (some (.int n)) → σ'[5]? = some (some (.ref q)) →
          (tRet (tLst (tCons (tVar 3) (tCons (tCB (fun xs H Q => ∃ p ys, xs = [.ref p] ∧ ((SqL K H p ys ∧ ∀ l, H l = none → Q (.ref l) (upd H l (.tup ys))) ∨ (SqT K H p ys ∧ Q (.ref p) H))) (tCons (tVar 5) tNil)) tNil)))) { nx := fun _ H' => Q .non H', rt := Q } σ' H' := by
        intro es' us' σ' H' v l6 bd D' s' hq' he' e3 e5
        refine ⟨_, e3, _, e5, q, us', rfl, .inl ⟨SqL.of hq', fun a na => ⟨(by show 2 ≤ sizeLine; decide), fun b nb' => ?_⟩⟩⟩
        have t1 := Same_new (o := .tup us') na
        have t2 := Same_new2 (o := .lst [.int n, .ref a]) t1 nb'
        have ab : a ≠ b := fun z => by subst z; rw [upd_same] at nb'; cases nb'
        exact k _ b (.ref a) n es' n1 n2 v l6 bd (D'.mono t2) (s'.trans (sameD_of t2)) upd_same ⟨a, us', rfl, by rw [upd_ne ab, upd_same], he'.mono t2⟩
      refine ⟨_, rfl, Nat.zero_le _, fun z nz => ?_⟩
      have t4 := Same_new (o := .lst []) nz
      refine ⟨.list (es.map entD), .list [], .lst (SqL.of (t4 _ _ hq4)) (he4.mono t4).dp, .lst (SqL.of upd_same) .nil, shaped_entsL es, shaped_entsL [], ?_⟩
      rw [show PyData.eqv (.list (es.map entD)) (.list []) = decide (es = []) from eqv_entsL es []]
      refine ⟨_, rfl, ite2 (fun hne => ?_) (fun _ => iteF ?_)⟩
      · have hne' : es ≠ [] := fun z => by rw [z] at hne; simp at hne
        have hpos : 0 < es.length := List.length_pos_iff.mpr hne'
        refine ⟨_, rfl, p, c, 5, rfl, D4.mono t4, by decide, by decide, fun H5 r5 b0 b1 D5 s5 => ?_⟩
        have hq5 := s5 _ _ (t4 _ _ hq4) qp qc
        have he5 := s5.ents (D4.mono t4) (he4.mono t4)
        have s45 := (s4.trans (sameD_of t4)).trans s5
        refine ⟨rfl, _, rfl, ite2 (fun _ => ?_) (fun _ => fin es us _ H5 v4 h6 I4.bd D5 s45 hq5 he5 rfl rfl)⟩
        -- spot
        refine ⟨_, rfl, _, rfl, q, us, rfl, .inl (SqL.of hq5), p, c, _, rfl, D5, by omega, nb (by omega) (by omega), fun H6 r6 c0 c1 D6 s6 => ?_⟩
        refine ⟨_, rfl, _, rfl, p, c, n, rfl, D6, by omega, nb (by omega) (by omega), fun H7 r7 d0 d1 D7 s7 => ?_⟩
        have s57 := s6.trans s7
        have hq7 := s57 _ _ hq5 qp qc
        have he7 := s57.ents D5 he5
        obtain ⟨j, hj⟩ : ∃ j : Nat, r6 = (j : Int) := ⟨r6.toNat, by omega⟩
        subst hj
        have hjl : j < es.length := by omega
        obtain ⟨x, hx, t, rfl, ht⟩ := pr_at he7 (ent_at hjl)
        refine ⟨_, _, rfl, rfl, ?_⟩
        refine ⟨_, rfl, _, rfl, q, _, _, _, rfl, rfl, SqL.of hq7, atI_nat hx, t, _, 0, _, rfl, rfl, SqT.of ht, atI_nat (j := 0) rfl, _, rfl, _, rfl, ?_⟩
        refine ⟨_, rfl, _, rfl, _, rfl, _, _, rfl, rfl, _, _, rfl, rfl, p, c, _, rfl, D7, by omega, nb (by omega) (by omega), fun H8 r8 e0 e1 D8 s8 => ?_⟩
        refine ⟨_, _, rfl, rfl, (by show 3 ≤ sizeLine; decide), fun t2 nt2 => ?_⟩
        have hq8 := s8 _ _ hq7 qp qc
        have he8 := s8.ents D7 he7
        refine ⟨_, rfl, _, rfl, q, _, _, j, rfl, rfl, Same_new nt2 _ _ hq8, ?_, ?_⟩
        · unfold ixN
          rw [if_pos (by omega), if_pos (by omega)]
          simp
        · have tq : t2 ≠ q := fun z => by subst z; rw [hq8] at nt2; cases nt2
          have sq : ∀ (b : Addr) (o : HO), H8 b = some o → b ≠ q → upd (upd H8 t2 (.tup [.int (vl es j), .int (1 + r7), .int (1 + r7 + r8)])) q (.lst (us.set j (.ref t2))) b = some o := fun b o hb hne => by
            rw [upd_ne hne]
            exact Same_new nt2 _ _ hb
          refine fin (es.set j (vl es j, 1 + r7, 1 + r7 + r8)) (us.set j (.ref t2)) _ _ (set_valid v4 hjl (by omega) (by omega) (by omega)) (by rw [List.length_set]; exact h6) (fun e he => ?_) ?_ (fun a o ha h1 h2 => sq _ _ (((s45.trans s57).trans s8) _ _ ha h1 h2) (hqH a o ha h1 h2)) upd_same ?_ rfl rfl
          · rcases List.mem_or_eq_of_mem_set he with h | h
            · exact I4.bd e h
            · rw [h]
              have := I4.bd _ (List.mem_of_getElem? (ent_at hjl))
              exact this
          · obtain ⟨s', i', cs, g1, g2, g3⟩ := D8
            exact ⟨s', i', cs, sq _ _ g1 (Ne.symm qp), sq _ _ g2 (Ne.symm qc), g3⟩
          · refine pr_set ⟨t2, rfl, ?_⟩ j (Paired.mapP he8 fun v e' ⟨t', ev, et⟩ => ⟨t', ev, sq _ _ et (ne_of et hq8 (by intro z; cases z))⟩)
            rw [upd_ne tq, upd_same]
      · exact fin es us _ _ v4 h6 I4.bd (D4.mono t4) (s4.trans (sameD_of t4)) (t4 _ _ hq4) (he4.mono t4) rfl rfl
theorem ok__law_small {f : Addr} {fd : FuncData} (F : Fun K "_law_small" "_law_small" s__law_small f fd) (DN : Dn P w K mg base "_law_next" ["_law_h", "_law_bound"] 1 spNext) (mso : mg "sorted" = none) (mra : mg "range" = none) (mmax : mg "max" = none) (mmin : mg "min" = none) (mlen : mg "len" = none) (mtup : mg "tuple" = none) :
    FnOk P w K mg base CX0 2 f fd ["_law_h", "_law_most", "_law_far"] spSmall :=
  (ok__law_smallV F DN mso mra mmax mmin mlen mtup).imp fun vs H Q E ⟨p, c, most, far, e, d, a1, a2, a3, a4, k⟩ => ⟨p, c, most, far, e, d, a1, a2, a3, a4, fun H' q u n es n1 n2 v l6 _ d' s' hq hu => k H' q u n es n1 n2 v l6 d' s' hq hu⟩
end
end SR

set_option Elab.async false
set_option linter.all false
set_option maxRecDepth 100000
set_option maxHeartbeats 4000000
namespace SR
open PySem PySem.Spec PyProof.Rows L2
/-- the entries made so far, of a great count -/
structure GrI (n value : Int) (i : Nat) (es : List Ent) : Prop where
  l : es.length = i
  ok : ∀ e ∈ es, EntOk n e
  asc : es.Pairwise fun a b => a.1 ≤ b.1
  le : ∀ e ∈ es, e.1 ≤ value
  v0 : -50 ≤ value
  v1 : value ≤ 49 + 10 ^ 9 * i
theorem GrI.snoc {n value v2 : Int} {i : Nat} {es : List Ent} (s : GrI n value i es) (hi : i < 12) {lo hi' : Int} (l1 : 1 ≤ lo) (l2 : lo ≤ hi') (l3 : hi' ≤ n) (g0 : value ≤ v2) (g1 : v2 ≤ value + 10 ^ 9) : GrI n v2 (i + 1) (es ++ [(value, lo, hi')]) where
  l := by rw [List.length_append, s.l]; rfl
  ok := fun x hx => by
    have := s.v0
    have := s.v1
    rcases List.mem_append.mp hx with hx | hx
    · exact s.ok x hx
    · rw [List.mem_singleton.mp hx]
      exact ⟨by show -10 ^ 30 ≤ value; omega, by show value ≤ 10 ^ 30; omega, l1, l2, l3⟩
  asc := List.pairwise_append.mpr ⟨s.asc, List.pairwise_singleton _ _, fun a ha b hb => by rw [List.mem_singleton.mp hb]; exact s.le a ha⟩
  le := fun x hx => by
    rcases List.mem_append.mp hx with hx | hx
    · exact Int.le_trans (s.le x hx) g0
    · rw [List.mem_singleton.mp hx]; exact g0
  v0 := Int.le_trans s.v0 g0
  v1 := by have := s.v1; omega
section
variable {P : Program} {w : World} {K : PySem.W.Frag} {mg : Str → Option Value} {base : Heap} {C : Addr}
def spGr : Sp := fun vs H Q _ => ∃ (p c : Addr), vs = [.ref p] ∧ DrawAt H p c ∧
  ∀ H' q u n es, 101 ≤ n → Valid n es → DrawAt H' p c → SameD p c H H' → H' q = some (.lst [.int n, u]) → TupV H' u es → Q (.ref q) H'
def GrPv (H : Hp) (p c q : Addr) (n : Int) (i : Nat) (σ : L2.St) (H' : Hp) : Prop := ∃ (y5 y6 : Option V) (us : List V) (es : List Ent) (value low : Int), σ = [some (.ref p), some (.int n), some (.ref q), some (.int value), some (.int low), y5, y6] ∧ DrawAt H' p c ∧ SameD p c H H' ∧
  H' q = some (.lst us) ∧ EntsV H' us es ∧ GrI n value i es ∧ 1 ≤ low ∧ low ≤ n
theorem sc__law_great : FnScope ["_law_h", "_law_count", "_law_found", "_law_value", "_law_low", "_law_k", "_law_high"] ["_law_h"] (defScope s__law_great) := ⟨rfl, rfl, rfl, by decide +kernel, rfl, by decide +kernel, by decide +kernel⟩
set_option maxHeartbeats 8000000 in
theorem ok__law_great {f : Addr} {fd : FuncData} (F : Fun K "_law_great" "_law_great" s__law_great f fd) (DN : Dn P w K mg base "_law_next" ["_law_h", "_law_bound"] 1 spNext) (mra : mg "range" = none) (mmin : mg "min" = none) (mtup : mg "tuple" = none) :
    FnOk P w K mg base CX0 2 f fd ["_law_h"] spGr := by
  refine F.ok sc__law_great (fun vs H Q E h => ?_) (fun cdv A outer s H vs Q E hr h => ?_)
  · obtain ⟨p, c, rfl, _⟩ := h
    rfl
  · obtain ⟨p, c, rfl, hD, k⟩ := h
    have nd := sc__law_great.nd
    refine ⟨_, pss_cons (ps_set (i := 1) nd rfl (Or.inl rfl) (pe_op op_sub (pe_ix ix_list (pe_lst (pa_cons (pe_op op_pow pe_int pe_int) (pa_cons (pe_op op_pow pe_int pe_int) (pa_cons (pe_op op_pow pe_int pe_int) pa_nil)))) (pe_dn DN hr (pa_cons (pv 0) (pa_cons pe_int pa_nil))) (fun _ _ => rfl)) (pe_dn DN hr (pa_cons (pv 0) (pa_cons pe_int pa_nil)))))
      (pss_cons (ps_par3 (i := 2) (j := 3) (l := 4) rfl nd rfl rfl rfl (by decide) (by decide) (by decide) rfl rfl rfl (pa_cons (pe_lst pa_nil) (pa_cons (pe_op op_sub (pe_dn DN hr (pa_cons (pv 0) (pa_cons pe_int pa_nil))) pe_int) (pa_cons pe_int pa_nil))) (by rfl))
      (pss_cons (ps_for PassesOwn.never rfl (pi_range1 (by rfl) mra (pa_cons (pe_dn DN hr (pa_cons (pv 0) (pa_cons pe_int pa_nil))) pa_nil)) (pg_name (i := 5) nd rfl (Or.inl rfl))
        (pss_cons (ps_set (i := 4) nd rfl (Or.inl rfl) (pe_callB (call_min2 rfl) (by rfl) mmin (by decide +kernel) (pa_cons (pv 1) (pa_cons (pe_op op_add (pv 4) (pe_dn DN hr (pa_cons (pv 0) (pa_cons (pe_ix ix_list (pe_lst (pa_cons pe_int (pa_cons pe_int (pa_cons (pe_op op_add pe_int (pe_op op_fdiv (pv 1) pe_int)) pa_nil)))) (pe_dn DN hr (pa_cons (pv 0) (pa_cons pe_int pa_nil))) (fun _ _ => rfl)) pa_nil)))) pa_nil))))
        (pss_cons (ps_set (i := 6) nd rfl (Or.inl rfl) (pe_callB (call_min2 rfl) (by rfl) mmin (by decide +kernel) (pa_cons (pv 1) (pa_cons (pe_op op_add (pv 4) (pe_dn DN hr (pa_cons (pv 0) (pa_cons (pe_ix ix_list (pe_lst (pa_cons pe_int (pa_cons pe_int (pa_cons (pe_op op_add pe_int (pe_op op_fdiv (pv 1) pe_int)) pa_nil)))) (pe_dn DN hr (pa_cons (pv 0) (pa_cons pe_int pa_nil))) (fun _ _ => rfl)) pa_nil)))) pa_nil))))
        (pss_cons (ps_expr (pe_bm PySem.F.plainAttrs_list PySem.F.slot_list_append PySem.F.type_list_append mt_append (pv 2) (pa_cons (pe_tup (pa_cons (pv 3) (pa_cons (pv 4) (pa_cons (pv 6) pa_nil)))) pa_nil)))
        (pss_one (ps_set (i := 3) nd rfl (Or.inl rfl) (pe_op op_add (pv 3) (pe_ix ix_list (pe_lst (pa_cons pe_int (pa_cons pe_int (pa_cons pe_int (pa_cons (pe_op op_pow pe_int pe_int) pa_nil))))) (pe_dn DN hr (pa_cons (pv 0) (pa_cons pe_int pa_nil))) (fun _ _ => rfl)))))))))
      (pss_one (ps_ret (pe_lst (pa_cons (pv 1) (pa_cons (pe_callTy call_tuple_of (by rfl) mtup (by decide +kernel) (pa_cons (pv 2) pa_nil)) pa_nil))))))), ?_⟩
    -- count
    refine ⟨_, _, rfl, rfl, ⟨by decide, by decide, by decide⟩, _, _, rfl, rfl, ⟨by decide, by decide, by decide⟩, _, _, rfl, rfl, ⟨by decide, by decide, by decide⟩, (by show 3 ≤ sizeLine; decide), fun z nz => ?_⟩
    have t0 := Same_new (o := .lst [.int (10 ^ (3 : Int).toNat), .int (10 ^ (12 : Int).toNat), .int (10 ^ (30 : Int).toNat)]) nz
    refine ⟨_, rfl, p, c, 3, rfl, hD.mono t0, by decide, by decide, fun H1 r1 a0 a1 D1 s1 => ?_⟩
    have zp : z ≠ p := fun e => by obtain ⟨_, _, _, q, _⟩ := hD; rw [e, q] at nz; cases nz
    have zc : z ≠ c := fun e => by obtain ⟨_, _, _, _, q, _⟩ := hD; rw [e, q] at nz; cases nz
    obtain ⟨v, hv, b, rfl, hb1, hb2⟩ := at3 (P := fun v => ∃ b : Int, v = .int b ∧ 1000 ≤ b ∧ b ≤ 10 ^ 30) a0 a1 ⟨10 ^ (3 : Int).toNat, rfl, by decide, by decide⟩ ⟨10 ^ (12 : Int).toNat, rfl, by decide, by decide⟩ ⟨10 ^ (30 : Int).toNat, rfl, by decide, by decide⟩
    refine ⟨z, _, _, _, rfl, rfl, SqL.of (s1 _ _ upd_same zp zc), hv, ?_⟩
    refine ⟨_, rfl, p, c, 900, rfl, D1, by decide, by decide, fun H2 r2 b0 b1 D2 s2 => ?_⟩
    refine ⟨_, _, rfl, rfl, ?_⟩
    dsimp only
    generalize hn : b - r2 = n
    have n1 : 101 ≤ n := by omega
    have n2 : n ≤ 10 ^ 30 := by omega
    have s02 : SameD p c H H2 := ((sameD_of t0).trans s1).trans s2
    -- found, value, low
    refine ⟨Nat.zero_le _, fun q nq => ?_⟩
    have qp : q ≠ p := fun e => by obtain ⟨_, _, _, g, _⟩ := D2; rw [e, g] at nq; cases nq
    have qc : q ≠ c := fun e => by obtain ⟨_, _, _, _, g, _⟩ := D2; rw [e, g] at nq; cases nq
    have hqH : ∀ a o, H a = some o → a ≠ p → a ≠ c → a ≠ q := fun a o ha h1 h2 e => by
      subst e
      have := s02 _ _ ha h1 h2
      rw [this] at nq; cases nq
    have t2 := Same_new (o := .lst []) nq
    refine ⟨_, rfl, p, c, 99, rfl, D2.mono t2, by decide, by decide, fun H3 r3 c0 c1 D3 s3 => ?_⟩
    refine ⟨_, _, rfl, rfl, _, _, _, rfl, ?_⟩
    have hq3 := s3 _ _ (show upd H2 q (.lst []) q = some (.lst []) from upd_same) qp qc
    refine ⟨_, rfl, p, c, 13, rfl, D3, by decide, by decide, fun H4 r4 d0 d1 D4 s4 => ?_⟩
    refine ⟨r4, rfl, by omega, by omega, ?_⟩
    refine for_range (lo := 0) (n := r4.toNat) (GrPv H p c q n)
      ⟨none, none, [], [], r3 - 50, 1, rfl, D4, ((s02.trans (sameD_of t2)).trans s3).trans s4, s4 _ _ hq3 qp qc, .nil, ⟨rfl, fun e h => (nomatch h), List.Pairwise.nil, fun e h => (nomatch h), by omega, by omega⟩, by omega, by omega⟩ ?_ ?_
    · rintro i σ H5 hi ⟨y5, y6, us, es, value, low, rfl, D5, s5, hq5, he5, I5, l1, l2⟩
      have hi12 : i < 12 := by omega
      -- low
      refine ⟨_, rfl, _, rfl, _, rfl, _, rfl, _, _, rfl, rfl, ⟨by decide, by decide⟩, _, _, rfl, rfl, (by show 3 ≤ sizeLine; decide), fun z5 nz5 => ?_⟩
      have t5 := Same_new (o := .lst [.int 2, .int 40, .int (1 + n / 6)]) nz5
      refine ⟨_, rfl, p, c, 3, rfl, D5.mono t5, by decide, by decide, fun H6 r6 e0 e1 D6 s6 => ?_⟩
      have zp5 : z5 ≠ p := fun e => by obtain ⟨_, _, _, g, _⟩ := D5; rw [e, g] at nz5; cases nz5
      have zc5 : z5 ≠ c := fun e => by obtain ⟨_, _, _, _, g, _⟩ := D5; rw [e, g] at nz5; cases nz5
      obtain ⟨v5, hv5, b5, rfl, hb5, hb5'⟩ := at3 (P := fun v => ∃ b : Int, v = .int b ∧ 0 < b ∧ b ≤ 10 ^ 30) e0 e1 ⟨2, rfl, by decide, by decide⟩ ⟨40, rfl, by decide, by decide⟩ ⟨1 + n / 6, rfl, by omega, by omega⟩
      refine ⟨z5, _, _, _, rfl, rfl, SqL.of (s6 _ _ upd_same zp5 zc5), hv5, p, c, b5, rfl, D6, hb5, nb (by omega) hb5', fun H7 r7 f0 f1 D7 s7 => ?_⟩
      refine ⟨_, _, rfl, rfl, _, _, rfl, ?_⟩
      rw [min_if]
      have hq7 := s7 _ _ (s6 _ _ (t5 _ _ hq5) qp qc) qp qc
      have he7 := s7.ents D6 (s6.ents (D5.mono t5) (he5.mono t5))
      have s07 : SameD p c H H7 := (s5.trans (sameD_of t5)).trans (s6.trans s7)
      generalize hlow : min n (low + r7) = low'
      have g1 : 1 ≤ low' := by omega
      have g2 : low' ≤ n := by omega
      -- high
      refine ⟨_, rfl, _, rfl, _, rfl, _, rfl, _, _, rfl, rfl, ⟨by decide, by decide⟩, _, _, rfl, rfl, (by show 3 ≤ sizeLine; decide), fun z8 nz8 => ?_⟩
      have t8 := Same_new (o := .lst [.int 2, .int 40, .int (1 + n / 6)]) nz8
      refine ⟨_, rfl, p, c, 3, rfl, D7.mono t8, by decide, by decide, fun H9 r9 e0' e1' D9 s9 => ?_⟩
      have zp8 : z8 ≠ p := fun e => by obtain ⟨_, _, _, g, _⟩ := D7; rw [e, g] at nz8; cases nz8
      have zc8 : z8 ≠ c := fun e => by obtain ⟨_, _, _, _, g, _⟩ := D7; rw [e, g] at nz8; cases nz8
      obtain ⟨v8, hv8, b8, rfl, hb8, hb8'⟩ := at3 (P := fun v => ∃ b : Int, v = .int b ∧ 0 < b ∧ b ≤ 10 ^ 30) e0' e1' ⟨2, rfl, by decide, by decide⟩ ⟨40, rfl, by decide, by decide⟩ ⟨1 + n / 6, rfl, by omega, by omega⟩
      refine ⟨z8, _, _, _, rfl, rfl, SqL.of (s9 _ _ upd_same zp8 zc8), hv8, p, c, b8, rfl, D9, hb8, nb (by omega) hb8', fun Ha ra f0' f1' Da sa => ?_⟩
      refine ⟨_, _, rfl, rfl, _, _, rfl, ?_⟩
      rw [min_if]
      have hqa := sa _ _ (s9 _ _ (t8 _ _ hq7) qp qc) qp qc
      have hea := sa.ents D9 (s9.ents (D7.mono t8) (he7.mono t8))
      have s0a : SameD p c H Ha := (s07.trans (sameD_of t8)).trans (s9.trans sa)
      generalize hhigh : min n (low' + ra) = high
      -- append
      refine ⟨_, rfl, .inl ⟨rfl, _, SqL.of hqa⟩, _, rfl, _, rfl, _, rfl, (by show 3 ≤ sizeLine; decide), fun t nt => ?_⟩
      refine ⟨q, _, _, rfl, rfl, Same_new nt _ _ hqa, ?_, ?_⟩
      · have := I5.l
        have := he5.len
        exact small1000 (by omega)
      have tq : t ≠ q := fun e => by subst e; rw [hqa] at nt; cases nt
      have sq : ∀ (b : Addr) (o : HO), Ha b = some o → b ≠ q → upd (upd Ha t (.tup [.int value, .int low', .int high])) q (.lst (us ++ [.ref t])) b = some o := fun b o hb hne => by
        rw [upd_ne hne]
        exact Same_new nt _ _ hb
      generalize hHb : upd (upd Ha t (.tup [.int value, .int low', .int high])) q (.lst (us ++ [.ref t])) = Hb at sq
      have Db : DrawAt Hb p c := by
        obtain ⟨s', i', cs, k1, k2, k3⟩ := Da
        exact ⟨s', i', cs, sq _ _ k1 (Ne.symm qp), sq _ _ k2 (Ne.symm qc), k3⟩
      have hqb : Hb q = some (.lst (us ++ [.ref t])) := by rw [← hHb, upd_same]
      have heb : EntsV Hb (us ++ [.ref t]) (es ++ [(value, low', high)]) := by
        refine pr_app (Paired.mapP hea fun v e' ⟨t', ev, et⟩ => ⟨t', ev, sq _ _ et (ne_of et hqa (by intro z; cases z))⟩) (.cons ⟨t, rfl, ?_⟩ .nil)
        rw [← hHb, upd_ne tq, upd_same]
      have s0b : SameD p c H Hb := fun a o ha h1 h2 => sq _ _ (s0a _ _ ha h1 h2) (hqH a o ha h1 h2)
      -- value
      refine ⟨_, rfl, _, _, rfl, rfl, ⟨by decide, by decide, by decide⟩, (by show 4 ≤ sizeLine; decide), fun zc nzc => ?_⟩
      have tc := Same_new (o := .lst [.int 0, .int 1, .int 3, .int (10 ^ (9 : Int).toNat)]) nzc
      refine ⟨_, rfl, p, c, 4, rfl, Db.mono tc, by decide, by decide, fun Hd rd h0 h1 Dd sd => ?_⟩
      have zpc : zc ≠ p := fun e => by obtain ⟨_, _, _, g, _⟩ := Db; rw [e, g] at nzc; cases nzc
      have zcc : zc ≠ c := fun e => by obtain ⟨_, _, _, _, g, _⟩ := Db; rw [e, g] at nzc; cases nzc
      obtain ⟨vd, hvd, bd, rfl, hbd, hbd'⟩ := at4 (P := fun v => ∃ b : Int, v = .int b ∧ 0 ≤ b ∧ b ≤ 10 ^ 9) h0 h1 ⟨0, rfl, by decide, by decide⟩ ⟨1, rfl, by decide, by decide⟩ ⟨3, rfl, by decide, by decide⟩ ⟨10 ^ (9 : Int).toNat, rfl, by decide, by decide⟩
      refine ⟨zc, _, _, _, rfl, rfl, SqL.of (sd _ _ upd_same zpc zcc), hvd, _, _, rfl, rfl, ?_⟩
      refine ⟨_, _, us ++ [.ref t], es ++ [(value, low', high)], value + bd, low', rfl, Dd, (s0b.trans (sameD_of tc)).trans sd, sd _ _ (tc _ _ hqb) qp qc, sd.ents (Db.mono tc) (heb.mono tc), I5.snoc hi12 g1 (by omega) (by omega) (by omega) (by omega), g1, g2⟩
    · rintro σ H5 ⟨y5, y6, us, es, value, low, rfl, D5, s5, hq5, he5, I5, l1, l2⟩
      have v5 : Valid n es := valid_of (by omega) n2 (by have := I5.l; omega) I5.ok I5.asc
      refine ⟨_, rfl, _, rfl, q, us, rfl, .inl ⟨SqL.of hq5, fun a na => ⟨(by show 2 ≤ sizeLine; decide), fun b nb' => ?_⟩⟩⟩
      have t1 := Same_new (o := .tup us) na
      have t2' := Same_new2 (o := .lst [.int n, .ref a]) t1 nb'
      have ab : a ≠ b := fun e => by subst e; rw [upd_same] at nb'; cases nb'
      exact k _ b (.ref a) n es n1 v5 (D5.mono t2') (s5.trans (sameD_of t2')) upd_same ⟨a, us, rfl, by rw [upd_ne ab, upd_same], he5.mono t2'⟩
end
end SR

set_option Elab.async false
set_option linter.all false
set_option maxRecDepth 100000
set_option maxHeartbeats 4000000
/-! InvalidText's __init__. -/
namespace SR
open PySem PySem.Spec PyProof.Rows L2
section
variable {P : Program} {w : World} {K : PySem.W.Frag} {mg : Str → Option Value} {base : Heap} {C : Addr}
theorem sc_InvalidText_init : FnScope ["self", "line", "word"] ["self", "line", "word"] (defScope s_InvalidText_init) := ⟨rfl, rfl, rfl, by decide +kernel, rfl, by decide +kernel, by decide +kernel⟩
theorem ok_InvalidText_init {f : Addr} {fd : FuncData} (F : Fun K "__init__" "InvalidText.__init__" s_InvalidText_init f fd) (T : OexC K C) (n1 : PySem.W.findIn K (.ref C) "line" = some none) (n2 : PySem.W.findIn K (.ref C) "word" = some none) :
    FnOk P w K mg base CX0 1 f fd ["self", "line", "word"] (spI2 C "line" "word") := by
  refine F.ok sc_InvalidText_init (fun vs H Q E h => ?_) (fun cdv A outer s H vs Q E hr h => ?_)
  · obtain ⟨a, x, y, rfl, _⟩ := h
    rfl
  · obtain ⟨a, x, y, rfl, ha, k⟩ := h
    refine ⟨_, pss_cons (ps_ost (pv 0) (pv 1)) (pss_one (ps_ost (pv 0) (pv 2))), ?_⟩
    refine ⟨_, rfl, _, rfl, a, C, rfl, T, n1, .inl ⟨ha, fun dx nd ne => ?_⟩⟩
    refine ⟨_, rfl, _, rfl, a, C, rfl, T, n2, .inr ⟨dx, _, upd_same, ?_, by show 1 ≤ 900; decide, k dx nd ne⟩⟩
    rw [upd_ne ne, upd_same]
end
end SR

set_option Elab.async false
set_option linter.all false
set_option maxRecDepth 100000
set_option maxHeartbeats 4000000
/-! The package's texts. -/
namespace SR
open PySem PySem.Spec PyProof.Rows L2

section
variable {P : Program} {w : World} {K : PySem.W.Frag} {mg : Str → Option Value} {base : Heap} {C C_InvalidText fI : Addr}
/-- the refusal at a line and a word -/
def RaI (N : Addr) (H : Hp) (E : XK) (r : Rf) : Prop := ∀ H' d, Same H H' → H d = none → H' d = some (.xd [("word", .int r.2), ("line", .int r.1)]) → E (.ref N) (some d) H'
theorem RaI.mono {N : Addr} {H H1 : Hp} {E : XK} {r : Rf} (h : RaI N H E r) (s : Same H H1) : RaI N H1 E r := fun H' d s' nd hd => h H' d (s.trans s') (s.free nd) hd
theorem RaI.made {N : Addr} {H : Hp} {E : XK} {l k : Int} (h : RaI N H E (l, k)) : ([V.int l, V.int k] : List V).length ≤ 1000 ∧ ∀ a, H a = none → spI2 N "line" "word" (.ref a :: ([V.int l, V.int k] ++ [])) (upd H a (exo a N none)) (XQ N a H E) (fun _ _ _ => False) :=
  made2 fun d H' s nd hd => h H' d s nd hd
def strL (ws : List Str) : HO := .lst (ws.map V.str)
def spWordsT : Sp := fun vs H Q _ => ∃ s : Str, vs = [.str s] ∧ s.length + 2 ≤ sizeLine ∧ ∀ H' p, Same H H' → H p = none → H' p = some (strL (wordsS s)) → Q (.ref p) H'
theorem sc__words : FnScope ["line", "word"] ["line"] (defScope s__words) := ⟨rfl, rfl, rfl, by decide +kernel, rfl, by decide +kernel, by decide +kernel⟩
theorem ok__words {f : Addr} {fd : FuncData} (F : Fun K "_words" "_words" s__words f fd)    : FnOk P w K mg base CX0 1 f fd ["line"] (spWordsT) := by
  refine F.ok sc__words (fun vs H Q E h => ?_) (fun cdv A outer s H vs Q E hr h => ?_)
  · obtain ⟨s, rfl, _⟩ := h
    rfl
  · obtain ⟨s, rfl, hz, k⟩ := h
    have nd := sc__words.nd
    refine ⟨_, pss_one (ps_ret (pe_lc (own := [("word", 1)]) (g := gName 1) (tt := tTru K (tVar 1)) (te := tVar 1) rfl nd (pi_list (pe_split (pv 0) pe_str)) (blkOk_by (own := [("word", 1)]) (N := ["line", "word"]) (sc := defScope s__words) (by decide +kernel)) (fun _ _ _ _ _ => (pg_name (i := 1) nd rfl (Or.inl rfl))) (fun _ _ _ _ _ => (pts_one (pt_truth (pv 1) (by intro _; rfl)))) (fun _ _ _ _ _ => (pv 1)))), ?_⟩
    refine ⟨_, rfl, ⟨_, rfl⟩, s, sp32, rfl, by rw [spS], by decide +kernel, hz, fun p np => ?_⟩
    have s0 := Same_new (o := .lst ((Txt.split s sp32).map V.str)) np
    obtain ⟨ps, hps⟩ : ∃ ps, ps = Txt.split s sp32 := ⟨_, rfl⟩
    have hpl : ps.length ≤ s.length + 2 := by rw [hps]; exact PyProof.Rows.split_le s sp32
    rw [← hps] at s0 ⊢
    refine ⟨p, rfl, ⟨_, SqL.of upd_same⟩, fun D nD => ?_⟩
    have hp : upd (upd H p (.lst (ps.map V.str))) D (.lst []) p = some (.lst (ps.map V.str)) := Same_new nD _ _ upd_same
    refine lc_list (K := K) (a := p) (xs := ps.map V.str) (fun i H' => H' D = some (strL ((ps.take i).filter fun w => !(w.length == 0))) ∧ Same (upd H p (.lst (ps.map V.str))) H') ⟨upd_same, Same_new nD⟩ (fun i H' _ ⟨_, s5⟩ => SqL.of (s5 _ _ upd_same)) ?_ ?_
    · rintro i x H' hx ⟨hD, s5⟩
      rw [List.getElem?_map] at hx
      obtain ⟨y, hy, rfl⟩ : ∃ y, ps[i]? = some y ∧ x = V.str y := by
        cases e : ps[i]? with
        | none => rw [e] at hx; cases hx
        | some z => rw [e] at hx; exact ⟨z, rfl, (Option.some.inj hx).symm⟩
      have hil : i < ps.length := (List.getElem?_eq_some_iff.mp hy).1
      have et : (ps.take (i + 1)).filter (fun w => !(w.length == 0)) = (ps.take i).filter (fun w => !(w.length == 0)) ++ [y].filter (fun w => !(w.length == 0)) := by
        rw [List.take_add_one, hy, List.filter_append]; rfl
      refine ⟨rfl, _, rfl, ((y.length : Int) != 0), ⟨by have := PyProof.Rows.part_short (x := s) (y := sp32) (a := y) (by rw [← hps]; exact List.mem_of_getElem? hy); omega, rfl⟩, ?_⟩
      have eb : ((y.length : Int) != 0) = !(y.length == 0) := by
        cases e : y.length with
        | zero => rfl
        | succ k => simp; omega
      rw [eb]
      refine ite2 (fun c => ?_) (fun c => ?_)
      · refine ⟨_, rfl, _, hD, ?_, ?_, Same_mut s5 nD⟩
        · rw [List.length_map]
          have := List.length_filter_le (fun w : Str => !(w.length == 0)) (ps.take i)
          rw [List.length_take] at this
          omega
        · rw [upd_same, et, List.filter_cons_of_pos (p := fun w : Str => !(w.length == 0)) c]
          show some (HO.lst (_ ++ [V.str y])) = some (HO.lst ((_ ++ [y]).map V.str))
          rw [List.map_append]
          rfl
      · rw [et, List.filter_cons_of_neg (p := fun w : Str => !(w.length == 0)) c, List.filter_nil, List.append_nil]
        exact ⟨hD, s5⟩
    · rintro H' ⟨hD, s5⟩
      rw [List.length_map, List.take_length] at hD
      exact k H' D (s0.trans s5) (s0.free nD) (by rw [hD, hps]; rfl)
-- @prem _words _words  : 
def oV : Option Int → V
  | some n => .int n
  | none => .non
def spNumT : Sp := fun vs H Q _ => ∃ s : Str, vs = [.str s] ∧ s.length ≤ sizeLine ∧ Q (oV (numS s)) H
theorem sc__number : FnScope ["word", "digits", "number"] ["word"] (defScope s__number) := ⟨rfl, rfl, rfl, by decide +kernel, rfl, by decide +kernel, by decide +kernel⟩
theorem ok__number {f : Addr} {fd : FuncData} (F : Fun K "_number" "_number" s__number f fd) {tk_MOST_DIGITS : Tok} (m_len : mg "len" = none) (m_MOST_DIGITS : mg "MOST_DIGITS" = some (.int (31) tk_MOST_DIGITS)) (m_int : mg "int" = none) (m_str : mg "str" = none)  : FnOk P w K mg base CX0 1 f fd ["word"] (spNumT) := by
  refine F.ok sc__number (fun vs H Q E h => ?_) (fun cdv A outer s H vs Q E hr h => ?_)
  · obtain ⟨s, rfl, _⟩ := h
    rfl
  · obtain ⟨s, rfl, hz, k⟩ := h
    have nd := sc__number.nd
    refine ⟨_, pss_cons (ps_set (i := 1) nd rfl (Or.inl rfl) (pe_m1 PySem.F.slot_str_removeprefix PySem.F.type_str_removeprefix mt_removeprefix (pv 0) pe_str))
        (pss_cons (ps_if (PW.pt (pw_or (pt_cmpR op_gt (pe_callB call_len_str (by rfl) m_len PySem.boot_len (pa_cons (pv 1) pa_nil)) (pe_gi m_MOST_DIGITS) (nomark _)) (pw_or (pt_not (pt_val (pe_m0 PySem.F.slot_str_isascii PySem.F.type_str_isascii mt_isascii (pv 1)))) (pw_or1 (pt_not (pt_val (pe_m0 PySem.F.slot_str_isdigit PySem.F.type_str_isdigit mt_isdigit (pv 1)))))))) (pss_one (ps_ret pe_non)) pss_nil)
        (pss_cons (ps_set (i := 2) nd rfl (Or.inl rfl) (pe_callTy (T := "int") call_int_str (by rfl) m_int (by decide +kernel) (pa_cons (pv 0) pa_nil)))
        (pss_one (ps_ret (pe_ifExp (pt_cmpR op_eq (pe_callTy (T := "str") call_str_int (by rfl) m_str (by decide +kernel) (pa_cons (pv 2) pa_nil)) (pv 0) (nomark _)) (pv 2) pe_non))))), ?_⟩
    have hmb := bare_is s
    obtain ⟨d, hd⟩ : ∃ d, d = Txt.removeprefix s minus := ⟨_, rfl⟩
    have hdl : d.length ≤ sizeLine := by
      have a : (bare (L s)).length ≤ (L s).length := by
        unfold bare
        split
        · rename_i r e; rw [e]; simp
        · exact Nat.le_refl _
      rw [← hmb, L_len, L_len, ← hd] at a
      omega
    have ok : okNum s = !(decide (31 < d.length) || !Txt.isascii d || !Txt.isdigit d) := by rw [hd]; rfl
    have bad : okNum s = false → Q .non H := fun e => by
      unfold numS at k
      rw [e] at k
      exact k
    refine ⟨_, rfl, ⟨_, rfl⟩, s, minus, rfl, rfl, hz, ?_⟩
    rw [← hd]
    refine ⟨_, rfl, d, rfl, hdl, _, _, rfl, rfl, _, rfl, ite2 (fun c => ?_) (fun c => ?_)⟩
    · have c' : 31 < d.length := by have := of_decide_eq_true c; omega
      exact bad (by rw [ok, decide_eq_true c']; rfl)
    have c1 : ¬ 31 < d.length := fun z => c (decide_eq_true (by omega))
    rw [decide_eq_false c1] at ok
    refine ⟨_, rfl, ⟨_, rfl⟩, d, rfl, rfl, trivial, _, rfl, ?_⟩
    cases ea : Txt.isascii d with
    | false => exact iteT (bad (by rw [ok, ea]; rfl))
    | true =>
      refine iteF ?_
      rw [ea] at ok
      refine ⟨_, rfl, ⟨_, rfl⟩, d, rfl, rfl, trivial, _, rfl, ?_⟩
      cases ed : Txt.isdigit d with
      | false => exact iteT (bad (by rw [ok, ed]; rfl))
      | true =>
        refine iteF ?_
        rw [ed] at ok
        have ok' : okNum s = true := ok
        obtain ⟨h32, n, hn, hsm⟩ := okNum_num ok'
        refine ⟨_, rfl, s, n, rfl, hn, by omega, ?_⟩
        have hs : numS s = if Tx n = s then some n else none := by
          unfold numS
          rw [if_pos ok', hn]
        rw [hs] at k
        refine ⟨_, rfl, n, rfl, log31 hsm, _, rfl, rfl, _, rfl, ?_⟩
        by_cases e : Tx n = s
        · rw [decide_eq_true (show V.str (Tx n) = V.str s by rw [e])]
          rw [if_pos e] at k
          exact iteT ⟨_, rfl, k⟩
        · rw [decide_eq_false (show ¬ V.str (Tx n) = V.str s from fun z => e (by injection z))]
          rw [if_neg e] at k
          exact iteF k
-- @prem _number _number  : m_len m_MOST_DIGITS m_int m_str
/-- what _number_at hands back -/
def spNumAt (N : Addr) : Sp := fun vs H Q E => ∃ (l a b : Int) (p : Addr) (k : Nat) (ws : List Str), vs = [.int l, .ref p, .int (k : Int), .int a, .int b] ∧ H p = some (strL ws) ∧ 1 ≤ k ∧ (∀ w ∈ ws, w.length ≤ sizeLine) ∧
  (∀ n, numAt l ws k a b = .ok n → Q (.int n) H) ∧ (∀ r, numAt l ws k a b = .error r → RaI N H E r)
theorem sc__number_at : FnScope ["line", "words", "word", "least", "greatest", "number"] ["line", "words", "word", "least", "greatest"] (defScope s__number_at) := ⟨rfl, rfl, rfl, by decide +kernel, rfl, by decide +kernel, by decide +kernel⟩
theorem ok__number_at {f : Addr} {fd : FuncData} (F : Fun K "_number_at" "_number_at" s__number_at f fd)  (m_len : mg "len" = none) (D__number : Dn P w K mg base "_number" ["word"] 1 (spNumT)) (X_InvalidText : FxT P w K mg base "InvalidText" C_InvalidText ["self", "line", "word"] (spI2 C_InvalidText "line" "word"))  : FnOk P w K mg base (L2.CX P w) 3 f fd ["line", "words", "word", "least", "greatest"] (spNumAt C_InvalidText) := by
  refine F.okX sc__number_at (fun vs H Q E h => ?_) (fun cdv A outer s H vs Q E hr h => ?_)
  · obtain ⟨l, a, b, p, j, ws, rfl, _⟩ := h
    rfl
  · obtain ⟨l, a, b, p, j, ws, rfl, hp, j1, hw, kQ, kE⟩ := h
    have nd := sc__number_at.nd
    have hr1 : Room 1 _ := hr.mono (by decide)
    have hr2 : Room 2 _ := hr.mono (by decide)
    refine ⟨_, pss_cons (ps_set (i := 5) nd rfl (Or.inl rfl) (pe_ifExp (pt_cmpR op_le (pv 2) (pe_callB call_len_seq (by rfl) m_len PySem.boot_len (pa_cons (pv 1) pa_nil)) (nomark _)) (pe_dn D__number hr1 (pa_cons (pe_ix ix_list (pv 1) (pe_op op_sub (pv 2) pe_int) (fun _ _ => rfl)) pa_nil)) pe_non))
        (pss_cons (ps_if (PW.pt (pw_or (pt_cmp (pc_isN (pv 5))) (pw_or1 (pt_not (pt_chain op_le op_le (pv 3) (pv 5) (pv 4)))))) (pss_one (ps_raise (W := fun cls d _ H => E cls d H) rfl (takes_of rfl rfl rfl rfl) (pmk_fx X_InvalidText hr2 (pa_cons (pv 0) (pa_cons (pv 2) pa_nil)) rfl))) pss_nil)
        (pss_one (ps_ret (pv 5)))), ?_⟩
    have hl : (ws.map V.str).length = ws.length := List.length_map ..
    obtain ⟨o, ho⟩ : ∃ o, o = (ws[j - 1]?).bind numS := ⟨_, rfl⟩
    refine ⟨_, rfl, _, rfl, p, _, rfl, .inl (SqL.of hp), _, _, rfl, rfl, _, rfl, ?_⟩
    rw [hl]
    refine two_ways (fun v H' => v = oV o ∧ H = H') (fun c Q' kq => ?_) (fun c Q' kq => ?_) ?_
    · have c' : j ≤ ws.length := by have := of_decide_eq_true c; omega
      have e : ws[j - 1]? = some (ws[j - 1]'(by omega)) := List.getElem?_eq_getElem (by omega)
      have e2 : (ws.map V.str)[j - 1]? = some (V.str (ws[j - 1]'(by omega))) := by rw [List.getElem?_map, e]; rfl
      refine ⟨_, rfl, _, rfl, _, _, rfl, rfl, p, _, _, _, rfl, rfl, SqL.of hp, at_of (j := j - 1) (by omega) e2, _, rfl, hw _ (List.getElem_mem _), kq _ _ ⟨?_, rfl⟩⟩
      rw [ho, e]
      rfl
    · have c' : ¬ j ≤ ws.length := fun z => by rw [decide_eq_true (by omega)] at c; cases c
      refine kq _ _ ⟨?_, rfl⟩
      rw [ho, List.getElem?_eq_none (by omega)]
      rfl
    rintro v H' ⟨rfl, rfl⟩
    cases o with
    | none =>
      refine ⟨_, rfl, _, rfl, iteT ?_⟩
      refine ⟨_, rfl, _, rfl, RaI.made (kE (l, j) ?_)⟩
      unfold numAt
      rw [← ho]
    | some n =>
      refine ⟨_, rfl, _, rfl, ?_⟩
      rw [decide_eq_false (show ¬ oV (some n) = V.non from fun z => nomatch z)]
      refine iteF ?_
      refine ⟨_, rfl, _, rfl, _, _, rfl, rfl, _, rfl, ?_⟩
      have hn : numAt l ws j a b = if a ≤ n ∧ n ≤ b then .ok n else .error (l, (j : Int)) := by
        unfold numAt
        rw [← ho]
      by_cases h1 : a ≤ n
      · rw [if_pos (decide_eq_true h1)]
        refine ⟨_, rfl, _, _, rfl, rfl, _, rfl, ?_⟩
        by_cases h2 : n ≤ b
        · rw [decide_eq_true h2]
          refine iteF ⟨_, rfl, kQ n ?_⟩
          rw [hn, if_pos ⟨h1, h2⟩]
        · rw [decide_eq_false h2]
          refine iteT ⟨_, rfl, _, rfl, RaI.made (kE (l, j) ?_)⟩
          rw [hn, if_neg (fun z => h2 z.2)]
      · rw [if_neg (by simp [h1])]
        refine ⟨_, rfl, iteT ⟨_, rfl, _, rfl, RaI.made (kE (l, j) ?_)⟩⟩
        rw [hn, if_neg (fun z => h1 z.1)]
-- @prem _number_at _number_at X : m_len D__number X_InvalidText
def spEndAt (N : Addr) : Sp := fun vs H Q E => ∃ (l : Int) (p : Addr) (k : Nat) (ws : List Str), vs = [.int l, .ref p, .int (k : Int)] ∧ H p = some (strL ws) ∧
  (∀ u, endAt l ws k = .ok u → Q .non H) ∧ (∀ r, endAt l ws k = .error r → RaI N H E r)
theorem sc__check_end : FnScope ["line", "words", "last"] ["line", "words", "last"] (defScope s__check_end) := ⟨rfl, rfl, rfl, by decide +kernel, rfl, by decide +kernel, by decide +kernel⟩
theorem ok__check_end {f : Addr} {fd : FuncData} (F : Fun K "_check_end" "_check_end" s__check_end f fd)  (m_len : mg "len" = none) (X_InvalidText : FxT P w K mg base "InvalidText" C_InvalidText ["self", "line", "word"] (spI2 C_InvalidText "line" "word"))  : FnOk P w K mg base (L2.CX P w) 3 f fd ["line", "words", "last"] (spEndAt C_InvalidText) := by
  refine F.okX sc__check_end (fun vs H Q E h => ?_) (fun cdv A outer s H vs Q E hr h => ?_)
  · obtain ⟨l, p, j, ws, rfl, _⟩ := h
    rfl
  · obtain ⟨l, p, j, ws, rfl, hp, kQ, kE⟩ := h
    have nd := sc__check_end.nd
    have hr2 : Room 2 _ := hr.mono (by decide)
    refine ⟨_, pss_one (ps_if (pt_cmpR op_gt (pe_callB call_len_seq (by rfl) m_len PySem.boot_len (pa_cons (pv 1) pa_nil)) (pv 2) (nomark _)) (pss_one (ps_raise (W := fun cls d _ H => E cls d H) rfl (takes_of rfl rfl rfl rfl) (pmk_fx X_InvalidText hr2 (pa_cons (pv 0) (pa_cons (pe_op op_add (pv 2) pe_int) pa_nil)) rfl))) pss_nil), ?_⟩
    have hl : (ws.map V.str).length = ws.length := List.length_map ..
    refine ⟨_, rfl, p, _, rfl, .inl (SqL.of hp), _, rfl, _, _, rfl, rfl, _, rfl, ?_⟩
    rw [hl]
    refine ite2 (fun c => ?_) (fun c => ?_)
    · have c' : j < ws.length := by have := of_decide_eq_true c; omega
      refine ⟨_, rfl, _, rfl, _, _, rfl, rfl, RaI.made (kE (l, (j : Int) + 1) ?_)⟩
      unfold endAt
      rw [if_pos c']
    · have c' : ¬ j < ws.length := fun z => c (decide_eq_true (by omega))
      refine kQ () ?_
      unfold endAt
      rw [if_neg c']
-- @prem _check_end _check_end X : m_len X_InvalidText
def spReadC (N : Addr) : Sp := fun vs H Q E => ∃ (p : Addr) (ws : List Str), vs = [.ref p] ∧ H p = some (strL ws) ∧ (∀ w ∈ ws, w.length ≤ sizeLine) ∧ (∀ w ∈ ws, PyData.strOk w = true) ∧
  (∀ n, readCount ws = .ok n → ∀ H', Same H H' → Q (.int n) H') ∧ (∀ r, readCount ws = .error r → RaI N H E r)
theorem sc__read_count : FnScope ["words", "many"] ["words"] (defScope s__read_count) := ⟨rfl, rfl, rfl, by decide +kernel, rfl, by decide +kernel, by decide +kernel⟩
theorem ok__read_count {f : Addr} {fd : FuncData} (F : Fun K "_read_count" "_read_count" s__read_count f fd) {tk_GREATEST_COUNT : Tok} (X_InvalidText : FxT P w K mg base "InvalidText" C_InvalidText ["self", "line", "word"] (spI2 C_InvalidText "line" "word")) (D__number_at : DnX P w K mg base "_number_at" ["line", "words", "word", "least", "greatest"] 3 (spNumAt C_InvalidText)) (m_GREATEST_COUNT : mg "GREATEST_COUNT" = some (.int (10 ^ 30) tk_GREATEST_COUNT)) (D__check_end : DnX P w K mg base "_check_end" ["line", "words", "last"] 3 (spEndAt C_InvalidText))  : FnOk P w K mg base (L2.CX P w) 4 f fd ["words"] (spReadC C_InvalidText) := by
  refine F.okX sc__read_count (fun vs H Q E h => ?_) (fun cdv A outer s H vs Q E hr h => ?_)
  · obtain ⟨p, ws, rfl, _⟩ := h
    rfl
  · obtain ⟨p, ws, rfl, hp, hw, hok, kQ, kE⟩ := h
    have nd := sc__read_count.nd
    have hr2 : Room 2 _ := hr.mono (by decide)
    have hr3 : Room 3 _ := hr.mono (by decide)
    refine ⟨_, pss_cons (ps_if (pt_cmpR (op_neD hr.units) (pe_slice sl_list (pv 0) po_none (po_some pe_int)) (pe_lst (pa_cons pe_str pa_nil)) (nomark _)) (pss_one (ps_raise (W := fun cls d _ H => E cls d H) rfl (takes_of rfl rfl rfl rfl) (pmk_fx X_InvalidText hr2 (pa_cons pe_int (pa_cons pe_int pa_nil)) rfl))) pss_nil)
        (pss_cons (ps_set (i := 1) nd rfl (Or.inl rfl) (pe_dnX (W := fun cls d _ H => E cls d H) D__number_at hr3 (takes_of rfl rfl rfl rfl) (pa_cons pe_int (pa_cons (pv 0) (pa_cons pe_int (pa_cons pe_int (pa_cons (pe_gi m_GREATEST_COUNT) pa_nil)))))))
        (pss_cons (ps_expr (pe_dnX (W := fun cls d _ H => E cls d H) D__check_end hr3 (takes_of rfl rfl rfl rfl) (pa_cons pe_int (pa_cons (pv 0) (pa_cons pe_int pa_nil)))))
        (pss_one (ps_ret (pv 1))))), ?_⟩
    have e1 : cutV (ws.map V.str) none (some 1) = (ws.take 1).map V.str := by
      cases ws with
      | nil => rfl
      | cons x r => exact (cut_to (t := 1) (by simp)).trans (by simp)
    refine ⟨_, rfl, 1, rfl, p, _, rfl, SqL.of hp, fun z nz => ⟨(by show 1 ≤ sizeLine; decide), fun y ny => ?_⟩⟩
    rw [e1] at ny ⊢
    have sz := Same_new (o := .lst ((ws.take 1).map V.str)) nz
    have sy := Same_new2 (o := .lst [V.str (Str.ofString "count")]) sz ny
    have hp2 := sy _ _ hp
    have hz2 : upd (upd H z (.lst ((ws.take 1).map V.str))) y (.lst [V.str (Str.ofString "count")]) z = some (.lst ((ws.take 1).map V.str)) := Same_new ny _ _ upd_same
    refine ⟨_, _, .lst (SqL.of hz2) (strs_dp (ws.take 1)), .lst (SqL.of upd_same) (strs_dp [countW]), shaped_strs _ (fun w hw' => hok w (List.mem_of_mem_take hw')), shaped_strs _ (fun w hw' => by rw [List.mem_singleton.mp hw']; decide +kernel), ?_⟩
    rw [eqv_strs]
    refine ⟨_, rfl, ?_⟩
    by_cases c : ws.take 1 = [countW]
    · rw [decide_eq_true c]
      refine iteF ?_
      refine ⟨_, rfl, 1, 1, 10 ^ 30, p, 2, ws, rfl, hp2, by decide, hw, fun n hn => ?_, fun r hr => (kE r (readCount_3 c hr)).mono sy⟩
      refine ⟨_, rfl, 1, p, 2, ws, rfl, hp2, fun u hu => ?_, fun r hr => (kE r (readCount_2 c hn hr)).mono sy⟩
      exact ⟨_, rfl, kQ n (readCount_1 c hn hu) _ sy⟩
    · rw [decide_eq_false c]
      refine iteT (RaI.made ((kE (1, 1) ?_).mono sy))
      unfold readCount
      rw [if_neg c]
-- @prem _read_count _read_count X : X_InvalidText D__number_at m_GREATEST_COUNT D__check_end
def spReadE (N : Addr) : Sp := fun vs H Q E => ∃ (l least many : Int) (p : Addr) (ws : List Str), vs = [.int l, .ref p, .int least, .int many] ∧ H p = some (strL ws) ∧ (∀ w ∈ ws, w.length ≤ sizeLine) ∧
  (∀ e, readEntry l ws least many = .ok e → ∀ H' t, Same H H' → H t = none → H' t = some (.tup [.int e.1, .int e.2.1, .int e.2.2]) → Q (.ref t) H') ∧ (∀ r, readEntry l ws least many = .error r → RaI N H E r)
theorem sc__read_entry : FnScope ["line", "words", "least", "many", "value", "low", "high"] ["line", "words", "least", "many"] (defScope s__read_entry) := ⟨rfl, rfl, rfl, by decide +kernel, rfl, by decide +kernel, by decide +kernel⟩
theorem ok__read_entry {f : Addr} {fd : FuncData} (F : Fun K "_read_entry" "_read_entry" s__read_entry f fd) {tk_GREATEST_VALUE : Tok} (D__number_at : DnX P w K mg base "_number_at" ["line", "words", "word", "least", "greatest"] 3 (spNumAt C_InvalidText)) (m_GREATEST_VALUE : mg "GREATEST_VALUE" = some (.int (10 ^ 30) tk_GREATEST_VALUE)) (D__check_end : DnX P w K mg base "_check_end" ["line", "words", "last"] 3 (spEndAt C_InvalidText))  : FnOk P w K mg base (L2.CX P w) 4 f fd ["line", "words", "least", "many"] (spReadE C_InvalidText) := by
  refine F.okX sc__read_entry (fun vs H Q E h => ?_) (fun cdv A outer s H vs Q E hr h => ?_)
  · obtain ⟨l, least, many, p, ws, rfl, _⟩ := h
    rfl
  · obtain ⟨l, least, many, p, ws, rfl, hp, hw, kQ, kE⟩ := h
    have nd := sc__read_entry.nd
    have hr3 : Room 3 _ := hr.mono (by decide)
    refine ⟨_, pss_cons (ps_set (i := 4) nd rfl (Or.inl rfl) (pe_dnX (W := fun cls d _ H => E cls d H) D__number_at hr3 (takes_of rfl rfl rfl rfl) (pa_cons (pv 0) (pa_cons (pv 1) (pa_cons pe_int (pa_cons (pv 2) (pa_cons (pe_gi m_GREATEST_VALUE) pa_nil)))))))
        (pss_cons (ps_set (i := 5) nd rfl (Or.inl rfl) (pe_dnX (W := fun cls d _ H => E cls d H) D__number_at hr3 (takes_of rfl rfl rfl rfl) (pa_cons (pv 0) (pa_cons (pv 1) (pa_cons pe_int (pa_cons pe_int (pa_cons (pv 3) pa_nil)))))))
        (pss_cons (ps_set (i := 6) nd rfl (Or.inl rfl) (pe_dnX (W := fun cls d _ H => E cls d H) D__number_at hr3 (takes_of rfl rfl rfl rfl) (pa_cons (pv 0) (pa_cons (pv 1) (pa_cons pe_int (pa_cons (pv 5) (pa_cons (pv 3) pa_nil)))))))
        (pss_cons (ps_expr (pe_dnX (W := fun cls d _ H => E cls d H) D__check_end hr3 (takes_of rfl rfl rfl rfl) (pa_cons (pv 0) (pa_cons (pv 1) (pa_cons pe_int pa_nil)))))
        (pss_one (ps_ret (pe_tup (pa_cons (pv 4) (pa_cons (pv 5) (pa_cons (pv 6) pa_nil))))))))), ?_⟩
    refine ⟨_, rfl, _, rfl, _, rfl, l, least, 10 ^ 30, p, 1, ws, rfl, hp, by decide, hw, fun v hv => ?_, fun r hr => kE r (by unfold readEntry; rw [hr])⟩
    refine ⟨_, rfl, _, rfl, _, rfl, l, 1, many, p, 2, ws, rfl, hp, by decide, hw, fun a ha => ?_, fun r hr => kE r (by unfold readEntry; rw [hv]; dsimp only; rw [hr])⟩
    refine ⟨_, rfl, _, rfl, _, rfl, _, rfl, l, a, many, p, 3, ws, rfl, hp, by decide, hw, fun b hb => ?_, fun r hr => kE r (by unfold readEntry; rw [hv]; dsimp only; rw [ha]; dsimp only; rw [hr])⟩
    refine ⟨_, rfl, _, rfl, l, p, 3, ws, rfl, hp, fun u hu => ?_, fun r hr => kE r (by unfold readEntry; rw [hv]; dsimp only; rw [ha]; dsimp only; rw [hb]; dsimp only; rw [hr])⟩
    refine ⟨_, rfl, _, rfl, _, rfl, (by show 3 ≤ sizeLine; decide), fun z nz => kQ (v, a, b) ?_ _ z (Same_new nz) nz upd_same⟩
    unfold readEntry
    rw [hv]; dsimp only; rw [ha]; dsimp only; rw [hb]; dsimp only; rw [hu]
-- @prem _read_entry _read_entry X : D__number_at m_GREATEST_VALUE D__check_end
def spWriteT (C : Addr) : Sp := fun vs H Q _ => ∃ (v : V) (n : Int) (es : List Ent), vs = [v] ∧ SumV C H v n es ∧ Valid n es ∧ ∀ H', Same H H' → Q (.str (textS n es)) H'
theorem sc_write_summary : FnScope ["summary", "lines", "value", "low", "high"] ["summary"] (defScope s_write_summary) := ⟨rfl, rfl, rfl, by decide +kernel, rfl, by decide +kernel, by decide +kernel⟩
theorem ok_write_summary {f : Addr} {fd : FuncData} (F : Fun K "write_summary" "write_summary" s_write_summary f fd)  (D_check_summary : Dn P w K mg base "check_summary" ["summary"] 1 (spCkSum C)) (T : SumT K mg C) (DM : Pr P w K mg base C "many" 1 (getSp C "_many")) (DE : Pr P w K mg base C "entries" 1 (getSp C "_entries"))  : FnOk P w K mg base CX0 3 f fd ["summary"] (spWriteT C) := by
  refine F.ok sc_write_summary (fun vs H Q E h => ?_) (fun cdv A outer s H vs Q E hr h => ?_)
  · obtain ⟨v, n, es, rfl, _⟩ := h
    rfl
  · obtain ⟨v, n, es, rfl, hS, hv, k⟩ := h
    have nd := sc_write_summary.nd
    have hr1 : Room 1 _ := hr.mono (by decide)
    have hr2 : Room 2 _ := hr.mono (by decide)
    refine ⟨_, pss_cons (ps_expr (pe_dn D_check_summary hr1 (pa_cons (pv 0) pa_nil)))
        (pss_cons (ps_set (i := 1) nd rfl (Or.inl rfl) (pe_lst (pa_cons (pe_fstr (.cons pe_str (.cons (pe_fmt (pe_pr DM T.ic.cl hr2 (pv 0))) .nil))) pa_nil)))
        (pss_cons (ps_expr (pe_bm PySem.F.plainAttrs_list PySem.F.slot_list_extend PySem.F.type_list_extend mt_extend (pv 1) (pa_cons (pe_lc (own := [("value", 2), ("low", 3), ("high", 4)]) (g := gTup K 3 (gCons (gName 2) (gCons (gName 3) (gCons (gName 4) gNil)))) (tt := tYes) (te := tFs [tFmt (tVar 2), tC (.str (PySem.Str.ofString " ")), tFmt (tVar 3), tC (.str (PySem.Str.ofString " ")), tFmt (tVar 4)]) rfl nd (pi_tup (pe_pr DE T.ic.cl hr2 (pv 0))) (blkOk_by (own := [("value", 2), ("low", 3), ("high", 4)]) (N := ["summary", "lines", "value", "low", "high"]) (sc := defScope s_write_summary) (by decide +kernel)) (fun _ _ _ _ _ => (pg_tup rfl (pgs_cons (pg_name (i := 2) nd rfl (Or.inl rfl)) (pgs_cons (pg_name (i := 3) nd rfl (Or.inl rfl)) (pgs_cons (pg_name (i := 4) nd rfl (Or.inl rfl)) pgs_nil))))) (fun _ _ _ _ _ => pts_nil) (fun _ _ _ _ _ => (pe_fstr (.cons (pe_fmt (pv 2)) (.cons pe_str (.cons (pe_fmt (pv 3)) (.cons pe_str (.cons (pe_fmt (pv 4)) .nil)))))))) pa_nil)))
        (pss_one (ps_ret (pe_join pe_str (pv 1)))))), ?_⟩
    obtain ⟨p, dx, u, rfl, hp, a, vs, rfl, ha, he⟩ := id hS
    have hl : vs.length = es.length := he.len
    have h12 := hv.len
    have hh := head_len hv.n1 hv.n2
    have hT := Tx_small (v := n) (by have := hv.n1; omega) hv.n2
    refine ⟨_, rfl, _, n, es, rfl, hS, ?_⟩
    refine ⟨_, rfl, (by show (Str.empty ++ Str.ofString "count ").length ≤ sizeLine; decide +kernel), _, rfl, p, dx, _, rfl, hp, p, dx, _, _, rfl, hp, sfl_many _ _, .inr ⟨n, rfl, log31 (small31 (by have := hv.n1; omega) hv.n2), _, rfl, ?_, ?_⟩⟩
    · rw [Str.empty_append]
      exact size1000 (Nat.le_trans hh (by decide))
    rw [Str.empty_append]
    refine ⟨(by show 1 ≤ sizeLine; decide), fun z nz => ?_⟩
    have sz := Same_new (o := .lst [V.str (headS n)]) nz
    have hp1 := sz _ _ hp
    refine ⟨_, rfl, .inl ⟨rfl, _, SqL.of upd_same⟩, _, rfl, p, dx, _, rfl, hp1, p, dx, _, _, rfl, hp1, sfl_entries _ _, a, rfl, ⟨_, SqT.of (sz _ _ ha)⟩, fun D nD => ?_⟩
    refine lc_tup (K := K) (a := a) (xs := vs) (fun i H' => H' D = some (.lst (((es.take i).map lineS).map V.str)) ∧ Same (upd H z (.lst [V.str (headS n)])) H') ⟨upd_same, Same_new nD⟩ (fun i H' _ ⟨_, s5⟩ => SqT.of (s5 _ _ (sz _ _ ha))) ?_ ?_
    · rintro i x H' hx ⟨hD, s5⟩
      obtain ⟨e, hei, t, rfl, ht⟩ := pr_at' he hx
      have hil : i < es.length := (List.getElem?_eq_some_iff.mp hei).1
      obtain ⟨l0, l1, l2, l3⟩ := line_len hv hei
      have hent := hv.ent i hil
      rw [vl_of hei, lo_of hei, hi_of hei] at hent
      obtain ⟨b1, b2, b3, b4, b5⟩ := hent
      have n2 := hv.n2
      refine ⟨t, _, rfl, SqT.of (s5 _ _ (sz _ _ ht)), rfl, _, _, rfl, _, _, rfl, _, _, rfl, rfl, rfl, tyes_of ?_⟩
      rw [if_pos rfl]
      have s1 : (Str.ofString " ").length = 1 := by decide +kernel
      have l1 : (Str.ofString (toString e.1)).length ≤ 32 := l1
      have l2 : (Str.ofString (toString e.2.1)).length ≤ 32 := l2
      have l3 : (Str.ofString (toString e.2.2)).length ≤ 32 := l3
      refine ⟨_, rfl, .inr ⟨e.1, rfl, log31 (small31 b1 b2), _, rfl, ?_, _, rfl, ?_, _, rfl, .inr ⟨e.2.1, rfl, log31 (small31 (by omega) (by omega)), _, rfl, ?_, _, rfl, ?_, _, rfl, .inr ⟨e.2.2, rfl, log31 (small31 (by omega) (by omega)), _, rfl, ?_, ?_⟩⟩⟩⟩
      · rw [Str.empty_append]; exact size1000 (by omega)
      · rw [Str.empty_append, Str.length_append, s1]; exact size1000 (by omega)
      · rw [Str.empty_append, Str.length_append, Str.length_append, s1]; exact size1000 (by omega)
      · rw [Str.empty_append, Str.length_append, Str.length_append, Str.length_append, s1]; exact size1000 (by omega)
      · rw [Str.empty_append, Str.length_append, Str.length_append, Str.length_append, Str.length_append, s1]; exact size1000 (by omega)
      rw [Str.empty_append, spS]
      refine ⟨_, hD, ?_, ?_, Same_mut s5 nD⟩
      · rw [List.length_map, List.length_map, List.length_take]
        exact small1000 (by omega)
      · rw [upd_same, List.take_add_one, hei, List.map_append, List.map_append]
        rfl
    rintro H1 ⟨hD, s1⟩
    rw [hl, List.take_length] at hD
    have hz1 := s1 _ _ (upd_same (H := H) (a := z) (o := .lst [V.str (headS n)]))
    refine ⟨z, D, _, _, rfl, rfl, hz1, hD, ?_, ?_⟩
    · rw [List.length_map, List.length_map]
      exact size1000 (by simp; omega)
    have sAll : Same H (upd H1 z (.lst ([V.str (headS n)] ++ (es.map lineS).map V.str))) := Same_mut (sz.trans s1) nz
    obtain ⟨r1, r2⟩ := rows_sum hv
    refine ⟨⟨_, rfl⟩, _, rfl, nl10, z, rowsS n es, by rw [nlS], rfl, .inl (SqL.of upd_same), ?_, k _ sAll⟩
    rw [show nl10.length = 1 by decide +kernel]
    omega
-- @prem write_summary write_summary  : D_check_summary T DM DE
def spReadT (C N : Addr) : Sp := fun vs H Q E => ∃ (t : Str), vs = [.str t] ∧ t.length + 2 ≤ sizeLine ∧ PyData.strOk t = true ∧
  (∀ n es, readS t = .ok (n, es) → ∀ H' p, Same H H' → SumV C H' (.ref p) n es → Q (.ref p) H') ∧ (∀ r, readS t = .error r → RaI N H E r)
theorem sc_read_summary : FnScope ["text", "lines", "many", "entries", "least", "line", "written", "entry"] ["text"] (defScope s_read_summary) := ⟨rfl, rfl, rfl, by decide +kernel, rfl, by decide +kernel, by decide +kernel⟩
theorem ok_read_summary {f : Addr} {fd : FuncData} (F : Fun K "read_summary" "read_summary" s_read_summary f fd) {tk_GREATEST_VALUE : Tok} {tk_MOST_ENTRIES : Tok} (D__read_count : DnX P w K mg base "_read_count" ["words"] 4 (spReadC C_InvalidText)) (D__words : Dn P w K mg base "_words" ["line"] 1 (spWordsT)) (m_GREATEST_VALUE : mg "GREATEST_VALUE" = some (.int (10 ^ 30) tk_GREATEST_VALUE)) (m_enumerate : mg "enumerate" = none) (m_len : mg "len" = none) (m_MOST_ENTRIES : mg "MOST_ENTRIES" = some (.int (12) tk_MOST_ENTRIES)) (X_InvalidText : FxT P w K mg base "InvalidText" C_InvalidText ["self", "line", "word"] (spI2 C_InvalidText "line" "word")) (D__read_entry : DnX P w K mg base "_read_entry" ["line", "words", "least", "many"] 4 (spReadE C_InvalidText)) (T : SumT K mg C) (DS : DnMk P w K mg base C) (m_tuple : mg "tuple" = none)  : FnOk P w K mg base (L2.CX P w) 8 f fd ["text"] (spReadT C C_InvalidText) := by
  refine F.okX sc_read_summary (fun vs H Q E h => ?_) (fun cdv A outer s H vs Q E hr h => ?_)
  · obtain ⟨t, rfl, _⟩ := h
    rfl
  · obtain ⟨t, rfl, hz, hok, kQ, kE⟩ := h
    have nd := sc_read_summary.nd
    have hr1 : Room 1 _ := hr.mono (by decide)
    have hr2 : Room 2 _ := hr.mono (by decide)
    have hr4 : Room 4 _ := hr.mono (by decide)
    have hr7 : Room 7 _ := hr.mono (by decide)
    refine ⟨_, pss_cons (ps_set (i := 1) nd rfl (Or.inl rfl) (pe_split (pv 0) pe_str))
        (pss_cons (ps_set (i := 2) nd rfl (Or.inl rfl) (pe_dnX (W := fun cls d _ H => E cls d H) D__read_count hr4 (takes_of rfl rfl rfl rfl) (pa_cons (pe_dn D__words hr1 (pa_cons (pe_ix ix_list (pv 1) pe_int (fun _ _ => rfl)) pa_nil)) pa_nil)))
        (pss_cons (ps_set (i := 3) nd rfl (Or.inl rfl) (pe_lst pa_nil))
        (pss_cons (ps_set (i := 4) nd rfl (Or.inl rfl) (pe_un un_neg (pe_gi m_GREATEST_VALUE)))
        (pss_cons (ps_for (passes_of rfl) rfl (pi_enumS (by rfl) m_enumerate (pa_cons (pe_slice sl_list (pv 1) (po_some pe_int) po_none) pa_nil) (pk_cons pe_int pk_nil)) (pg_tup rfl (pgs_cons (pg_name (i := 5) nd rfl (Or.inl rfl)) (pgs_cons (pg_name (i := 6) nd rfl (Or.inl rfl)) pgs_nil)))
        (pss_cons (ps_if (pt_cmpR op_eq (pe_callB call_len_seq (by rfl) m_len PySem.boot_len (pa_cons (pv 3) pa_nil)) (pe_gi m_MOST_ENTRIES) (nomark _)) (pss_one (ps_raise (W := fun cls d _ H => E cls d H) rfl (takes_of rfl rfl rfl rfl) (pmk_fx X_InvalidText hr2 (pa_cons (pv 5) (pa_cons pe_int pa_nil)) rfl))) pss_nil)
        (pss_cons (ps_set (i := 7) nd rfl (Or.inl rfl) (pe_dnX (W := fun cls d _ H => E cls d H) D__read_entry hr4 (takes_of rfl rfl rfl rfl) (pa_cons (pv 5) (pa_cons (pe_dn D__words hr1 (pa_cons (pv 6) pa_nil)) (pa_cons (pv 4) (pa_cons (pv 2) pa_nil))))))
        (pss_cons (ps_expr (pe_bm PySem.F.plainAttrs_list PySem.F.slot_list_append PySem.F.type_list_append mt_append (pv 3) (pa_cons (pv 7) pa_nil)))
        (pss_one (ps_set (i := 4) nd rfl (Or.inl rfl) (pe_ix ix_tup (pv 7) pe_int (fun _ _ => rfl))))))))
        (pss_one (ps_ret (pe_mkS DS T hr7 (pa_cons (pv 2) (pa_cons (pe_callTy (T := "tuple") call_tupK (by rfl) m_tuple (by decide +kernel) (pa_cons (pv 3) pa_nil)) pa_nil))))))))), ?_⟩
    refine ⟨_, rfl, ⟨_, rfl⟩, t, nl10, rfl, by rw [nlS], by decide +kernel, hz, fun p np => ?_⟩
    obtain ⟨ps, hps⟩ : ∃ ps, ps = Txt.split t nl10 := ⟨_, rfl⟩
    have hpl : ps.length ≤ t.length + 2 := by rw [hps]; exact PyProof.Rows.split_le t nl10
    have hshort : ∀ w ∈ ps, w.length ≤ t.length := fun w hw => PyProof.Rows.part_short (x := t) (y := nl10) (a := w) (by rw [← hps]; exact hw)
    have hoks : ∀ w ∈ ps, PyData.strOk w = true := fun w hw => split_ok hok w (by rw [hps] at hw; exact hw)
    rw [← hps]
    have hp0 : upd H p (.lst (ps.map V.str)) p = some (.lst (ps.map V.str)) := upd_same
    have sp0 := Same_new (o := .lst (ps.map V.str)) np
    obtain ⟨H0, e0⟩ : ∃ H0, H0 = upd H p (.lst (ps.map V.str)) := ⟨_, rfl⟩
    rw [← e0] at hp0 sp0 ⊢
    obtain ⟨s0, r, hsr⟩ : ∃ s0 r, ps = s0 :: r := by
      cases e : ps with
      | nil => exact absurd (by rw [← hps]; exact e) (split_ne t nl10)
      | cons x y => exact ⟨x, y, rfl⟩
    have hs := hps.symm.trans hsr
    have ms : s0 ∈ ps := by rw [hsr]; exact List.mem_cons_self ..
    refine ⟨_, rfl, p, _, 0, _, rfl, rfl, SqL.of hp0, atI_nat (j := 0) (by rw [hsr]; rfl), s0, rfl, by have := hshort s0 ms; omega, fun H1 q1 s1 nq1 hq1 => ?_⟩
    refine ⟨q1, wordsS s0, rfl, hq1, fun w hw => ?_, words_ok (hoks s0 ms), fun n hn H2 s2 => ?_, fun r' hr => ((kE r' (readS_3 hs hr)).mono sp0).mono s1⟩
    · have := words_short (t := s0) w hw
      have := hshort s0 ms
      omega
    have s02 := (sp0.trans s1).trans s2
    have hp2 := s2 _ _ (s1 _ _ hp0)
    refine ⟨Nat.zero_le _, fun q nq => ?_⟩
    refine ⟨_, rfl, ?_⟩
    have hp3 : upd H2 q (.lst []) p = some (.lst (ps.map V.str)) := Same_new nq _ _ hp2
    have s03 := Same_new2 (o := .lst []) s02 nq
    refine ⟨_, rfl, 1, rfl, p, _, rfl, SqL.of hp3, fun z nz => ?_⟩
    have ec : cutV (ps.map V.str) (some 1) none = r.map V.str := by
      rw [show cutV (ps.map V.str) (some 1) none = (ps.map V.str).drop 1 from cut_from (t := 1) (by rw [hsr]; simp), hsr]
      rfl
    rw [ec]
    have hq4 : upd (upd H2 q (.lst [])) z (.lst (r.map V.str)) q = some (.lst []) := Same_new nz _ _ upd_same
    have s04 := Same_new2 (o := .lst (r.map V.str)) s03 nz
    have hn12 := readCount_bd hn
    refine ⟨z, _, 2, rfl, rfl, by decide, by decide, SqL.of upd_same, for_enumS (K := K) (a := z) (k0 := 2) (xs := r.map V.str) (fun i σ H' => ∃ (us : List V) (es : List Ent) (y5 y6 y7 : Option V), σ = [some (.str t), some (.ref p), some (.int n), some (.ref q), some (.int (leastOf es)), y5, y6, y7] ∧
        Same H H' ∧ Same (upd (upd H2 q (.lst [])) z (.lst (r.map V.str))) (upd H' q (.lst [])) ∧ H' z = some (.lst (r.map V.str)) ∧ H' q = some (.lst us) ∧ EntsV H' us es ∧ Valid n es ∧ readRest n (r.drop i) (2 + (i : Int)) es = readRest n r 2 [])
        ⟨[], [], none, none, none, rfl, s04, ?_, upd_same, hq4, .nil, valid_nil hn12.1 hn12.2, rfl⟩ (fun i σ H' ⟨_, _, _, _, _, _, _, _, hz', _⟩ => SqL.of hz') ?_ ?_⟩
    · intro b o hb
      by_cases e : b = q
      · subst e; rw [upd_same]; rw [hq4] at hb; exact hb
      · rw [upd_ne e]; exact hb
    · rintro i x T σ H' hx ⟨us, es, y5, y6, y7, rfl, s5, sq5, hz5, hq5, hus, hval, hrest⟩ nT
      rw [List.getElem?_map] at hx
      obtain ⟨y, hy, rfl⟩ : ∃ y, r[i]? = some y ∧ x = V.str y := by
        cases e : r[i]? with
        | none => rw [e] at hx; cases hx
        | some z => rw [e] at hx; exact ⟨z, rfl, (Option.some.inj hx).symm⟩
      have hil : i < r.length := (List.getElem?_eq_some_iff.mp hy).1
      have my : y ∈ ps := by rw [hsr]; exact List.mem_cons_of_mem _ (List.mem_of_getElem? hy)
      have hdrop : r.drop i = y :: r.drop (i + 1) := by rw [List.drop_eq_getElem_cons hil, (List.getElem?_eq_some_iff.mp hy).2]
      rw [hdrop] at hrest
      have lus := hus.len
      have sT := Same_new (o := .tup [.int (2 + (i : Int)), .str y]) nT
      have hq6 := sT _ _ hq5
      have hz6 := sT _ _ hz5
      refine ⟨T, _, rfl, SqT.of upd_same, rfl, _, _, rfl, _, _, rfl, rfl, ?_⟩
      refine ⟨_, rfl, q, _, rfl, .inl (SqL.of hq6), rfl, _, rfl, ?_⟩
      refine ite2 (fun c => ?_) (fun c => ?_)
      · have c12 : es.length = 12 := by
          have c' : V.int (us.length : Int) = V.int 12 := of_decide_eq_true c
          have := V.int.inj c'
          omega
        exact ⟨_, rfl, RaI.made (((kE (2 + (i : Int), 1) (readS_2 hs hn (by rw [← hrest]; exact readRest_1 c12))).mono s5).mono sT)⟩
      have c12 : es.length ≠ 12 := fun h => c (decide_eq_true (by rw [lus, h]; rfl))
      refine ⟨_, rfl, _, rfl, y, rfl, by have := hshort y my; omega, fun H7 q7 s7 nq7 hq7 => ?_⟩
      refine ⟨_, rfl, _, rfl, 2 + (i : Int), leastOf es, n, q7, wordsS y, rfl, hq7, fun w hw => ?_, fun e he H8 t8 s8 nt8 ht8 => ?_, fun r' hr => (((kE r' (readS_2 hs hn (by rw [← hrest]; exact readRest_2 c12 hr))).mono s5).mono sT).mono s7⟩
      · have := words_short (t := y) w hw
        have := hshort y my
        omega
      have s68 := (sT.trans s7).trans s8
      have hq8 := s8 _ _ (s7 _ _ hq6)
      have bd := readEntry_bd he
      have l12 := hval.len
      refine ⟨_, rfl, .inl ⟨rfl, _, SqL.of hq8⟩, _, rfl, q, _, _, rfl, rfl, hq8, by rw [lus]; exact small1000 (by omega), ?_⟩
      have ht9 : upd H8 q (.lst (us ++ [.ref t8])) t8 = some (.tup [.int e.1, .int e.2.1, .int e.2.2]) := by
        rw [upd_ne (ne_of ht8 hq8 (by intro z; cases z))]; exact ht8
      have nqH : H q = none := by
        cases e : H q with
        | none => rfl
        | some o => have := s02 _ _ e; rw [nq] at this; cases this
      refine ⟨_, rfl, t8, _, 0, _, rfl, rfl, SqT.of ht9, atI_nat (j := 0) rfl, ?_⟩
      refine ⟨us ++ [.ref t8], es ++ [e], _, _, _, by rw [leastOf_snoc]; rfl, Same_mut (s5.trans s68) nqH, ?_, ?_, upd_same, ?_, hval.snoc (by omega) bd.1 bd.2.1 bd.2.2.1 bd.2.2.2.1 bd.2.2.2.2, ?_⟩
      · intro b o hb
        by_cases eb : b = q
        · subst eb; rw [upd_same]; rw [hq4] at hb; exact hb
        · have h1 := sq5 _ _ hb
          rw [upd_ne eb] at h1
          rw [upd_ne eb, upd_ne eb]
          exact s68 _ _ h1
      · have zq : z ≠ q := fun e => by
          rw [e, upd_same] at nz
          cases nz
        rw [upd_ne zq]
        exact s68 _ _ hz5
      · refine pr_app (Paired.mapP hus fun v w' ⟨t2, ev, et2⟩ => ⟨t2, ev, ?_⟩) (.cons ⟨t8, rfl, ht9⟩ .nil)
        have := s68 _ _ et2
        rw [upd_ne (ne_of this hq8 (by intro z; cases z))]; exact this
      · rw [← hrest, readRest_3 c12 he, show (2 + ((i + 1 : Nat) : Int)) = 2 + (i : Int) + 1 by omega]
    · rintro σ H' ⟨us, es, y5, y6, y7, rfl, s5, sq5, hz5, hq5, hus, hval, hrest⟩
      rw [List.length_map, List.drop_length] at hrest
      have hres : readS t = .ok (n, es) := readS_1 hs hn (by rw [← hrest]; rfl)
      refine ⟨_, rfl, _, rfl, q, _, rfl, .inl ⟨SqL.of hq5, fun r2 nr2 => ?_⟩⟩
      have sr := Same_new (o := .tup us) nr2
      exact fun x dx nx nd' ne => sum_mk ⟨r2, _, rfl, upd_same, hus.mono sr⟩ hval nx nd' ne fun H9 s9 hs9 => kQ n es hres H9 x ((s5.trans sr).trans s9) hs9
-- @prem read_summary read_summary X : D__read_count D__words m_GREATEST_VALUE m_enumerate m_len m_MOST_ENTRIES X_InvalidText D__read_entry T DS m_tuple
end
end SR

set_option Elab.async false
set_option linter.all false
set_option maxRecDepth 100000
set_option maxHeartbeats 4000000
namespace SR
open PySem PySem.Spec PyProof.Rows L2

section
variable {P : Program} {w : World} {K : PySem.W.Frag} {mg : Str → Option Value} {base : Heap} {C C_InvalidText C_RankError fI : Addr}
/-- a text and a word, in a list -/
def PairV (H : Hp) (v : V) (s : Str) (k : Int) : Prop := ∃ t, v = .ref t ∧ H t = some (.lst [.str s, .int k])
theorem PairV.mono {H H' : Hp} (st : Same H H') {v : V} {s : Str} {k : Int} (h : PairV H v s k) : PairV H' v s k := let ⟨t, a, b⟩ := h; ⟨t, a, st _ _ b⟩
/-- such a pair with a fault -/
def FaV (Pd : Str → Int → Prop) (H : Hp) (v : V) : Prop := ∃ s k, PairV H v s k ∧ Pd s k
theorem FaV.mono {Pd : Str → Int → Prop} {H H' : Hp} {v : V} (h : FaV Pd H v) (s : Same H H') : FaV Pd H' v := let ⟨a, b, c, d⟩ := h; ⟨a, b, c.mono s, d⟩
theorem FaV.put {Pd : Str → Int → Prop} {H : Hp} {v : V} {q : Addr} {l : List V} {o : HO} (h : FaV Pd H v) (hq : H q = some (.lst l)) (hl : 3 ≤ l.length) : FaV Pd (upd H q o) v := by
  obtain ⟨s, k, ⟨t, a, b⟩, d⟩ := h
  refine ⟨s, k, ⟨t, a, ?_⟩, d⟩
  rw [upd_ne (fun z => ?_)]
  · exact b
  · rw [z, hq] at b
    injection b with b; injection b with b
    rw [b] at hl
    exact absurd hl (by simp)
/-- it is no source of draws -/
theorem pair_ne {H : Hp} {p c t : Addr} (D : DrawAt H p c) {s : Str} {x : Int} (h : H t = some (.lst [.str s, .int x])) : t ≠ p ∧ t ≠ c := by
  obtain ⟨s', i, cs, h1, h2, _⟩ := D
  refine ⟨fun z => ?_, fun z => ?_⟩
  · rw [z, h1] at h
    injection h with h; injection h with h; injection h with h _; cases h
  · rw [z, h2] at h
    injection h with h; injection h with h
    match cs, h with
    | y :: r, h => rw [List.map_cons] at h; injection h with h _; cases h
def spEF : Sp := fun vs H Q _ => ∃ (p c : Addr) (k : Nat) (u : V) (n : Int) (es : List Ent), vs = [.ref p, .int (k : Int), .int n, u] ∧ DrawAt H p c ∧ TupV H u es ∧ Valid n es ∧ k < es.length ∧
  ∀ H' t s x, DrawAt H' p c → SameD p c H H' → t ≠ p → t ≠ c → H' t = some (.lst [.str s, .int x]) → Flt n es k s x → Q (.ref t) H'
theorem sc__law_entry_fault : FnScope ["_law_h", "_law_k", "_law_many", "_law_entries", "_law_value", "_law_low", "_law_high", "_law_v", "_law_a", "_law_b", "_law_bad"] ["_law_h", "_law_k", "_law_many", "_law_entries"] (defScope s__law_entry_fault) := ⟨rfl, rfl, rfl, by decide +kernel, rfl, by decide +kernel, by decide +kernel⟩
set_option maxHeartbeats 16000000 in
theorem ok__law_entry_fault {f : Addr} {fd : FuncData} (F : Fun K "_law_entry_fault" "_law_entry_fault" s__law_entry_fault f fd)  (m_str : mg "str" = none) (D__law_next : Dn P w K mg base "_law_next" ["_law_h", "_law_bound"] 1 (spNext)) (m_len : mg "len" = none)  : FnOk P w K mg base CX0 2 f fd ["_law_h", "_law_k", "_law_many", "_law_entries"] (spEF) := by
  refine F.ok sc__law_entry_fault (fun vs H Q E h => ?_) (fun cdv A outer s H vs Q E hr h => ?_)
  · obtain ⟨p, c, j, u, n, es, rfl, _⟩ := h
    rfl
  · obtain ⟨p, c, j, u, n, es, rfl, D, hu, hv, hj, k⟩ := h
    have nd := sc__law_entry_fault.nd
    have hr1 : Room 1 _ := hr.mono (by decide)
    refine ⟨_, pss_cons (ps_asg (pe_ix ix_tup (pv 3) (pv 1) (fun _ _ => rfl)) (pg_tup rfl (pgs_cons (pg_name (i := 4) nd rfl (Or.inl rfl)) (pgs_cons (pg_name (i := 5) nd rfl (Or.inl rfl)) (pgs_cons (pg_name (i := 6) nd rfl (Or.inl rfl)) pgs_nil)))))
        (pss_cons (ps_par3 (i := 7) (j := 8) (l := 9) rfl nd rfl rfl rfl (by decide) (by decide) (by decide) rfl rfl rfl (pa_cons (pe_callTy (T := "str") call_str_int (by rfl) m_str (by decide +kernel) (pa_cons (pv 4) pa_nil)) (pa_cons (pe_callTy (T := "str") call_str_int (by rfl) m_str (by decide +kernel) (pa_cons (pv 5) pa_nil)) (pa_cons (pe_callTy (T := "str") call_str_int (by rfl) m_str (by decide +kernel) (pa_cons (pv 6) pa_nil)) pa_nil))) (by rfl))
        (pss_cons (ps_set (i := 10) nd rfl (Or.inl rfl) (pe_lst (pa_cons (pe_lst (pa_cons pe_str (pa_cons pe_int pa_nil))) (pa_cons (pe_lst (pa_cons pe_str (pa_cons pe_int pa_nil))) (pa_cons (pe_lst (pa_cons (pv 7) (pa_cons pe_int pa_nil))) (pa_cons (pe_lst (pa_cons (pe_op op_add_str (pe_op op_add_str (pv 7) pe_str) (pv 8)) (pa_cons pe_int pa_nil))) (pa_cons (pe_lst (pa_cons (pe_op op_add_str (pe_op op_add_str (pe_op op_add_str (pe_op op_add_str (pe_op op_add_str (pv 7) pe_str) (pv 8)) pe_str) (pv 9)) pe_str) (pa_cons pe_int pa_nil))) (pa_cons (pe_lst (pa_cons (pe_op op_add_str (pe_op op_add_str (pv 7) pe_str) (pv 9)) (pa_cons pe_int pa_nil))) pa_nil))))))))
        (pss_cons (ps_set (i := 10) nd rfl (Or.inl rfl) (pe_op op_cat (pv 10) (pe_lst (pa_cons (pe_lst (pa_cons (pe_op op_add_str (pe_op op_add_str (pe_op op_add_str (pe_op op_add_str (pv 7) pe_str) (pv 8)) pe_str) (pe_callTy (T := "str") call_str_int (by rfl) m_str (by decide +kernel) (pa_cons (pe_op op_sub (pv 5) pe_int) pa_nil))) (pa_cons pe_int pa_nil))) (pa_cons (pe_lst (pa_cons (pe_op op_add_str (pe_op op_add_str (pe_op op_add_str (pe_op op_add_str (pv 7) pe_str) (pe_callTy (T := "str") call_str_int (by rfl) m_str (by decide +kernel) (pa_cons (pe_op op_add (pv 2) pe_int) pa_nil))) pe_str) (pe_callTy (T := "str") call_str_int (by rfl) m_str (by decide +kernel) (pa_cons (pe_op op_add (pv 2) pe_int) pa_nil))) (pa_cons pe_int pa_nil))) pa_nil)))))
        (pss_cons (ps_set (i := 10) nd rfl (Or.inl rfl) (pe_op op_cat (pv 10) (pe_lst (pa_cons (pe_lst (pa_cons (pe_op op_add_str (pe_op op_add_str (pe_op op_add_str (pe_op op_add_str (pv 7) pe_str) (pv 8)) pe_str) (pe_callTy (T := "str") call_str_int (by rfl) m_str (by decide +kernel) (pa_cons (pe_op op_add (pv 2) pe_int) pa_nil))) (pa_cons pe_int pa_nil))) (pa_cons (pe_lst (pa_cons (pe_op op_add_str (pe_op op_add_str (pe_op op_add_str (pe_op op_add_str (pe_callTy (T := "str") call_str_int (by rfl) m_str (by decide +kernel) (pa_cons (pe_op op_add (pe_op op_pow pe_int pe_int) pe_int) pa_nil)) pe_str) (pv 8)) pe_str) (pv 9)) (pa_cons pe_int pa_nil))) pa_nil)))))
        (pss_cons (ps_set (i := 10) nd rfl (Or.inl rfl) (pe_op op_cat (pv 10) (pe_lst (pa_cons (pe_lst (pa_cons (pe_op op_add_str (pe_op op_add_str (pe_op op_add_str pe_str (pv 8)) pe_str) (pv 9)) (pa_cons pe_int pa_nil))) (pa_cons (pe_lst (pa_cons (pe_op op_add_str (pe_op op_add_str (pe_op op_add_str pe_str (pv 8)) pe_str) (pv 9)) (pa_cons pe_int pa_nil))) (pa_cons (pe_lst (pa_cons (pe_op op_add_str (pe_op op_add_str (pe_op op_add_str (pe_op op_add_str (pv 7) pe_str) (pv 8)) pe_str) (pv 9)) (pa_cons pe_int pa_nil))) pa_nil))))))
        (pss_cons (ps_expr (pe_bm PySem.F.plainAttrs_list PySem.F.slot_list_append PySem.F.type_list_append mt_append (pv 10) (pa_cons (pe_lst (pa_cons (pe_op op_add_str (pe_op op_add_str (pe_op op_add_str pe_str (pv 8)) pe_str) (pv 9)) (pa_cons pe_int pa_nil))) pa_nil)))
        (pss_cons (ps_if (pt_cmpR op_gt (pv 1) pe_int (nomark _)) (pss_one (ps_expr (pe_bm PySem.F.plainAttrs_list PySem.F.slot_list_append PySem.F.type_list_append mt_append (pv 10) (pa_cons (pe_lst (pa_cons (pe_op op_add_str (pe_op op_add_str (pe_op op_add_str (pe_op op_add_str (pe_callTy (T := "str") call_str_int (by rfl) m_str (by decide +kernel) (pa_cons (pe_op op_sub (pe_ix ix_tup (pe_ix ix_tup (pv 3) (pe_op op_sub (pv 1) pe_int) (fun _ _ => rfl)) pe_int (fun _ _ => rfl)) pe_int) pa_nil)) pe_str) (pv 8)) pe_str) (pv 9)) (pa_cons pe_int pa_nil))) pa_nil)))) pss_nil)
        (pss_one (ps_ret (pe_ix ix_list (pv 10) (pe_dn D__law_next hr1 (pa_cons (pv 0) (pa_cons (pe_callB call_len_seq (by rfl) m_len PySem.boot_len (pa_cons (pv 10) pa_nil)) pa_nil))) (fun _ _ => rfl))))))))))), ?_⟩
    obtain ⟨au, vu, rfl, hau, heu⟩ := id hu
    have lvu : vu.length = es.length := heu.len
    have hjv : vu[j]? = some (vu[j]'(by omega)) := List.getElem?_eq_getElem (by omega)
    obtain ⟨e, hei, t0, ht0, ht⟩ := pr_at' heu hjv
    rw [ht0] at hjv
    have AE := atE hv hei
    obtain ⟨s1, s2, s3, sN4, sN5⟩ := sN AE
    have l1 : (Str.ofString (toString e.1)).length ≤ 32 := by have := len_Tx s1; rw [L_len] at this; exact this
    have l2 : (Str.ofString (toString e.2.1)).length ≤ 32 := by have := len_Tx s2; rw [L_len] at this; exact this
    have l3 : (Str.ofString (toString e.2.2)).length ≤ 32 := by have := len_Tx s3; rw [L_len] at this; exact this
    have l4 : (Str.ofString (toString (n + 1))).length ≤ 32 := by have := len_Tx sN4; rw [L_len] at this; exact this
    have l5 : (Str.ofString (toString (e.2.1 - 1))).length ≤ 32 := by have := len_Tx sN5; rw [L_len] at this; exact this
    have l6 : (Str.ofString (toString ((10 : Int) ^ 30 + 1))).length ≤ 32 := by have := len_Tx big31; rw [L_len] at this; exact this
    have l7 : (Str.ofString (toString ((10 : Int) ^ (30 : Int).toNat + 1))).length ≤ 32 := l6
    have k1 : (Str.ofString " ").length = 1 := by decide +kernel
    have k2 : (Str.ofString " 0 ").length = 3 := by decide +kernel
    have k3 : (Str.ofString " 0").length = 2 := by decide +kernel
    have k4 : (Str.ofString "-0 ").length = 3 := by decide +kernel
    have k5 : (Str.ofString "+1 ").length = 3 := by decide +kernel
    have k6 : (Str.ofString "- ").length = 2 := by decide +kernel
    have k7 : (Str.ofString " 1").length = 2 := by decide +kernel
    refine ⟨_, rfl, _, rfl, au, _, _, _, rfl, rfl, SqT.of hau, at_of (j := j) rfl hjv, t0, _, rfl, SqT.of ht, rfl, _, _, rfl, _, _, rfl, _, _, rfl, rfl, ?_⟩
    refine ⟨_, rfl, e.1, rfl, log31 s1, _, rfl, e.2.1, rfl, log31 s2, _, rfl, e.2.2, rfl, log31 s3, _, _, _, rfl, ?_⟩
    dsimp only [gName]
    refine st_eq (σ' := [some (.ref p), some (.int (j : Int)), some (.int n), some (.ref au), some (.int e.1), some (.int e.2.1), some (.int e.2.2), some (.str (Tx e.1)), some (.str (Tx e.2.1)), some (.str (Tx e.2.2)), none]) rfl ?_
    refine ⟨(by show 2 ≤ sizeLine; decide), fun z1 nz1 => ?_⟩
    refine ⟨(by show 2 ≤ sizeLine; decide), fun z2 nz2 => ?_⟩
    refine ⟨_, rfl, (by show 2 ≤ sizeLine; decide), fun z3 nz3 => ?_⟩
    refine ⟨_, rfl, _, _, rfl, rfl, (size1000 (by simp only [Tx, Str.length_append, k1, k2, k3, k4, k5, k6, k7]; omega)), _, rfl, _, _, rfl, rfl, (size1000 (by simp only [Tx, Str.length_append, k1, k2, k3, k4, k5, k6, k7]; omega)), (by show 2 ≤ sizeLine; decide), fun z4 nz4 => ?_⟩
    refine ⟨_, rfl, _, _, rfl, rfl, (size1000 (by simp only [Tx, Str.length_append, k1, k2, k3, k4, k5, k6, k7]; omega)), _, rfl, _, _, rfl, rfl, (size1000 (by simp only [Tx, Str.length_append, k1, k2, k3, k4, k5, k6, k7]; omega)), _, _, rfl, rfl, (size1000 (by simp only [Tx, Str.length_append, k1, k2, k3, k4, k5, k6, k7]; omega)), _, rfl, _, _, rfl, rfl, (size1000 (by simp only [Tx, Str.length_append, k1, k2, k3, k4, k5, k6, k7]; omega)), _, _, rfl, rfl, (size1000 (by simp only [Tx, Str.length_append, k1, k2, k3, k4, k5, k6, k7]; omega)), (by show 2 ≤ sizeLine; decide), fun z5 nz5 => ?_⟩
    refine ⟨_, rfl, _, _, rfl, rfl, (size1000 (by simp only [Tx, Str.length_append, k1, k2, k3, k4, k5, k6, k7]; omega)), _, rfl, _, _, rfl, rfl, (size1000 (by simp only [Tx, Str.length_append, k1, k2, k3, k4, k5, k6, k7]; omega)), (by show 2 ≤ sizeLine; decide), fun z6 nz6 => ?_⟩
    refine ⟨(by show 6 ≤ sizeLine; decide), fun q6 nq6 => ?_⟩
    obtain ⟨G6, eG6⟩ : ∃ G, G = (upd (upd (upd (upd (upd (upd (upd H z1 (.lst [.str (Str.ofString ""), .int 1])) z2 (.lst [.str (Str.ofString "x"), .int 1])) z3 (.lst [.str (Tx e.1), .int 2])) z4 (.lst [.str (Tx e.1 ++ Str.ofString " " ++ Tx e.2.1), .int 3])) z5 (.lst [.str (Tx e.1 ++ Str.ofString " " ++ Tx e.2.1 ++ Str.ofString " " ++ Tx e.2.2 ++ Str.ofString " 1"), .int 4])) z6 (.lst [.str (Tx e.1 ++ Str.ofString " 0 " ++ Tx e.2.2), .int 2])) q6 (.lst [V.ref z1, V.ref z2, V.ref z3, V.ref z4, V.ref z5, V.ref z6])) := ⟨_, rfl⟩
    rw [← eG6]
    have sG6 : Same H G6 := by rw [eG6]; exact Same_new2 (Same_new2 (Same_new2 (Same_new2 (Same_new2 (Same_new2 (Same_new nz1) nz2) nz3) nz4) nz5) nz6) nq6
    have hq6 : G6 q6 = some (.lst [V.ref z1, V.ref z2, V.ref z3, V.ref z4, V.ref z5, V.ref z6]) := by rw [eG6]; exact upd_same
    have pz1 : FaV (Flt n es j) G6 (.ref z1) := ⟨_, _, ⟨z1, rfl, by rw [eG6]; exact Same_new nq6 _ _ (Same_new nz6 _ _ (Same_new nz5 _ _ (Same_new nz4 _ _ (Same_new nz3 _ _ (Same_new nz2 _ _ (upd_same))))))⟩, flt1⟩
    have pz2 : FaV (Flt n es j) G6 (.ref z2) := ⟨_, _, ⟨z2, rfl, by rw [eG6]; exact Same_new nq6 _ _ (Same_new nz6 _ _ (Same_new nz5 _ _ (Same_new nz4 _ _ (Same_new nz3 _ _ (upd_same)))))⟩, flt2⟩
    have pz3 : FaV (Flt n es j) G6 (.ref z3) := ⟨_, _, ⟨z3, rfl, by rw [eG6]; exact Same_new nq6 _ _ (Same_new nz6 _ _ (Same_new nz5 _ _ (Same_new nz4 _ _ (upd_same))))⟩, flt3 AE⟩
    have pz4 : FaV (Flt n es j) G6 (.ref z4) := ⟨_, _, ⟨z4, rfl, by rw [eG6]; exact Same_new nq6 _ _ (Same_new nz6 _ _ (Same_new nz5 _ _ (upd_same)))⟩, flt4 AE⟩
    have pz5 : FaV (Flt n es j) G6 (.ref z5) := ⟨_, _, ⟨z5, rfl, by rw [eG6]; exact Same_new nq6 _ _ (Same_new nz6 _ _ (upd_same))⟩, flt5 AE⟩
    have pz6 : FaV (Flt n es j) G6 (.ref z6) := ⟨_, _, ⟨z6, rfl, by rw [eG6]; exact Same_new nq6 _ _ (upd_same)⟩, flt6 AE⟩
    have aG6 : ∀ v ∈ [V.ref z1, V.ref z2, V.ref z3, V.ref z4, V.ref z5, V.ref z6], FaV (Flt n es j) G6 v := fun v hv => by
      rcases List.mem_cons.mp hv with rfl | hv
      · exact pz1
      rcases List.mem_cons.mp hv with rfl | hv
      · exact pz2
      rcases List.mem_cons.mp hv with rfl | hv
      · exact pz3
      rcases List.mem_cons.mp hv with rfl | hv
      · exact pz4
      rcases List.mem_cons.mp hv with rfl | hv
      · exact pz5
      rw [List.mem_singleton.mp hv]; exact pz6
    have wG6 := sG6
    refine ⟨_, rfl, ?_⟩
    refine ⟨_, rfl, _, _, rfl, rfl, (size1000 (by simp only [Tx, Str.length_append, k1, k2, k3, k4, k5, k6, k7]; omega)), _, rfl, _, _, rfl, rfl, (size1000 (by simp only [Tx, Str.length_append, k1, k2, k3, k4, k5, k6, k7]; omega)), _, _, rfl, rfl, (size1000 (by simp only [Tx, Str.length_append, k1, k2, k3, k4, k5, k6, k7]; omega)), _, rfl, _, _, rfl, rfl, e.2.1 - 1, rfl, log31 sN5, _, _, rfl, rfl, (size1000 (by simp only [Tx, Str.length_append, k1, k2, k3, k4, k5, k6, k7]; omega)), (by show 2 ≤ sizeLine; decide), fun z7 nz7 => ?_⟩
    refine ⟨_, rfl, _, _, rfl, rfl, (size1000 (by simp only [Tx, Str.length_append, k1, k2, k3, k4, k5, k6, k7]; omega)), _, rfl, _, _, rfl, rfl, n + 1, rfl, log31 sN4, _, _, rfl, rfl, (size1000 (by simp only [Tx, Str.length_append, k1, k2, k3, k4, k5, k6, k7]; omega)), _, _, rfl, rfl, (size1000 (by simp only [Tx, Str.length_append, k1, k2, k3, k4, k5, k6, k7]; omega)), _, rfl, _, _, rfl, rfl, n + 1, rfl, log31 sN4, _, _, rfl, rfl, (size1000 (by simp only [Tx, Str.length_append, k1, k2, k3, k4, k5, k6, k7]; omega)), (by show 2 ≤ sizeLine; decide), fun z8 nz8 => ?_⟩
    refine ⟨(by show 2 ≤ sizeLine; decide), fun q8 nq8 => ?_⟩
    obtain ⟨G8, eG8⟩ : ∃ G, G = (upd (upd (upd G6 z7 (.lst [.str (Tx e.1 ++ Str.ofString " " ++ Tx e.2.1 ++ Str.ofString " " ++ Tx (e.2.1 - 1)), .int 3])) z8 (.lst [.str (Tx e.1 ++ Str.ofString " " ++ Tx (n + 1) ++ Str.ofString " " ++ Tx (n + 1)), .int 2])) q8 (.lst [V.ref z7, V.ref z8])) := ⟨_, rfl⟩
    rw [← eG8]
    have sG8 : Same G6 G8 := by rw [eG8]; exact Same_new2 (Same_new2 (Same_new nz7) nz8) nq8
    have hq8 : G8 q8 = some (.lst [V.ref z7, V.ref z8]) := by rw [eG8]; exact upd_same
    have pz7 : FaV (Flt n es j) G8 (.ref z7) := ⟨_, _, ⟨z7, rfl, by rw [eG8]; exact Same_new nq8 _ _ (Same_new nz8 _ _ (upd_same))⟩, flt7 AE⟩
    have pz8 : FaV (Flt n es j) G8 (.ref z8) := ⟨_, _, ⟨z8, rfl, by rw [eG8]; exact Same_new nq8 _ _ (upd_same)⟩, flt8 AE⟩
    have aG8 : ∀ v ∈ [V.ref z7, V.ref z8], FaV (Flt n es j) G8 v := fun v hv => by
      rcases List.mem_cons.mp hv with rfl | hv
      · exact pz7
      rw [List.mem_singleton.mp hv]; exact pz8
    refine ⟨q6, q8, _, _, rfl, rfl, sG8 _ _ hq6, hq8, (by show 8 ≤ sizeLine; decide), fun c8 nc8 => ?_⟩
    have nH8 : H c8 = none := (wG6.trans sG8).free nc8
    obtain ⟨K8, eK8⟩ : ∃ G, G = upd G8 c8 (.lst ([V.ref z1, V.ref z2, V.ref z3, V.ref z4, V.ref z5, V.ref z6] ++ [V.ref z7, V.ref z8])) := ⟨_, rfl⟩
    rw [← eK8]
    have sK8 : Same G8 K8 := by rw [eK8]; exact Same_new nc8
    have hc8 : K8 c8 = some (.lst ([V.ref z1, V.ref z2, V.ref z3, V.ref z4, V.ref z5, V.ref z6] ++ [V.ref z7, V.ref z8])) := by rw [eK8]; exact upd_same
    have aK8 : ∀ v ∈ ([V.ref z1, V.ref z2, V.ref z3, V.ref z4, V.ref z5, V.ref z6] ++ [V.ref z7, V.ref z8]), FaV (Flt n es j) K8 v := fun v hv => (List.mem_append.mp hv).elim (fun x => ((aG6 v x).mono sG8).mono sK8) fun x => (aG8 v x).mono sK8
    have wK8 : Same H K8 := (wG6.trans sG8).trans sK8
    obtain ⟨L8, eL8⟩ : ∃ l, l = ([V.ref z1, V.ref z2, V.ref z3, V.ref z4, V.ref z5, V.ref z6] ++ [V.ref z7, V.ref z8]) := ⟨_, rfl⟩
    have lL8 : L8.length = 8 := by rw [eL8]; simp
    rw [← eL8] at hc8 aK8
    refine ⟨_, rfl, ?_⟩
    refine ⟨_, rfl, _, _, rfl, rfl, (size1000 (by simp only [Tx, Str.length_append, k1, k2, k3, k4, k5, k6, k7]; omega)), _, rfl, _, _, rfl, rfl, (size1000 (by simp only [Tx, Str.length_append, k1, k2, k3, k4, k5, k6, k7]; omega)), _, _, rfl, rfl, (size1000 (by simp only [Tx, Str.length_append, k1, k2, k3, k4, k5, k6, k7]; omega)), _, rfl, _, _, rfl, rfl, n + 1, rfl, log31 sN4, _, _, rfl, rfl, (size1000 (by simp only [Tx, Str.length_append, k1, k2, k3, k4, k5, k6, k7]; omega)), (by show 2 ≤ sizeLine; decide), fun z9 nz9 => ?_⟩
    refine ⟨_, _, rfl, rfl, ⟨by decide, by decide, by decide⟩, _, _, rfl, rfl, 10 ^ 30 + 1, rfl, log31 big31, _, _, rfl, rfl, (size1000 (by simp only [Tx, Str.length_append, k1, k2, k3, k4, k5, k6, k7]; omega)), _, rfl, _, _, rfl, rfl, (size1000 (by simp only [Tx, Str.length_append, k1, k2, k3, k4, k5, k6, k7]; omega)), _, _, rfl, rfl, (size1000 (by simp only [Tx, Str.length_append, k1, k2, k3, k4, k5, k6, k7]; omega)), _, rfl, _, _, rfl, rfl, (size1000 (by simp only [Tx, Str.length_append, k1, k2, k3, k4, k5, k6, k7]; omega)), (by show 2 ≤ sizeLine; decide), fun z10 nz10 => ?_⟩
    refine ⟨(by show 2 ≤ sizeLine; decide), fun q10 nq10 => ?_⟩
    obtain ⟨G10, eG10⟩ : ∃ G, G = (upd (upd (upd K8 z9 (.lst [.str (Tx e.1 ++ Str.ofString " " ++ Tx e.2.1 ++ Str.ofString " " ++ Tx (n + 1)), .int 3])) z10 (.lst [.str (Tx (10 ^ 30 + 1) ++ Str.ofString " " ++ Tx e.2.1 ++ Str.ofString " " ++ Tx e.2.2), .int 1])) q10 (.lst [V.ref z9, V.ref z10])) := ⟨_, rfl⟩
    rw [← eG10]
    have sG10 : Same K8 G10 := by rw [eG10]; exact Same_new2 (Same_new2 (Same_new nz9) nz10) nq10
    have hq10 : G10 q10 = some (.lst [V.ref z9, V.ref z10]) := by rw [eG10]; exact upd_same
    have pz9 : FaV (Flt n es j) G10 (.ref z9) := ⟨_, _, ⟨z9, rfl, by rw [eG10]; exact Same_new nq10 _ _ (Same_new nz10 _ _ (upd_same))⟩, flt9 AE⟩
    have pz10 : FaV (Flt n es j) G10 (.ref z10) := ⟨_, _, ⟨z10, rfl, by rw [eG10]; exact Same_new nq10 _ _ (upd_same)⟩, flt10 AE⟩
    have aG10 : ∀ v ∈ [V.ref z9, V.ref z10], FaV (Flt n es j) G10 v := fun v hv => by
      rcases List.mem_cons.mp hv with rfl | hv
      · exact pz9
      rw [List.mem_singleton.mp hv]; exact pz10
    refine ⟨c8, q10, _, _, rfl, rfl, sG10 _ _ hc8, hq10, (by rw [lL8]; show 10 ≤ sizeLine; decide), fun c10 nc10 => ?_⟩
    have nH10 : H c10 = none := (wK8.trans sG10).free nc10
    obtain ⟨K10, eK10⟩ : ∃ G, G = upd G10 c10 (.lst (L8 ++ [V.ref z9, V.ref z10])) := ⟨_, rfl⟩
    rw [← eK10]
    have sK10 : Same G10 K10 := by rw [eK10]; exact Same_new nc10
    have hc10 : K10 c10 = some (.lst (L8 ++ [V.ref z9, V.ref z10])) := by rw [eK10]; exact upd_same
    have aK10 : ∀ v ∈ (L8 ++ [V.ref z9, V.ref z10]), FaV (Flt n es j) K10 v := fun v hv => (List.mem_append.mp hv).elim (fun x => ((aK8 v x).mono sG10).mono sK10) fun x => (aG10 v x).mono sK10
    have wK10 : Same H K10 := (wK8.trans sG10).trans sK10
    obtain ⟨L10, eL10⟩ : ∃ l, l = (L8 ++ [V.ref z9, V.ref z10]) := ⟨_, rfl⟩
    have lL10 : L10.length = 10 := by rw [eL10, List.length_append, lL8]; rfl
    rw [← eL10] at hc10 aK10
    refine ⟨_, rfl, ?_⟩
    refine ⟨_, rfl, _, _, rfl, rfl, (size1000 (by simp only [Tx, Str.length_append, k1, k2, k3, k4, k5, k6, k7]; omega)), _, _, rfl, rfl, (size1000 (by simp only [Tx, Str.length_append, k1, k2, k3, k4, k5, k6, k7]; omega)), _, rfl, _, _, rfl, rfl, (size1000 (by simp only [Tx, Str.length_append, k1, k2, k3, k4, k5, k6, k7]; omega)), (by show 2 ≤ sizeLine; decide), fun z11 nz11 => ?_⟩
    refine ⟨_, rfl, _, _, rfl, rfl, (size1000 (by simp only [Tx, Str.length_append, k1, k2, k3, k4, k5, k6, k7]; omega)), _, _, rfl, rfl, (size1000 (by simp only [Tx, Str.length_append, k1, k2, k3, k4, k5, k6, k7]; omega)), _, rfl, _, _, rfl, rfl, (size1000 (by simp only [Tx, Str.length_append, k1, k2, k3, k4, k5, k6, k7]; omega)), (by show 2 ≤ sizeLine; decide), fun z12 nz12 => ?_⟩
    refine ⟨_, rfl, _, _, rfl, rfl, (size1000 (by simp only [Tx, Str.length_append, k1, k2, k3, k4, k5, k6, k7]; omega)), _, rfl, _, _, rfl, rfl, (size1000 (by simp only [Tx, Str.length_append, k1, k2, k3, k4, k5, k6, k7]; omega)), _, _, rfl, rfl, (size1000 (by simp only [Tx, Str.length_append, k1, k2, k3, k4, k5, k6, k7]; omega)), _, rfl, _, _, rfl, rfl, (size1000 (by simp only [Tx, Str.length_append, k1, k2, k3, k4, k5, k6, k7]; omega)), (by show 2 ≤ sizeLine; decide), fun z13 nz13 => ?_⟩
    refine ⟨(by show 3 ≤ sizeLine; decide), fun q13 nq13 => ?_⟩
    obtain ⟨G13, eG13⟩ : ∃ G, G = (upd (upd (upd (upd K10 z11 (.lst [.str (Str.ofString "-0 " ++ Tx e.2.1 ++ Str.ofString " " ++ Tx e.2.2), .int 1])) z12 (.lst [.str (Str.ofString "+1 " ++ Tx e.2.1 ++ Str.ofString " " ++ Tx e.2.2), .int 1])) z13 (.lst [.str (Tx e.1 ++ Str.ofString " 0" ++ Tx e.2.1 ++ Str.ofString " " ++ Tx e.2.2), .int 2])) q13 (.lst [V.ref z11, V.ref z12, V.ref z13])) := ⟨_, rfl⟩
    rw [← eG13]
    have sG13 : Same K10 G13 := by rw [eG13]; exact Same_new2 (Same_new2 (Same_new2 (Same_new nz11) nz12) nz13) nq13
    have hq13 : G13 q13 = some (.lst [V.ref z11, V.ref z12, V.ref z13]) := by rw [eG13]; exact upd_same
    have pz11 : FaV (Flt n es j) G13 (.ref z11) := ⟨_, _, ⟨z11, rfl, by rw [eG13]; exact Same_new nq13 _ _ (Same_new nz13 _ _ (Same_new nz12 _ _ (upd_same)))⟩, flt11 AE⟩
    have pz12 : FaV (Flt n es j) G13 (.ref z12) := ⟨_, _, ⟨z12, rfl, by rw [eG13]; exact Same_new nq13 _ _ (Same_new nz13 _ _ (upd_same))⟩, flt12 AE⟩
    have pz13 : FaV (Flt n es j) G13 (.ref z13) := ⟨_, _, ⟨z13, rfl, by rw [eG13]; exact Same_new nq13 _ _ (upd_same)⟩, flt13 AE⟩
    have aG13 : ∀ v ∈ [V.ref z11, V.ref z12, V.ref z13], FaV (Flt n es j) G13 v := fun v hv => by
      rcases List.mem_cons.mp hv with rfl | hv
      · exact pz11
      rcases List.mem_cons.mp hv with rfl | hv
      · exact pz12
      rw [List.mem_singleton.mp hv]; exact pz13
    refine ⟨c10, q13, _, _, rfl, rfl, sG13 _ _ hc10, hq13, (by rw [lL10]; show 13 ≤ sizeLine; decide), fun c13 nc13 => ?_⟩
    have nH13 : H c13 = none := (wK10.trans sG13).free nc13
    obtain ⟨K13, eK13⟩ : ∃ G, G = upd G13 c13 (.lst (L10 ++ [V.ref z11, V.ref z12, V.ref z13])) := ⟨_, rfl⟩
    rw [← eK13]
    have sK13 : Same G13 K13 := by rw [eK13]; exact Same_new nc13
    have hc13 : K13 c13 = some (.lst (L10 ++ [V.ref z11, V.ref z12, V.ref z13])) := by rw [eK13]; exact upd_same
    have aK13 : ∀ v ∈ (L10 ++ [V.ref z11, V.ref z12, V.ref z13]), FaV (Flt n es j) K13 v := fun v hv => (List.mem_append.mp hv).elim (fun x => ((aK10 v x).mono sG13).mono sK13) fun x => (aG13 v x).mono sK13
    have wK13 : Same H K13 := (wK10.trans sG13).trans sK13
    obtain ⟨L13, eL13⟩ : ∃ l, l = (L10 ++ [V.ref z11, V.ref z12, V.ref z13]) := ⟨_, rfl⟩
    have lL13 : L13.length = 13 := by rw [eL13, List.length_append, lL10]; rfl
    rw [← eL13] at hc13 aK13
    -- one more
    refine ⟨_, rfl, .inl ⟨rfl, _, SqL.of hc13⟩, _, rfl, _, _, rfl, rfl, (size1000 (by simp only [Tx, Str.length_append, k1, k2, k3, k4, k5, k6, k7]; omega)), _, _, rfl, rfl, (size1000 (by simp only [Tx, Str.length_append, k1, k2, k3, k4, k5, k6, k7]; omega)), _, rfl, _, _, rfl, rfl, (size1000 (by simp only [Tx, Str.length_append, k1, k2, k3, k4, k5, k6, k7]; omega)), (by show 2 ≤ sizeLine; decide), fun za nza => ?_⟩
    have ha : upd K13 za (.lst [.str (Str.ofString "- " ++ Tx e.2.1 ++ Str.ofString " " ++ Tx e.2.2), .int 1]) c13 = some (.lst L13) := Same_new nza _ _ hc13
    refine ⟨c13, _, _, rfl, rfl, ha, by rw [lL13]; exact small1000 (by decide), ?_⟩
    have nq : H c13 = none := nH13
    have ta := Same_new (o := .lst [.str (Str.ofString "- " ++ Tx e.2.1 ++ Str.ofString " " ++ Tx e.2.2), .int 1]) nza
    have aa : ∀ v ∈ L13 ++ [V.ref za], FaV (Flt n es j) (upd (upd K13 za (.lst [.str (Str.ofString "- " ++ Tx e.2.1 ++ Str.ofString " " ++ Tx e.2.2), .int 1])) c13 (.lst (L13 ++ [V.ref za]))) v := fun v hv => by
      rcases List.mem_append.mp hv with hv | hv
      · exact ((aK13 v hv).mono ta).put ha (by rw [lL13]; decide)
      · rw [List.mem_singleton.mp hv]
        exact FaV.put ⟨_, _, ⟨za, rfl, upd_same⟩, flt14 AE⟩ ha (by rw [lL13]; decide)
    have sA : Same H (upd (upd K13 za (.lst [.str (Str.ofString "- " ++ Tx e.2.1 ++ Str.ofString " " ++ Tx e.2.2), .int 1])) c13 (.lst (L13 ++ [V.ref za]))) := Same_mut (wK13.trans ta) nq
    obtain ⟨LA, eLA⟩ : ∃ l, l = L13 ++ [V.ref za] := ⟨_, rfl⟩
    have lLA : LA.length = 14 := by rw [eLA, List.length_append, lL13]; rfl
    rw [← eLA] at aa sA ⊢
    obtain ⟨HA, eHA⟩ : ∃ G, G = upd (upd K13 za (.lst [.str (Str.ofString "- " ++ Tx e.2.1 ++ Str.ofString " " ++ Tx e.2.2), .int 1])) c13 (.lst LA) := ⟨_, rfl⟩
    have hqA : HA c13 = some (.lst LA) := by rw [eHA]; exact upd_same
    rw [← eHA] at aa sA ⊢
    dsimp only [gName]
    refine st_eq (σ' := [some (.ref p), some (.int (j : Int)), some (.int n), some (.ref au), some (.int e.1), some (.int e.2.1), some (.int e.2.2), some (.str (Tx e.1)), some (.str (Tx e.2.1)), some (.str (Tx e.2.2)), some (.ref c13)]) rfl ?_
    refine seq_ifj (fun σ' H' => σ' = [some (.ref p), some (.int (j : Int)), some (.int n), some (.ref au), some (.int e.1), some (.int e.2.1), some (.int e.2.2), some (.str (Tx e.1)), some (.str (Tx e.2.1)), some (.str (Tx e.2.2)), some (.ref c13)] ∧ ∃ l, H' c13 = some (.lst l) ∧ 3 ≤ l.length ∧ l.length ≤ 15 ∧ (∀ v ∈ l, FaV (Flt n es j) H' v) ∧ Same H H') (fun N kN => ?_) ?_
    · refine ⟨_, rfl, _, _, rfl, rfl, _, rfl, ite2 (fun c => ?_) (fun c => kN _ _ ⟨rfl, LA, hqA, by omega, by omega, aa, sA⟩)⟩
      have j0 : 0 < j := by have := of_decide_eq_true c; omega
      have hjp : vu[j - 1]? = some (vu[j - 1]'(by omega)) := List.getElem?_eq_getElem (by omega)
      obtain ⟨ep, hep, tp, htp0, htp⟩ := pr_at' heu hjp
      rw [htp0] at hjp
      have F15 := flt15 AE j0 hj
      rw [vl_of hep] at F15
      have hP := (atE hv hep)
      have sP : (ep.1 - 1).natAbs < 10 ^ 31 := by
        have h0 := hP.v0
        have h1 := hP.v1
        have b : (10 : Int) ^ 30 + 1 < ((10 ^ 31 : Nat) : Int) := by decide
        omega
      have l8 : (Str.ofString (toString (ep.1 - 1))).length ≤ 32 := by have := len_Tx sP; rw [L_len] at this; exact this
      have sQ := sA
      refine ⟨_, rfl, .inl ⟨rfl, _, SqL.of hqA⟩, _, rfl, _, rfl, _, _, rfl, rfl, au, _, _, _, rfl, rfl, SqT.of (sQ _ _ hau), at_of (j := j - 1) (by omega) hjp, tp, _, _, _, rfl, rfl, SqT.of (sQ _ _ htp), rfl, _, _, rfl, rfl, ep.1 - 1, rfl, log31 sP, _, _, rfl, rfl, (size1000 (by simp only [Tx, Str.length_append, k1, k2, k3, k4, k5, k6, k7]; omega)), _, rfl, _, _, rfl, rfl, (size1000 (by simp only [Tx, Str.length_append, k1, k2, k3, k4, k5, k6, k7]; omega)), _, _, rfl, rfl, (size1000 (by simp only [Tx, Str.length_append, k1, k2, k3, k4, k5, k6, k7]; omega)), _, rfl, _, _, rfl, rfl, (size1000 (by simp only [Tx, Str.length_append, k1, k2, k3, k4, k5, k6, k7]; omega)), (by show 2 ≤ sizeLine; decide), fun zb nzb => ?_⟩
      have tb := Same_new (o := .lst [.str (Tx (ep.1 - 1) ++ Str.ofString " " ++ Tx e.2.1 ++ Str.ofString " " ++ Tx e.2.2), .int 1]) nzb
      have hb := tb _ _ hqA
      refine ⟨c13, _, _, rfl, rfl, hb, by rw [lLA]; exact small1000 (by decide), kN _ _ ⟨rfl, LA ++ [V.ref zb], upd_same, by rw [List.length_append]; omega, by rw [List.length_append, lLA]; exact Nat.le_refl 15, fun v hv => ?_, Same_mut (sA.trans tb) nq⟩⟩
      rcases List.mem_append.mp hv with hv | hv
      · exact ((aa v hv).mono tb).put hb (by omega)
      · rw [List.mem_singleton.mp hv]
        exact FaV.put ⟨_, _, ⟨zb, rfl, upd_same⟩, F15⟩ hb (by omega)
    rintro σ' H' ⟨rfl, l, hql, l3', l15, al, sl⟩
    refine ⟨_, rfl, _, rfl, _, rfl, c13, _, rfl, .inl (SqL.of hql), p, c, (l.length : Int), rfl, D.mono sl, by omega, nb (by omega) (Int.le_trans (show (l.length : Int) ≤ 15 by omega) (by decide)), fun H2 r2 b0 b1 D2 s2 => ?_⟩
    obtain ⟨v, hv, hm⟩ := at_vs b0 b1
    obtain ⟨s, x, ⟨t, rfl, htt⟩, hF⟩ := al v hm
    have nqd := D.fresh nq
    have ntd := pair_ne (D.mono sl) htt
    exact ⟨c13, _, _, _, rfl, rfl, SqL.of (s2.at hql nqd), hv, k H2 t s x D2 ((sameD_of sl).trans s2) ntd.1 ntd.2 (s2.at htt ntd) hF⟩
-- @prem _law_entry_fault _law_entry_fault  : m_str D__law_next m_len
/-- an if statement, the ways to its two ends joined -/
theorem seq_if2 {c : TT} {t u rest : TS} {D : Ends} {σ : L2.St} {H : Hp} (RT RF : Hp → Prop) (hc : ∀ Q : Bool → Hp → Prop, (∀ H1, RT H1 → Q true H1) → (∀ H1, RF H1 → Q false H1) → c σ H Q) (hT : ∀ H1, RT H1 → t { D with nx := rest D } σ H1) (hF : ∀ H1, RF H1 → u { D with nx := rest D } σ H1) : tSeq (tIfS c t u) rest D σ H :=
  hc _ (fun H1 r => iteT (hT H1 r)) fun H1 r => iteF (hF H1 r)
theorem line1 (x : Int) : Tx x ++ Str.ofString " 1 1" = lineS (x, 1, 1) := str_ext (by
  rw [L_app, L_line]
  show L (Tx x) ++ L (Str.ofString " 1 1") = L (Tx x) ++ 32 :: (L (Tx 1) ++ 32 :: L (Tx 1))
  rw [show L (Str.ofString " 1 1") = [32, 49, 32, 49] by decide +kernel, show L (Tx 1) = [49] by decide +kernel]
  rfl)
theorem tx0' : Str.ofString "0" = Tx 0 := by decide +kernel
theorem fine_line1 {x : Int} (h0 : -10 ^ 30 ≤ x) (h1 : x ≤ 10 ^ 30) : FineS (lineS (x, 1, 1)) := by
  rw [← line1]
  exact fine_of (l := L (Tx x) ++ [32, 49, 32, 49]) (by rw [L_app]; exact congrArg _ (by decide +kernel)) (okC_app (okC_Tx _) (by unfold okC; decide)) (by have := len_Tx (small31 h0 h1); rw [List.length_append]; simp only [List.length_cons, List.length_nil]; omega)
theorem fine_c {l : List Nat} {s : Str} (e : L s = l) (h : okC l) (hl : l.length ≤ 200) : FineS s := fine_of e h hl
theorem rowsS_take {n : Int} {es : List Ent} {k : Nat} : (rowsS n es).take (k + 1) = headS n :: (es.map lineS).take k := rfl
theorem rowsS_drop {n : Int} {es : List Ent} {k : Nat} : (rowsS n es).drop (k + 1) = (es.map lineS).drop k := rfl
theorem map_cut_to {l : List Str} {k : Nat} (h : k ≤ l.length) : cutV (l.map V.str) none (some (k : Int)) = (l.take k).map V.str := by
  rw [cut_to (by rw [List.length_map]; exact h), List.map_take]
theorem map_cut_from {l : List Str} {k : Nat} (h : k ≤ l.length) : cutV (l.map V.str) (some (k : Int)) none = (l.drop k).map V.str := by
  rw [cut_from (by rw [List.length_map]; exact h), List.map_drop]
theorem map_cat (a b : List Str) : a.map V.str ++ b.map V.str = (a ++ b).map V.str := (List.map_append ..).symm
def spFault : Sp := fun vs H Q _ => ∃ (p c R : Addr) (u : V) (n : Int) (es : List Ent), vs = [.ref p, .ref R, .int n, u] ∧ DrawAt H p c ∧ R ≠ p ∧ R ≠ c ∧ H R = some (.lst ((rowsS n es).map V.str)) ∧ TupV H u es ∧ Valid n es ∧
  ∀ H' q r2 ys line wd, DrawAt H' p c → SameD p c H H' → H' q = some (.lst [.ref r2, .int line, .int wd]) → H' r2 = some (.lst (ys.map V.str)) → (∀ y ∈ ys, FineS y) → ys.length ≤ 15 → 1 ≤ ys.length → readS (Txt.join nl10 ys) = .error (line, wd) → Q (.ref q) H'
theorem sc__law_fault : FnScope ["_law_h", "_law_rows", "_law_many", "_law_entries", "_law_kind", "_law_c", "_law_heads", "_law_one", "_law_spot", "_law_last", "_law_more", "_law_k"] ["_law_h", "_law_rows", "_law_many", "_law_entries"] (defScope s__law_fault) := ⟨rfl, rfl, rfl, by decide +kernel, rfl, by decide +kernel, by decide +kernel⟩
set_option maxHeartbeats 32000000 in
theorem ok__law_fault {f : Addr} {fd : FuncData} (F : Fun K "_law_fault" "_law_fault" s__law_fault f fd)  (D__law_next : Dn P w K mg base "_law_next" ["_law_h", "_law_bound"] 1 (spNext)) (m_str : mg "str" = none) (m_len : mg "len" = none) (m_max : mg "max" = none) (D__law_entry_fault : Dn P w K mg base "_law_entry_fault" ["_law_h", "_law_k", "_law_many", "_law_entries"] 2 (spEF))  : FnOk P w K mg base CX0 3 f fd ["_law_h", "_law_rows", "_law_many", "_law_entries"] (spFault) := by
  refine F.ok sc__law_fault (fun vs H Q E h => ?_) (fun cdv A outer s H vs Q E hr h => ?_)
  · obtain ⟨p, c, R, u, n, es, rfl, _⟩ := h
    rfl
  · obtain ⟨p, c, R, u, n, es, rfl, D, rp, rc, hR, hu, hv, k⟩ := h
    have nd := sc__law_fault.nd
    have hr1 : Room 1 _ := hr.mono (by decide)
    have hr2 : Room 2 _ := hr.mono (by decide)
    refine ⟨_, pss_cons (ps_set (i := 4) nd rfl (Or.inl rfl) (pe_dn D__law_next hr1 (pa_cons (pv 0) (pa_cons pe_int pa_nil))))
        (pss_cons (ps_set (i := 5) nd rfl (Or.inl rfl) (pe_callTy (T := "str") call_str_int (by rfl) m_str (by decide +kernel) (pa_cons (pv 2) pa_nil)))
        (pss_cons (ps_if (pt_cmpR op_eq (pv 4) pe_int (nomark _)) (pss_cons (ps_set (i := 6) nd rfl (Or.inl rfl) (pe_lst (pa_cons (pe_lst (pa_cons (pe_op op_add_str pe_str (pv 5)) (pa_cons pe_int pa_nil))) (pa_cons (pe_lst (pa_cons pe_str (pa_cons pe_int pa_nil))) (pa_cons (pe_lst (pa_cons pe_str (pa_cons pe_int pa_nil))) (pa_cons (pe_lst (pa_cons pe_str (pa_cons pe_int pa_nil))) (pa_cons (pe_lst (pa_cons (pe_op op_add_str (pe_op op_add_str pe_str (pv 5)) pe_str) (pa_cons pe_int pa_nil))) (pa_cons (pe_lst (pa_cons pe_str (pa_cons pe_int pa_nil))) pa_nil))))))))
        (pss_cons (ps_set (i := 6) nd rfl (Or.inl rfl) (pe_op op_cat (pv 6) (pe_lst (pa_cons (pe_lst (pa_cons (pe_op op_add_str pe_str (pe_callTy (T := "str") call_str_int (by rfl) m_str (by decide +kernel) (pa_cons (pe_op op_add (pe_op op_pow pe_int pe_int) pe_int) pa_nil))) (pa_cons pe_int pa_nil))) (pa_cons (pe_lst (pa_cons (pe_op op_add_str pe_str (pv 5)) (pa_cons pe_int pa_nil))) (pa_cons (pe_lst (pa_cons (pv 5) (pa_cons pe_int pa_nil))) (pa_cons (pe_lst (pa_cons pe_str (pa_cons pe_int pa_nil))) pa_nil)))))))
        (pss_cons (ps_set (i := 7) nd rfl (Or.inl rfl) (pe_ix ix_list (pv 6) (pe_dn D__law_next hr1 (pa_cons (pv 0) (pa_cons (pe_callB call_len_seq (by rfl) m_len PySem.boot_len (pa_cons (pv 6) pa_nil)) pa_nil))) (fun _ _ => rfl)))
        (pss_one (ps_ret (pe_lst (pa_cons (pe_op op_cat (pe_lst (pa_cons (pe_ix ix_list (pv 7) pe_int (fun _ _ => rfl)) pa_nil)) (pe_slice sl_list (pv 1) (po_some pe_int) po_none)) (pa_cons pe_int (pa_cons (pe_ix ix_list (pv 7) pe_int (fun _ _ => rfl)) pa_nil))))))))) pss_nil)
        (pss_cons (ps_if (pt_cmpR op_eq (pv 4) pe_int (nomark _)) (pss_cons (ps_set (i := 8) nd rfl (Or.inl rfl) (pe_op op_add pe_int (pe_dn D__law_next hr1 (pa_cons (pv 0) (pa_cons (pe_callB call_len_seq (by rfl) m_len PySem.boot_len (pa_cons (pv 1) pa_nil)) pa_nil)))))
        (pss_one (ps_ret (pe_lst (pa_cons (pe_op op_cat (pe_op op_cat (pe_slice sl_list (pv 1) po_none (po_some (pv 8))) (pe_lst (pa_cons (pe_ix ix_list (pe_lst (pa_cons pe_str (pa_cons pe_str pa_nil))) (pe_dn D__law_next hr1 (pa_cons (pv 0) (pa_cons pe_int pa_nil))) (fun _ _ => rfl)) pa_nil))) (pe_slice sl_list (pv 1) (po_some (pv 8)) po_none)) (pa_cons (pe_op op_add (pv 8) pe_int) (pa_cons pe_int pa_nil))))))) pss_nil)
        (pss_cons (ps_if (PW.pt (pw_or (pt_cmpR op_eq (pv 4) pe_int (nomark _)) (pw_or1 (pt_cmpR (op_eqD hr.units) (pv 3) (pe_tup pa_nil) (nomark _))))) (pss_cons (ps_set (i := 9) nd rfl (Or.inl rfl) (pe_ifExp (pt_cmpR (op_neD hr.units) (pv 3) (pe_tup pa_nil) (nomark _)) (pe_callTy (T := "str") call_str_int (by rfl) m_str (by decide +kernel) (pa_cons (pe_callB (cr_max rfl) (by rfl) m_max (by decide +kernel) (pa_cons (pe_lc (own := [("_law_one", 7)]) (g := gName 7) (tt := tYes) (te := tOp (rIxT K) (tVar 7) (tC (.int 0))) rfl nd (pi_tup (pv 3)) (blkOk_by (own := [("_law_one", 7)]) (N := ["_law_h", "_law_rows", "_law_many", "_law_entries", "_law_kind", "_law_c", "_law_heads", "_law_one", "_law_spot", "_law_last", "_law_more", "_law_k"]) (sc := defScope s__law_fault) (by decide +kernel)) (fun _ _ _ _ _ => (pg_name (i := 7) nd rfl (Or.inl rfl))) (fun _ _ _ _ _ => pts_nil) (fun _ _ _ _ _ => (pe_ix ix_tup (pv 7) pe_int (fun _ _ => rfl)))) pa_nil)) pa_nil)) pe_str))
        (pss_cons (ps_set (i := 10) nd rfl (Or.inl rfl) (pe_op op_sub pe_int (pe_callB call_len_seq (by rfl) m_len PySem.boot_len (pa_cons (pv 3) pa_nil))))
        (pss_one (ps_ret (pe_lst (pa_cons (pe_op op_cat (pe_op op_cat (pv 1) (pe_op op_rep (pe_lst (pa_cons (pe_op op_add_str (pv 9) pe_str) pa_nil)) (pv 10))) (pe_lst (pa_cons (pe_ix ix_list (pe_lst (pa_cons (pe_op op_add_str (pv 9) pe_str) (pa_cons pe_str pa_nil))) (pe_dn D__law_next hr1 (pa_cons (pv 0) (pa_cons pe_int pa_nil))) (fun _ _ => rfl)) pa_nil))) (pa_cons pe_int (pa_cons pe_int pa_nil)))))))) pss_nil)
        (pss_cons (ps_set (i := 11) nd rfl (Or.inl rfl) (pe_dn D__law_next hr1 (pa_cons (pv 0) (pa_cons (pe_callB call_len_seq (by rfl) m_len PySem.boot_len (pa_cons (pv 3) pa_nil)) pa_nil))))
        (pss_cons (ps_set (i := 7) nd rfl (Or.inl rfl) (pe_dn D__law_entry_fault hr2 (pa_cons (pv 0) (pa_cons (pv 11) (pa_cons (pv 2) (pa_cons (pv 3) pa_nil))))))
        (pss_one (ps_ret (pe_lst (pa_cons (pe_op op_cat (pe_op op_cat (pe_slice sl_list (pv 1) po_none (po_some (pe_op op_add (pv 11) pe_int))) (pe_lst (pa_cons (pe_ix ix_list (pv 7) pe_int (fun _ _ => rfl)) pa_nil))) (pe_slice sl_list (pv 1) (po_some (pe_op op_add (pv 11) pe_int)) po_none)) (pa_cons (pe_op op_add (pv 11) pe_int) (pa_cons (pe_ix ix_list (pv 7) pe_int (fun _ _ => rfl)) pa_nil)))))))))))), ?_⟩
    have n1 := hv.n1
    have n2 := hv.n2
    have h12 := hv.len
    have sn := small31 (v := n) (by omega) n2
    have lc : (Str.ofString (toString n)).length ≤ 32 := by have := len_Tx sn; rw [L_len] at this; exact this
    have l6 : (Str.ofString (toString ((10 : Int) ^ (30 : Int).toNat + 1))).length ≤ 32 := by have := len_Tx big31; rw [L_len] at this; exact this
    have l7 : (Str.ofString (toString ((10 : Int) ^ 30 + 1))).length ≤ 32 := l6
    have k1 : (Str.ofString "counts ").length = 7 := by decide +kernel
    have k2 : (Str.ofString "count ").length = 6 := by decide +kernel
    have k3 : (Str.ofString " 1").length = 2 := by decide +kernel
    have k4 : (Str.ofString "count 0").length = 7 := by decide +kernel
    have k5 : (Str.ofString " 1 1").length = 4 := by decide +kernel
    have hrl : (rowsS n es).length = es.length + 1 := by unfold rowsS; simp
    have finH := fine_head n1 n2
    have finL := fine_line hv
    refine ⟨_, rfl, p, c, 4, rfl, D, by decide, by decide, fun H1 r1 a0 a1 D1 s1 => ?_⟩
    have hR1 := s1.at hR ⟨rp, rc⟩
    have hu1 := s1.tup D hu
    refine ⟨_, rfl, n, rfl, log31 sn, ?_⟩
    obtain ⟨au, vu, rfl, hau, heu⟩ := id hu1
    have lvu : vu.length = es.length := heu.len
    dsimp only [gName]
    refine st_eq (σ' := [some (.ref p), some (.ref R), some (.int n), some (.ref au), some (.int r1), some (.str (Tx n)), none, none, none, none, none, none]) rfl ?_
    refine ⟨_, rfl, rfl, _, rfl, ite2 (fun _ => ?_) (fun _ => ?_)⟩
    · -- heads
      refine ⟨_, rfl, _, _, rfl, rfl, (size1000 (by simp only [Tx, Str.length_append, k1, k2, k3, k4, k5]; omega)), (by show 2 ≤ sizeLine; decide), fun z1 nz1 => ?_⟩
      refine ⟨(by show 2 ≤ sizeLine; decide), fun z2 nz2 => ?_⟩
      refine ⟨(by show 2 ≤ sizeLine; decide), fun z3 nz3 => ?_⟩
      refine ⟨(by show 2 ≤ sizeLine; decide), fun z4 nz4 => ?_⟩
      refine ⟨_, rfl, _, _, rfl, rfl, (size1000 (by simp only [Tx, Str.length_append, k1, k2, k3, k4, k5]; omega)), _, _, rfl, rfl, (size1000 (by simp only [Tx, Str.length_append, k1, k2, k3, k4, k5]; omega)), (by show 2 ≤ sizeLine; decide), fun z5 nz5 => ?_⟩
      refine ⟨(by show 2 ≤ sizeLine; decide), fun z6 nz6 => ?_⟩
      refine ⟨(by show 6 ≤ sizeLine; decide), fun q6 nq6 => ?_⟩
      obtain ⟨G6, eG6⟩ : ∃ G, G = (upd (upd (upd (upd (upd (upd (upd H1 z1 (.lst [.str (Str.ofString "counts " ++ Tx n), .int 1])) z2 (.lst [.str (Str.ofString "count"), .int 2])) z3 (.lst [.str (Str.ofString "count 0"), .int 2])) z4 (.lst [.str (Str.ofString "count x"), .int 2])) z5 (.lst [.str (Str.ofString "count " ++ Tx n ++ Str.ofString " 1"), .int 3])) z6 (.lst [.str (Str.ofString ""), .int 1])) q6 (.lst [V.ref z1, V.ref z2, V.ref z3, V.ref z4, V.ref z5, V.ref z6])) := ⟨_, rfl⟩
      rw [← eG6]
      have sG6 : Same H1 G6 := by rw [eG6]; exact Same_new2 (Same_new2 (Same_new2 (Same_new2 (Same_new2 (Same_new2 (Same_new nz1) nz2) nz3) nz4) nz5) nz6) nq6
      have hq6 : G6 q6 = some (.lst [V.ref z1, V.ref z2, V.ref z3, V.ref z4, V.ref z5, V.ref z6]) := by rw [eG6]; exact upd_same
      have pz1 : FaV (FltH) G6 (.ref z1) := ⟨_, _, ⟨z1, rfl, by rw [eG6]; exact Same_new nq6 _ _ (Same_new nz6 _ _ (Same_new nz5 _ _ (Same_new nz4 _ _ (Same_new nz3 _ _ (Same_new nz2 _ _ (upd_same))))))⟩, hd1 n1 n2⟩
      have pz2 : FaV (FltH) G6 (.ref z2) := ⟨_, _, ⟨z2, rfl, by rw [eG6]; exact Same_new nq6 _ _ (Same_new nz6 _ _ (Same_new nz5 _ _ (Same_new nz4 _ _ (Same_new nz3 _ _ (upd_same)))))⟩, hd2⟩
      have pz3 : FaV (FltH) G6 (.ref z3) := ⟨_, _, ⟨z3, rfl, by rw [eG6]; exact Same_new nq6 _ _ (Same_new nz6 _ _ (Same_new nz5 _ _ (Same_new nz4 _ _ (upd_same))))⟩, hd3⟩
      have pz4 : FaV (FltH) G6 (.ref z4) := ⟨_, _, ⟨z4, rfl, by rw [eG6]; exact Same_new nq6 _ _ (Same_new nz6 _ _ (Same_new nz5 _ _ (upd_same)))⟩, hd4⟩
      have pz5 : FaV (FltH) G6 (.ref z5) := ⟨_, _, ⟨z5, rfl, by rw [eG6]; exact Same_new nq6 _ _ (Same_new nz6 _ _ (upd_same))⟩, hd5 n1 n2⟩
      have pz6 : FaV (FltH) G6 (.ref z6) := ⟨_, _, ⟨z6, rfl, by rw [eG6]; exact Same_new nq6 _ _ (upd_same)⟩, hd6⟩
      have aG6 : ∀ v ∈ [V.ref z1, V.ref z2, V.ref z3, V.ref z4, V.ref z5, V.ref z6], FaV (FltH) G6 v := fun v hv => by
        rcases List.mem_cons.mp hv with rfl | hv
        · exact pz1
        rcases List.mem_cons.mp hv with rfl | hv
        · exact pz2
        rcases List.mem_cons.mp hv with rfl | hv
        · exact pz3
        rcases List.mem_cons.mp hv with rfl | hv
        · exact pz4
        rcases List.mem_cons.mp hv with rfl | hv
        · exact pz5
        rw [List.mem_singleton.mp hv]; exact pz6
      have wG6 := sG6
      refine ⟨_, rfl, ?_⟩
      refine ⟨_, _, rfl, rfl, ⟨by decide, by decide, by decide⟩, _, _, rfl, rfl, 10 ^ 30 + 1, rfl, log31 big31, _, _, rfl, rfl, (size1000 (by simp only [Tx, Str.length_append, k1, k2, k3, k4, k5]; omega)), (by show 2 ≤ sizeLine; decide), fun z7 nz7 => ?_⟩
      refine ⟨_, rfl, _, _, rfl, rfl, (size1000 (by simp only [Tx, Str.length_append, k1, k2, k3, k4, k5]; omega)), (by show 2 ≤ sizeLine; decide), fun z8 nz8 => ?_⟩
      refine ⟨_, rfl, (by show 2 ≤ sizeLine; decide), fun z9 nz9 => ?_⟩
      refine ⟨(by show 2 ≤ sizeLine; decide), fun z10 nz10 => ?_⟩
      refine ⟨(by show 4 ≤ sizeLine; decide), fun q10 nq10 => ?_⟩
      obtain ⟨G10, eG10⟩ : ∃ G, G = (upd (upd (upd (upd (upd G6 z7 (.lst [.str (Str.ofString "count " ++ Tx (10 ^ 30 + 1)), .int 2])) z8 (.lst [.str (Str.ofString "count 0" ++ Tx n), .int 2])) z9 (.lst [.str (Tx n), .int 1])) z10 (.lst [.str (Str.ofString "count -1"), .int 2])) q10 (.lst [V.ref z7, V.ref z8, V.ref z9, V.ref z10])) := ⟨_, rfl⟩
      rw [← eG10]
      have sG10 : Same G6 G10 := by rw [eG10]; exact Same_new2 (Same_new2 (Same_new2 (Same_new2 (Same_new nz7) nz8) nz9) nz10) nq10
      have hq10 : G10 q10 = some (.lst [V.ref z7, V.ref z8, V.ref z9, V.ref z10]) := by rw [eG10]; exact upd_same
      have pz7 : FaV (FltH) G10 (.ref z7) := ⟨_, _, ⟨z7, rfl, by rw [eG10]; exact Same_new nq10 _ _ (Same_new nz10 _ _ (Same_new nz9 _ _ (Same_new nz8 _ _ (upd_same))))⟩, hd7⟩
      have pz8 : FaV (FltH) G10 (.ref z8) := ⟨_, _, ⟨z8, rfl, by rw [eG10]; exact Same_new nq10 _ _ (Same_new nz10 _ _ (Same_new nz9 _ _ (upd_same)))⟩, hd8 n1 n2⟩
      have pz9 : FaV (FltH) G10 (.ref z9) := ⟨_, _, ⟨z9, rfl, by rw [eG10]; exact Same_new nq10 _ _ (Same_new nz10 _ _ (upd_same))⟩, hd9 n1 n2⟩
      have pz10 : FaV (FltH) G10 (.ref z10) := ⟨_, _, ⟨z10, rfl, by rw [eG10]; exact Same_new nq10 _ _ (upd_same)⟩, hd10⟩
      have aG10 : ∀ v ∈ [V.ref z7, V.ref z8, V.ref z9, V.ref z10], FaV (FltH) G10 v := fun v hv => by
        rcases List.mem_cons.mp hv with rfl | hv
        · exact pz7
        rcases List.mem_cons.mp hv with rfl | hv
        · exact pz8
        rcases List.mem_cons.mp hv with rfl | hv
        · exact pz9
        rw [List.mem_singleton.mp hv]; exact pz10
      refine ⟨q6, q10, _, _, rfl, rfl, sG10 _ _ hq6, hq10, (by show 10 ≤ sizeLine; decide), fun c10 nc10 => ?_⟩
      have nH10 : H1 c10 = none := (wG6.trans sG10).free nc10
      obtain ⟨K10, eK10⟩ : ∃ G, G = upd G10 c10 (.lst ([V.ref z1, V.ref z2, V.ref z3, V.ref z4, V.ref z5, V.ref z6] ++ [V.ref z7, V.ref z8, V.ref z9, V.ref z10])) := ⟨_, rfl⟩
      rw [← eK10]
      have sK10 : Same G10 K10 := by rw [eK10]; exact Same_new nc10
      have hc10 : K10 c10 = some (.lst ([V.ref z1, V.ref z2, V.ref z3, V.ref z4, V.ref z5, V.ref z6] ++ [V.ref z7, V.ref z8, V.ref z9, V.ref z10])) := by rw [eK10]; exact upd_same
      have aK10 : ∀ v ∈ ([V.ref z1, V.ref z2, V.ref z3, V.ref z4, V.ref z5, V.ref z6] ++ [V.ref z7, V.ref z8, V.ref z9, V.ref z10]), FaV FltH K10 v := fun v hv => (List.mem_append.mp hv).elim (fun x => ((aG6 v x).mono sG10).mono sK10) fun x => (aG10 v x).mono sK10
      have wK10 : Same H1 K10 := (wG6.trans sG10).trans sK10
      obtain ⟨LA, eLA⟩ : ∃ l, l = ([V.ref z1, V.ref z2, V.ref z3, V.ref z4, V.ref z5, V.ref z6] ++ [V.ref z7, V.ref z8, V.ref z9, V.ref z10]) := ⟨_, rfl⟩
      have lLA : LA.length = 10 := by rw [eLA]; rfl
      rw [← eLA] at hc10 aK10
      have Dh := D1.mono wK10
      have nqd := D1.fresh nH10
      refine ⟨_, rfl, _, rfl, _, rfl, c10, _, rfl, .inl (SqL.of hc10), p, c, (LA.length : Int), rfl, Dh, by omega, nb (by omega) (Int.le_trans (show (LA.length : Int) ≤ 10 by omega) (by decide)), fun H2 r2 b0 b1 D2 s2 => ?_⟩
      obtain ⟨v, hv2, hm⟩ := at_vs b0 b1
      obtain ⟨s, x, ⟨t, rfl, htt⟩, hF⟩ := aK10 v hm
      have ntd := pair_ne Dh htt
      have ht2 := s2.at htt ntd
      have hR2 := s2.at (wK10 _ _ hR1) ⟨rp, rc⟩
      refine ⟨c10, _, _, _, rfl, rfl, SqL.of (s2.at hc10 nqd), hv2, ?_⟩
      refine ⟨_, rfl, t, _, _, _, rfl, rfl, SqL.of ht2, rfl, (by show 1 ≤ sizeLine; decide), fun y1 ny1 => ?_⟩
      have t1 := Same_new (o := .lst [.str s]) ny1
      refine ⟨_, rfl, 1, rfl, R, _, rfl, SqL.of (t1 _ _ hR2), fun y2 ny2 => ?_⟩
      rw [show cutV ((rowsS n es).map V.str) (some 1) none = ((es.map lineS).map V.str) from map_cut_from (k := 1) (by omega)]
      have t2 := Same_new2 (o := .lst ((es.map lineS).map V.str)) t1 ny2
      have hy1 := Same_new (o := .lst ((es.map lineS).map V.str)) ny2 _ _ (upd_same (H := H2) (a := y1) (o := .lst [V.str s]))
      refine ⟨y1, y2, _, _, rfl, rfl, hy1, upd_same, (by rw [List.length_map, List.length_map]; exact size1000 (by show 1 + es.length ≤ _; omega)), fun y3 ny3 => ?_⟩
      have t3 := Same_new2 (o := .lst ([V.str s] ++ (es.map lineS).map V.str)) t2 ny3
      refine ⟨_, rfl, t, _, 1, _, rfl, rfl, SqL.of (t3 _ _ ht2), rfl, (by show 3 ≤ sizeLine; decide), fun y4 ny4 => ?_⟩
      have t4 := Same_new2 (o := .lst [V.ref y3, .int 1, .int x]) t3 ny4
      refine k _ y4 y3 (s :: es.map lineS) 1 x (D2.mono t4) (((s1.trans (sameD_of wK10)).trans s2).trans (sameD_of t4)) upd_same (Same_new ny4 _ _ upd_same) (fun y hy => ?_) (by rw [List.length_cons, List.length_map]; omega) (by simp) (readS_head hF.fine.no (lines_no es) hF.bad)
      rcases List.mem_cons.mp hy with rfl | hy
      · exact hF.fine
      · exact finL y hy
    refine ⟨_, rfl, rfl, _, rfl, ite2 (fun _ => ?_) (fun _ => ?_)⟩
    · -- an empty line
      refine ⟨_, rfl, _, rfl, R, _, rfl, .inl (SqL.of hR1), p, c, (((rowsS n es).map V.str).length : Int), rfl, D1, by rw [List.length_map]; omega, nb (by omega) (Int.le_trans (show (((rowsS n es).map V.str).length : Int) ≤ 13 by rw [List.length_map]; omega) (by decide)), fun H2 r2 b0 b1 D2 s2 => ?_⟩
      rw [List.length_map, hrl] at b1
      obtain ⟨j, rfl⟩ : ∃ j : Nat, r2 = (j : Int) := ⟨r2.toNat, by omega⟩
      have hj : j ≤ es.length := by omega
      have hR2 := s2.at hR1 ⟨rp, rc⟩
      refine ⟨_, _, rfl, rfl, ?_⟩
      dsimp only [gName]
      refine st_eq (σ' := [some (.ref p), some (.ref R), some (.int n), some (.ref au), some (.int r1), some (.str (Tx n)), none, none, some (.int ((j + 1 : Nat) : Int)), none, none, none]) (by rw [show ((j + 1 : Nat) : Int) = 1 + (j : Int) by omega]; rfl) ?_
      refine ⟨_, rfl, _, rfl, _, rfl, R, _, rfl, SqL.of hR2, fun y1 ny1 => ?_⟩
      rw [map_cut_to (show j + 1 ≤ (rowsS n es).length by omega), rowsS_take]
      have t1 := Same_new (o := .lst ((headS n :: (es.map lineS).take j).map V.str)) ny1
      refine ⟨(by show 2 ≤ sizeLine; decide), fun y2 ny2 => ?_⟩
      have t2 := Same_new2 (o := .lst [V.str (Str.ofString ""), V.str (Str.ofString "  ")]) t1 ny2
      have hy1 := Same_new (o := .lst [V.str (Str.ofString ""), V.str (Str.ofString "  ")]) ny2 _ _ (upd_same (H := H2) (a := y1) (o := .lst ((headS n :: (es.map lineS).take j).map V.str)))
      refine ⟨_, rfl, p, c, 2, rfl, D2.mono t2, by decide, by decide, fun H3 r3 c0 c1 D3 s3 => ?_⟩
      obtain ⟨v, hv2, hm⟩ := at_vs (xs := [V.str (Str.ofString ""), V.str (Str.ofString "  ")]) c0 c1
      obtain ⟨y, rfl, hyw, hyf⟩ : ∃ y, v = V.str y ∧ wordsS y = [] ∧ FineS y := by
        rcases List.mem_cons.mp hm with rfl | hm
        · exact ⟨_, rfl, w0 (by decide +kernel), fine_of (l := []) (by decide +kernel) (fun c hc => nomatch hc) (by decide)⟩
        rw [List.mem_singleton.mp hm]
        exact ⟨_, rfl, map_L_inj (by rw [wordsS_is, show L (Str.ofString "  ") = [32, 32] by decide +kernel]; rfl), fine_of (l := [32, 32]) (by decide +kernel) (by unfold okC; decide) (by decide)⟩
      have ny2D := (D2.mono t1).fresh ny2
      have ny1D := D2.fresh ny1
      refine ⟨y2, _, _, _, rfl, rfl, SqL.of (s3.at upd_same ny2D), hv2, (by show 1 ≤ sizeLine; decide), fun y3 ny3 => ?_⟩
      have t3 := Same_new (o := .lst [V.str y]) ny3
      have hy1b := t3 _ _ (s3.at hy1 ny1D)
      refine ⟨y1, y3, _, _, rfl, rfl, hy1b, upd_same, (by rw [List.length_map]; exact size1000 (by simp; omega)), fun y4 ny4 => ?_⟩
      have t4 := Same_new2 (o := .lst ((headS n :: (es.map lineS).take j).map V.str ++ [V.str y])) t3 ny4
      have hR4 := t4 _ _ (s3.at (t2 _ _ hR2) ⟨rp, rc⟩)
      refine ⟨_, rfl, _, rfl, _, rfl, R, _, rfl, SqL.of hR4, fun y5 ny5 => ?_⟩
      rw [map_cut_from (show j + 1 ≤ (rowsS n es).length by omega), rowsS_drop]
      have t5 := Same_new2 (o := .lst (((es.map lineS).drop j).map V.str)) t4 ny5
      have hy4 := Same_new (o := .lst (((es.map lineS).drop j).map V.str)) ny5 _ _ (upd_same (H := upd H3 y3 (.lst [V.str y])) (a := y4) (o := .lst ((headS n :: (es.map lineS).take j).map V.str ++ [V.str y])))
      refine ⟨y4, y5, _, _, rfl, rfl, hy4, upd_same, (by rw [List.length_append, List.length_map, List.length_map]; exact size1000 (by simp; omega)), fun y6 ny6 => ?_⟩
      have t6 := Same_new2 (o := .lst ((headS n :: (es.map lineS).take j).map V.str ++ [V.str y] ++ ((es.map lineS).drop j).map V.str)) t5 ny6
      refine ⟨_, rfl, _, _, rfl, rfl, (by show 3 ≤ sizeLine; decide), fun y7 ny7 => ?_⟩
      have t7 := Same_new2 (o := .lst [V.ref y6, .int (((j + 1 : Nat) : Int) + 1), .int 1]) t6 ny7
      have hread := empty_text hv hj hyf.no hyw
      refine k _ y7 y6 (headS n :: ((es.map lineS).take j ++ y :: (es.map lineS).drop j)) (((j + 1 : Nat) : Int) + 1) 1 (D3.mono t7) (((s1.trans s2).trans (sameD_of t2)).trans (s3.trans (sameD_of t7))) upd_same ?_ (fun x hx => ?_) ?_ (by simp) (by rw [hread, show (((j + 1 : Nat) : Int) + 1) = (j : Int) + 2 by omega])
      · rw [Same_new ny7 _ _ upd_same]
        simp
      · rcases List.mem_cons.mp hx with rfl | hx
        · exact finH
        rcases List.mem_append.mp hx with hx | hx
        · exact finL x (List.mem_of_mem_take hx)
        rcases List.mem_cons.mp hx with rfl | hx
        · exact hyf
        · exact finL x (List.mem_of_mem_drop hx)
      · simp; omega
    refine next_of ?_
    dsimp only
    refine seq_if2 (fun H' => Same H1 H') (fun H' => Same H1 H' ∧ es ≠ []) (fun Q' kT kF => ?_) (fun H2 s2 => ?_) ?_
    · refine ⟨_, rfl, rfl, _, rfl, ite2 (fun _ => kT _ (Same.refl _)) (fun _ => ?_)⟩
      refine ⟨_, rfl, Nat.zero_le _, fun z nz => ?_⟩
      have tz := Same_new (o := .tup []) nz
      refine ⟨_, _, (hu1.mono tz).dp, .tup (SqT.of upd_same) .nil, shaped_ents _, shaped_ents [], ?_⟩
      rw [show (PyData.tuple []) = .tuple (([] : List Ent).map entD) from rfl, eqv_ents]
      refine ⟨_, rfl, ?_⟩
      by_cases ce : es = []
      · rw [decide_eq_true ce]; exact kT _ tz
      · rw [decide_eq_false ce]; exact kF _ ⟨tz, ce⟩
    · -- too many
      have hR2 := s2 _ _ hR1
      have hu2 := hu1.mono s2
      have hau2 := s2 _ _ hau
      have D2 := D1.mono s2
      refine ⟨_, rfl, Nat.zero_le _, fun z nz => ?_⟩
      have tz := Same_new (o := .tup []) nz
      refine ⟨_, _, (hu2.mono tz).dp, .tup (SqT.of upd_same) .nil, shaped_ents _, shaped_ents [], ?_⟩
      rw [show (PyData.tuple []) = .tuple (([] : List Ent).map entD) from rfl, eqv_ents]
      refine ⟨_, rfl, ?_⟩
      refine two_ways (fun v H' => ∃ x, v = .str (Tx x) ∧ leastOf es ≤ x ∧ x ≤ 10 ^ 30 ∧ -10 ^ 30 ≤ x ∧ Same H2 H') (fun ce Q' kq => ?_) (fun ce Q' kq => ?_) ?_
      · have hne : es ≠ [] := fun e => by rw [decide_eq_true e] at ce; cases ce
        have hau3 := tz _ _ hau2
        refine ⟨_, rfl, au, rfl, ⟨_, SqT.of hau3⟩, fun Dd nD => ?_⟩
        refine lc_tup (K := K) (a := au) (xs := vu) (fun i H' => H' Dd = some (.lst (((es.take i).map fun e => e.1).map V.int)) ∧ Same (upd H2 z (.tup [])) H') ⟨upd_same, Same_new nD⟩ (fun i H' _ ⟨_, s5⟩ => SqT.of (s5 _ _ hau3)) ?_ ?_
        · rintro i x H' hx ⟨hD, s5⟩
          obtain ⟨e, hei, t, rfl, ht⟩ := pr_at' heu hx
          have hil : i < es.length := (List.getElem?_eq_some_iff.mp hei).1
          refine ⟨rfl, tyes_of ?_⟩
          rw [if_pos rfl]
          refine ⟨_, rfl, t, _, _, _, rfl, rfl, SqT.of (s5 _ _ (tz _ _ (s2 _ _ ht))), rfl, _, hD, ?_, ?_, Same_mut s5 nD⟩
          · rw [List.length_map, List.length_map, List.length_take]
            exact small1000 (by omega)
          · rw [upd_same, List.take_add_one, hei, List.map_append, List.map_append]
            rfl
        rintro H3 ⟨hD, s3⟩
        rw [lvu, List.take_length] at hD
        have hpos : 0 < (es.map fun e => e.1).length := by rw [List.length_map]; exact List.length_pos_iff.mpr hne
        refine ⟨Dd, _, rfl, SqL.of hD, hpos, fun m hm hle => ?_⟩
        obtain ⟨em, hem, hm1⟩ := List.mem_map.mp hm
        obtain ⟨im, him⟩ := List.getElem?_of_mem hem
        have himl : im < es.length := (List.getElem?_eq_some_iff.mp him).1
        have hent := hv.ent im himl
        rw [vl_of him, hm1] at hent
        refine ⟨m, rfl, log31 (small31 hent.1 hent.2.1), kq _ _ ⟨m, rfl, ?_, hent.2.1, hent.1, tz.trans s3⟩⟩
        have hlast : es.take es.length = es := List.take_length
        have ll := leastOf_lt (es := es) (k := es.length - 1 + 1)
        have hk : es[es.length - 1]? = some (es[es.length - 1]'(by omega)) := List.getElem?_eq_getElem (by omega)
        have hlo : leastOf es = (es[es.length - 1]'(by omega)).1 := by
          unfold leastOf
          rw [List.getLast?_eq_getElem?, hk]
        rw [hlo]
        exact hle _ (List.mem_map.mpr ⟨_, List.getElem_mem _, rfl⟩)
      · have he : es = [] := by
          by_cases e : es = []
          · exact e
          · rw [decide_eq_false e] at ce; cases ce
        refine kq _ _ ⟨0, by rw [← tx0'], ?_, by decide, by decide, tz⟩
        rw [he]
        decide
      rintro v H3 ⟨x, rfl, x1, x2, x3, s3⟩
      have s23 := s2.trans s3
      have hau3 := s23 _ _ hau
      have hR3 := s23 _ _ hR1
      have D3 := D1.mono s23
      have hx := small31 x3 x2
      have lx : (Str.ofString (toString x)).length ≤ 32 := by have := len_Tx hx; rw [L_len] at this; exact this
      have fx := fine_line1 x3 x2
      refine ⟨_, rfl, au, _, rfl, .inr (SqT.of hau3), _, _, rfl, rfl, ?_⟩
      obtain ⟨m, hm⟩ : ∃ m : Nat, es.length + m = 12 := ⟨12 - es.length, by omega⟩
      dsimp only [gName]
      refine st_eq (σ' := [some (.ref p), some (.ref R), some (.int n), some (.ref au), some (.int r1), some (.str (Tx n)), none, none, none, some (.str (Tx x)), some (.int (m : Int)), none]) (by rw [show (m : Int) = 12 - (vu.length : Int) by omega]; rfl) ?_
      refine ⟨_, rfl, _, rfl, _, _, rfl, rfl, (size1000 (by simp only [Tx, k5]; omega)), (by show 1 ≤ sizeLine; decide), fun y1 ny1 => ?_⟩
      have t1 := Same_new (o := .lst [V.str (Tx x ++ Str.ofString " 1 1")]) ny1
      refine ⟨_, rfl, y1, (m : Int), _, rfl, rfl, upd_same, by omega, by omega, (size1000 (by simp; omega)), fun y2 ny2 => ?_⟩
      rw [show (List.replicate ((m : Int)).toNat [V.str (Tx x ++ Str.ofString " 1 1")]).flatten = (List.replicate m (lineS (x, 1, 1))).map V.str by
        rw [line1, Int.toNat_natCast, List.map_replicate]
        clear hm
        induction m with
        | zero => rfl
        | succ m ih => rw [List.replicate_succ, List.flatten_cons, ih, List.replicate_succ]; rfl]
      have t2 := Same_new2 (o := .lst ((List.replicate m (lineS (x, 1, 1))).map V.str)) t1 ny2
      refine ⟨R, y2, _, _, rfl, rfl, t2 _ _ hR3, upd_same, (by rw [List.length_map, List.length_map, List.length_replicate, hrl]; exact size1000 (by omega)), fun y3 ny3 => ?_⟩
      rw [map_cat]
      have t3 := Same_new2 (o := .lst ((rowsS n es ++ List.replicate m (lineS (x, 1, 1))).map V.str)) t2 ny3
      refine ⟨_, rfl, _, _, rfl, rfl, (size1000 (by simp only [Tx, k5]; omega)), (by show 2 ≤ sizeLine; decide), fun y4 ny4 => ?_⟩
      have t4 := Same_new2 (o := .lst [V.str (Tx x ++ Str.ofString " 1 1"), V.str (Str.ofString "x")]) t3 ny4
      have hy3 := Same_new (o := .lst [V.str (Tx x ++ Str.ofString " 1 1"), V.str (Str.ofString "x")]) ny4 _ _ (upd_same (H := upd (upd H3 y1 (.lst [V.str (Tx x ++ Str.ofString " 1 1")])) y2 (.lst ((List.replicate m (lineS (x, 1, 1))).map V.str))) (a := y3) (o := .lst ((rowsS n es ++ List.replicate m (lineS (x, 1, 1))).map V.str)))
      refine ⟨_, rfl, p, c, 2, rfl, D3.mono t4, by decide, by decide, fun H4 r4 c0 c1 D4 s4 => ?_⟩
      obtain ⟨v, hv2, hmm⟩ := at_vs (xs := [V.str (Tx x ++ Str.ofString " 1 1"), V.str (Str.ofString "x")]) c0 c1
      obtain ⟨y, rfl, hyf⟩ : ∃ y, v = V.str y ∧ FineS y := by
        rcases List.mem_cons.mp hmm with rfl | hmm
        · exact ⟨_, rfl, by rw [line1]; exact fx⟩
        rw [List.mem_singleton.mp hmm]
        exact ⟨_, rfl, fine_of (l := [120]) (by decide +kernel) (by unfold okC; decide) (by decide)⟩
      have ny4D := (D3.mono t3).fresh ny4
      have ny3D := (D3.mono t2).fresh ny3
      refine ⟨y4, _, _, _, rfl, rfl, SqL.of (s4.at upd_same ny4D), hv2, (by show 1 ≤ sizeLine; decide), fun y5 ny5 => ?_⟩
      have t5 := Same_new (o := .lst [V.str y]) ny5
      have hy3b := t5 _ _ (s4.at hy3 ny3D)
      refine ⟨y3, y5, _, _, rfl, rfl, hy3b, upd_same, (by rw [List.length_map, List.length_append, List.length_replicate, hrl]; exact size1000 (by simp; omega)), fun y6 ny6 => ?_⟩
      have t6 := Same_new2 (o := .lst ((rowsS n es ++ List.replicate m (lineS (x, 1, 1))).map V.str ++ [V.str y])) t5 ny6
      refine ⟨(by show 3 ≤ sizeLine; decide), fun y7 ny7 => ?_⟩
      have t7 := Same_new2 (o := .lst [V.ref y6, .int 14, .int 1]) t6 ny7
      refine k _ y7 y6 (headS n :: (es.map lineS ++ List.replicate m (lineS (x, 1, 1)) ++ [y])) 14 1 (D4.mono t7) (((s1.trans (sameD_of s23)).trans (sameD_of t4)).trans (s4.trans (sameD_of t7))) upd_same ?_ (fun z hz => ?_) ?_ (by simp) (many_text hv x1 x2 hm hyf.no)
      · rw [Same_new ny7 _ _ upd_same]
        unfold rowsS
        simp
      · rcases List.mem_cons.mp hz with rfl | hz
        · exact finH
        rcases List.mem_append.mp hz with hz | hz
        · rcases List.mem_append.mp hz with hz | hz
          · exact finL z hz
          · rw [List.eq_of_mem_replicate hz]; exact fx
        · rw [List.mem_singleton.mp hz]; exact hyf
      · simp; omega
    rintro H2 ⟨s2, hne⟩
    have hR2 := s2 _ _ hR1
    have hu2 := hu1.mono s2
    have hau2 := s2 _ _ hau
    have D2 := D1.mono s2
    have lpos : 0 < es.length := List.length_pos_iff.mpr hne
    refine ⟨_, rfl, _, rfl, au, _, rfl, .inr (SqT.of hau2), p, c, (vu.length : Int), rfl, D2, by omega, nb (by omega) (Int.le_trans (show (vu.length : Int) ≤ 12 by omega) (by decide)), fun H3 r3 b0 b1 D3 s3 => ?_⟩
    obtain ⟨j, rfl⟩ : ∃ j : Nat, r3 = (j : Int) := ⟨r3.toNat, by omega⟩
    have hj : j < es.length := by omega
    have hR3 := s3.at hR2 ⟨rp, rc⟩
    have hu3 := s3.tup D2 hu2
    refine ⟨_, rfl, _, rfl, _, rfl, _, rfl, p, c, j, .ref au, n, es, rfl, D3, hu3, hv, hj, fun H4 t s x D4 s4 tp tc htt hF => ?_⟩
    have hR4 := s4.at hR3 ⟨rp, rc⟩
    refine ⟨_, rfl, _, rfl, _, _, rfl, rfl, ((j + 1 : Nat) : Int), by show V.int ((j : Int) + 1) = _; rw [show (j : Int) + 1 = ((j + 1 : Nat) : Int) by omega], R, _, rfl, SqL.of hR4, fun y1 ny1 => ?_⟩
    rw [map_cut_to (show j + 1 ≤ (rowsS n es).length by omega), rowsS_take]
    have t1 := Same_new (o := .lst ((headS n :: (es.map lineS).take j).map V.str)) ny1
    refine ⟨_, rfl, t, _, _, _, rfl, rfl, SqL.of (t1 _ _ htt), rfl, (by show 1 ≤ sizeLine; decide), fun y2 ny2 => ?_⟩
    have t2 := Same_new2 (o := .lst [V.str s]) t1 ny2
    have hy1 := Same_new (o := .lst [V.str s]) ny2 _ _ (upd_same (H := H4) (a := y1) (o := .lst ((headS n :: (es.map lineS).take j).map V.str)))
    refine ⟨y1, y2, _, _, rfl, rfl, hy1, upd_same, (by rw [List.length_map]; exact size1000 (by simp; omega)), fun y3 ny3 => ?_⟩
    have t3 := Same_new2 (o := .lst ((headS n :: (es.map lineS).take j).map V.str ++ [V.str s])) t2 ny3
    refine ⟨_, rfl, _, rfl, _, _, rfl, rfl, ((j + 1 + 1 : Nat) : Int), by show V.int ((j : Int) + 2) = _; rw [show (j : Int) + 2 = ((j + 1 + 1 : Nat) : Int) by omega], R, _, rfl, SqL.of (t3 _ _ hR4), fun y4 ny4 => ?_⟩
    rw [map_cut_from (show j + 1 + 1 ≤ (rowsS n es).length by omega), rowsS_drop]
    have t4 := Same_new2 (o := .lst (((es.map lineS).drop (j + 1)).map V.str)) t3 ny4
    have hy3 := Same_new (o := .lst (((es.map lineS).drop (j + 1)).map V.str)) ny4 _ _ (upd_same (H := upd (upd H4 y1 (.lst ((headS n :: (es.map lineS).take j).map V.str))) y2 (.lst [V.str s])) (a := y3) (o := .lst ((headS n :: (es.map lineS).take j).map V.str ++ [V.str s])))
    refine ⟨y3, y4, _, _, rfl, rfl, hy3, upd_same, (by rw [List.length_append, List.length_map, List.length_map]; exact size1000 (by simp; omega)), fun y5 ny5 => ?_⟩
    have t5 := Same_new2 (o := .lst ((headS n :: (es.map lineS).take j).map V.str ++ [V.str s] ++ ((es.map lineS).drop (j + 1)).map V.str)) t4 ny5
    refine ⟨_, rfl, _, _, rfl, rfl, _, rfl, t, _, 1, _, rfl, rfl, SqL.of (t5 _ _ htt), rfl, (by show 3 ≤ sizeLine; decide), fun y6 ny6 => ?_⟩
    have t6 := Same_new2 (o := .lst [V.ref y5, .int ((j : Int) + 2), .int x]) t5 ny6
    refine k _ y6 y5 (headS n :: ((es.map lineS).take j ++ s :: (es.map lineS).drop (j + 1))) ((j : Int) + 2) x (D4.mono t6) ((((s1.trans (sameD_of s2)).trans s3).trans s4).trans (sameD_of t6)) upd_same ?_ (fun y hy => ?_) ?_ (by simp) (flt_text hv hj hF)
    · rw [Same_new ny6 _ _ upd_same]
      simp
    · rcases List.mem_cons.mp hy with rfl | hy
      · exact finH
      rcases List.mem_append.mp hy with hy | hy
      · exact finL y (List.mem_of_mem_take hy)
      rcases List.mem_cons.mp hy with rfl | hy
      · exact hF.fine
      · exact finL y (List.mem_of_mem_drop hy)
    · simp; omega
-- @prem _law_fault _law_fault  : D__law_next m_str m_len m_max D__law_entry_fault
theorem lk_line (x y : V) : List.lookup (Str.ofString "line") [(Str.ofString "word", x), (Str.ofString "line", y)] = some y := by
  rw [lookup_put, if_neg (by decide +kernel), lookup_put, if_pos rfl]
theorem lk_word (x y : V) : List.lookup (Str.ofString "word") [(Str.ofString "word", x), (Str.ofString "line", y)] = some x := by
  rw [lookup_put, if_pos rfl]
theorem eqv_pair (a b : Int) : PyData.eqv (.tuple [.int a, .int b]) (.tuple [.int a, .int b]) = true := by
  show (PyData.eqv (.int a) (.int a) && (PyData.eqv (.int b) (.int b) && true)) = true
  rw [eqv_int, eqv_int, decide_eq_true rfl, decide_eq_true rfl]
  rfl
theorem shaped_pair (a b : Int) : SeqAt.shaped (.tuple [.int a, .int b]) = true := shaped_of (by
  have := shaped_tup (k := 0) (ds := [.int a, .int b]) fun d hd => by
    rcases List.mem_cons.mp hd with rfl | hd
    · exact ⟨rfl, Nat.le_refl _⟩
    · rw [List.mem_singleton.mp hd]; exact ⟨rfl, Nat.le_refl _⟩
  exact ⟨this.1, Nat.le_trans this.2 (by decide)⟩)
theorem rows_fine {n : Int} {es : List Ent} (hv : Valid n es) : PyData.strOk (textS n es) = true := joined_ok fun y hy => by
  rcases List.mem_cons.mp hy with rfl | hy
  · exact (fine_head hv.n1 hv.n2).ok
  · exact (fine_line hv y hy).ok
theorem sc_law : FnScope ["_law_script", "_law_h", "_law_many", "_law_entries", "_law_text", "_law_rows", "_law_line", "_law_word", "_law_told", "e", "_law_row"] ["_law_script"] (defScope s_law) := ⟨rfl, rfl, rfl, by decide +kernel, rfl, by decide +kernel, by decide +kernel⟩
set_option maxHeartbeats 32000000 in
theorem ok_law {f : Addr} {fd : FuncData} (F : Fun K "law" "law" s_law f fd)  (D__law_mix : Dn P w K mg base "_law_mix" ["_law_script", "_law_seed"] 1 (spMix K)) (D__law_next : Dn P w K mg base "_law_next" ["_law_h", "_law_bound"] 1 (spNext)) (D__law_great : Dn P w K mg base "_law_great" ["_law_h"] 2 (spGr)) (D__law_small : Dn P w K mg base "_law_small" ["_law_h", "_law_most", "_law_far"] 2 (spSmallV)) (D_write_summary : Dn P w K mg base "write_summary" ["summary"] 3 (spWriteT C)) (T : SumT K mg C) (DS : DnMk P w K mg base C) (D__law_fault : Dn P w K mg base "_law_fault" ["_law_h", "_law_rows", "_law_many", "_law_entries"] 3 (spFault)) (mgC_InvalidText : mg "InvalidText" = some (.ref C_InvalidText)) (D_read_summary : DnX P w K mg base "read_summary" ["text"] 8 (spReadT C C_InvalidText)) (m_isinstance : mg "isinstance" = none) (mgC_RankError : mg "RankError" = some (.ref C_RankError)) (XX_InvalidText : XfC K C_InvalidText) (nf_InvalidText_word : PySem.W.findIn K (.ref C_InvalidText) "word" = some none) (nf_InvalidText_line : PySem.W.findIn K (.ref C_InvalidText) "line" = some none) (DQ : DEq P w K mg base C) (eII : PySem.W.exmOne K (.ref C_InvalidText) (.ref C_InvalidText) = some true) (XC : ExcC K C_InvalidText) (kIR : PySem.W.kitOne K (.ref C_InvalidText) (.ref C_RankError) = some true) : FnOk P w K mg base CX0 9 f fd ["_law_script"] (spLaw K) := by
  obtain ⟨fQ, fdQ, GQ, hsQ, hfQ, bQ⟩ := DQ
  refine F.ok sc_law (fun vs H Q E h => ?_) (fun cdv A outer s H vs Q E hr h => ?_)
  · obtain ⟨a, ns, rfl, _⟩ := h
    rfl
  · obtain ⟨a, ns, rfl, hSc, h63, k⟩ := h
    have nd := sc_law.nd
    have hr1 : Room 1 _ := hr.mono (by decide)
    have hr2 : Room 2 _ := hr.mono (by decide)
    have hr3 : Room 3 _ := hr.mono (by decide)
    have hr7 : Room 7 _ := hr.mono (by decide)
    have hr8 : Room 8 _ := hr.mono (by decide)
    refine ⟨_, pss_cons (ps_set (i := 1) nd rfl (Or.inl rfl) (pe_dn D__law_mix hr1 (pa_cons (pv 0) (pa_cons pe_int pa_nil))))
        (pss_cons (ps_asg (pe_ifExp (pt_cmpR op_eq (pe_dn D__law_next hr1 (pa_cons (pv 1) (pa_cons pe_int pa_nil))) pe_int (nomark _)) (pe_dn D__law_great hr2 (pa_cons (pv 1) pa_nil)) (pe_dn D__law_small hr2 (pa_cons (pv 1) (pa_cons pe_int (pa_cons pe_int pa_nil))))) (pg_unl rfl (pgs_cons (pg_name (i := 2) nd rfl (Or.inl rfl)) (pgs_cons (pg_name (i := 3) nd rfl (Or.inl rfl)) pgs_nil))))
        (pss_cons (ps_set (i := 4) nd rfl (Or.inl rfl) (pe_dn D_write_summary hr3 (pa_cons (pe_mkS DS T hr7 (pa_cons (pv 2) (pa_cons (pv 3) pa_nil))) pa_nil)))
        (pss_cons (ps_asg (pe_dn D__law_fault hr3 (pa_cons (pv 1) (pa_cons (pe_split (pv 4) pe_str) (pa_cons (pv 2) (pa_cons (pv 3) pa_nil))))) (pg_unl rfl (pgs_cons (pg_name (i := 5) nd rfl (Or.inl rfl)) (pgs_cons (pg_name (i := 6) nd rfl (Or.inl rfl)) (pgs_cons (pg_name (i := 7) nd rfl (Or.inl rfl)) pgs_nil)))))
        (pss_cons (ps_set (i := 8) nd rfl (Or.inl rfl) pe_non)
        (pss_cons (ps_try_as (i := 9) (tb := fun W => tDrop (tCallS (spReadT C C_InvalidText) (WE W) (tCons (tM1 (rJn K) (tC (.str (PySem.Str.ofString "\n"))) (tLc (iList K (tVar 5)) (gName 10) tYes (tVar 10) [10])) tNil))) (ts := fun a cls d => tAsg (tIf (tB (tCB (rIsX K a cls d) (tCons (tVar 9) (tCons (tC (.ref C_RankError)) tNil)))) (tTup (tCons (tXf a cls d C_InvalidText "line" (tVar 9)) (tCons (tXf a cls d C_InvalidText "word" (tVar 9)) tNil))) (tC .non)) (gName 8)) (Wout := fun _ _ _ _ => False) rfl rfl nd rfl rfl ⟨rfl, by decide, .inl mgC_InvalidText⟩ takes0 (fun W pn xe tk _ => by exact (pss_one (ps_expr (pe_dnX D_read_summary hr8 tk (by exact (pa_cons (pe_jn pe_str (pe_lc (own := [("_law_row", 10)]) (g := gName 10) (tt := tYes) (te := tVar 10) rfl nd (pi_list (pv 5)) (blkOk_by (own := [("_law_row", 10)]) (N := ["_law_script", "_law_h", "_law_many", "_law_entries", "_law_text", "_law_rows", "_law_line", "_law_word", "_law_told", "e", "_law_row"]) (sc := defScope s_law) (by decide +kernel)) (fun _ _ _ _ _ => (pg_name (i := 10) nd rfl (Or.inl rfl))) (fun _ _ _ _ _ => pts_nil) (fun _ _ _ _ _ => (pv 10)))) pa_nil))))))
      (fun a oe cls d pn hz hf => by exact (pss_one (ps_set (i := 8) nd rfl (Or.inl rfl) (pe_ifExp (pt_val (pe_callB (call_isX hz hf) (by rfl) m_isinstance (by decide +kernel) (pa_cons (pv 9) (pa_cons (pe_glob (v := .ref C_RankError) rfl mgC_RankError rfl) pa_nil)))) (pe_tup (pa_cons (pe_xf XX_InvalidText nf_InvalidText_line hz hf (pv 9)) (pa_cons (pe_xf XX_InvalidText nf_InvalidText_word hz hf (pv 9)) pa_nil))) pe_non)))))
        (pss_one (ps_ret (pe_and (pe_cmpR (op_eqD hr.units) (pv 8) (pe_tup (pa_cons (pv 6) (pa_cons (pv 7) pa_nil))) (nomark _)) (pe_one (pe_cmpR (op_eqO GQ hr1 hsQ hfQ bQ pass0) (pe_dn0 D_read_summary hr8 (pa_cons (pv 4) pa_nil)) (pe_mkS DS T hr7 (pa_cons (pv 2) (pa_cons (pv 3) pa_nil))) (nomark _))))))))))), ?_⟩
    refine ⟨_, rfl, a, ns, 9, rfl, hSc, h63, by decide, by decide, fun H1 p c s1 np nc D1 => ?_⟩
    refine ⟨_, rfl, p, c, 3, rfl, D1, by decide, by decide, fun H2 r2 b0 b1 D2 s2 => ?_⟩
    refine ⟨rfl, _, rfl, ?_⟩
    refine two_ways (fun v H' => ∃ q n u es, v = .ref q ∧ H' q = some (.lst [.int n, u]) ∧ TupV H' u es ∧ Valid n es ∧ DrawAt H' p c) (fun _ Q' kq => ?_) (fun _ Q' kq => ?_) ?_
    · exact ⟨_, rfl, p, c, rfl, D2, fun H3 q u n es n1 v D3 _ hq hu => kq _ _ ⟨q, n, u, es, rfl, hq, hu, v, D3⟩⟩
    · exact ⟨_, rfl, p, c, 12, 9, rfl, D2, by decide, by decide, by decide, by decide, fun H3 q u n es n1 n2 v l6 _ D3 _ hq hu => kq _ _ ⟨q, n, u, es, rfl, hq, hu, v, D3⟩⟩
    rintro v H3 ⟨q, n, u, es, rfl, hq, hu, hv, D3⟩
    refine ⟨q, _, rfl, SqL.of hq, rfl, _, _, rfl, _, _, rfl, rfl, ?_⟩
    have tl := text_len hv
    have hok := rows_fine hv
    refine ⟨_, rfl, _, rfl, fun x dx nx nd' ne => sum_mk hu hv nx nd' ne fun H4 s4 hs4 => ?_⟩
    refine ⟨.ref x, n, es, rfl, hs4, hv, fun H5 s5 => ?_⟩
    have s35 := s4.trans s5
    have D5 := D3.mono s35
    have hu5 := hu.mono s35
    refine ⟨_, rfl, _, rfl, ⟨_, rfl⟩, textS n es, nl10, rfl, by rw [nlS], by decide +kernel, size1000 (by omega), fun R nR => ?_⟩
    rw [rows_split]
    have tR := Same_new (o := .lst ((rowsS n es).map V.str)) nR
    have fR := D5.fresh nR
    refine ⟨_, rfl, _, rfl, p, c, R, u, n, es, rfl, D5.mono tR, fR.1, fR.2, upd_same, hu5.mono tR, hv, fun H6 q6 r6 ys line wd D6 s6 hq6 hr6 hfine l15 l1 hread => ?_⟩
    have hu6 := s6.tup (D5.mono tR) (hu5.mono tR)
    refine ⟨q6, _, rfl, SqL.of hq6, rfl, _, _, rfl, _, _, rfl, _, _, rfl, rfl, ?_⟩
    dsimp only [gName]
    refine st_eq (σ' := [some (.ref a), some (.ref p), some (.int n), some u, some (.str (textS n es)), some (.ref r6), some (.int line), some (.int wd), none, none, none]) rfl ?_
    have hlen := StrLaws.sumLen_le ys (fun y hy => (hfine y hy).ln)
    have hlen2 : ys.length * 200 ≤ 15 * 200 := Nat.mul_le_mul_right _ l15
    have hjl : (Txt.join nl10 ys).length ≤ 4000 := by
      rw [show Txt.join nl10 ys = Str.join nl10 ys from txt_join 10 _]
      have := StrLaws.join_length_le nl10 ys
      rw [show nl10.length = 1 by decide +kernel] at this
      exact Nat.le_trans this (by omega)
    refine ⟨⟨_, rfl⟩, _, rfl, r6, rfl, ⟨_, SqL.of hr6⟩, fun G nG => ?_⟩
    refine lc_list (K := K) (a := r6) (xs := ys.map V.str) (fun i H' => H' G = some (.lst ((ys.take i).map V.str)) ∧ Same H6 H') ⟨upd_same, Same_new nG⟩ (fun i H' _ ⟨_, s7⟩ => SqL.of (s7 _ _ hr6)) ?_ ?_
    · rintro i x' H' hx ⟨hG, s7⟩
      rw [List.getElem?_map] at hx
      obtain ⟨y, hy, rfl⟩ : ∃ y, ys[i]? = some y ∧ x' = V.str y := by
        cases e : ys[i]? with
        | none => rw [e] at hx; cases hx
        | some z => rw [e] at hx; exact ⟨z, rfl, (Option.some.inj hx).symm⟩
      have hil : i < ys.length := (List.getElem?_eq_some_iff.mp hy).1
      refine ⟨rfl, tyes_of ?_⟩
      rw [if_pos rfl]
      refine ⟨_, rfl, _, hG, by rw [List.length_map, List.length_take]; exact small1000 (by omega), ?_, Same_mut s7 nG⟩
      rw [upd_same, List.take_add_one, hy, List.map_append]
      rfl
    rintro H7 ⟨hG, s7⟩
    rw [List.length_map, List.take_length] at hG
    refine ⟨nl10, G, ys, by rw [nlS], rfl, .inl (SqL.of hG), by rw [show nl10.length = 1 by decide +kernel]; omega, ?_⟩
    refine ⟨Txt.join nl10 ys, rfl, size1000 (by omega), joined_ok (fun y hy => (hfine y hy).ok), fun n' es' he => absurd (he.symm.trans hread) (by intro z; cases z), fun r hr => ?_⟩
    rw [hread] at hr
    injection hr with hr
    subst hr
    intro H8 d s8 nd8 hd8
    refine ⟨true, eII, fun _ a8 na8 => ?_, fun z => Bool.noConfusion z⟩
    refine ⟨_, rfl, C_InvalidText, _, _, true, rfl, XC, rfl, ref_is, kIR, fun dd hdd => ⟨_, by cases hdd; exact hd8⟩, true, rfl, iteT ?_⟩
    refine ⟨_, rfl, rfl, rfl, d, _, _, rfl, hd8, lk_line _ _, ?_⟩
    refine ⟨_, rfl, rfl, rfl, d, _, _, rfl, hd8, lk_word _ _, (by show 2 ≤ sizeLine; decide), fun t nt => ?_⟩
    have t9 := Same_new (o := .tup [.int line, .int wd]) nt
    dsimp only [gName]
    refine ⟨_, rfl, _, rfl, _, rfl, (by show 2 ≤ sizeLine; decide), fun z nz => ?_⟩
    have tz := Same_new (o := .tup [.int line, .int wd]) nz
    have ht := tz _ _ (upd_same (H := H8) (a := t) (o := .tup [V.int line, V.int wd]))
    refine ⟨_, _, .tup (SqT.of ht) (.cons (.int line) (.cons (.int wd) .nil)), .tup (SqT.of upd_same) (.cons (.int line) (.cons (.int wd) .nil)), shaped_pair _ _, shaped_pair _ _, ?_⟩
    rw [eqv_pair]
    refine ⟨true, rfl, iteT ?_⟩
    refine ⟨_, rfl, textS n es, rfl, size1000 (by omega), hok, fun n' es' he Ha xa sa hsa => ?_, fun r hr => absurd (hr.symm.trans (textS_reads hv)) (by intro z; cases z)⟩
    rw [textS_reads hv] at he
    injection he with he
    injection he with e1 e2
    subst e1 e2
    have sAll : Same H6 Ha := (((s7.trans s8).trans t9).trans tz).trans sa
    refine ⟨_, rfl, _, rfl, fun xb dxb nx nd' ne => sum_mk (hu6.mono sAll) hv nx nd' ne fun Hb sb hsb => eq_sum T (hsa.mono sb) hsb ?_⟩
    rw [decide_eq_true rfl, decide_eq_true rfl]
    exact k _
-- @prem law law  : D__law_mix D__law_next D__law_great D__law_small D_write_summary T DS D__law_fault mgC_InvalidText D_read_summary m_isinstance mgC_RankError XX_InvalidText nf_InvalidText_word nf_InvalidText_line DQ
end
end SR

set_option Elab.async false
set_option linter.all false
set_option maxRecDepth 100000
set_option maxHeartbeats 4000000
namespace SR
open PySem PySem.Spec PyProof.Rows L2
theorem kit_no {K : PySem.W.Frag} {C : Addr} {T : String} (h1 : PySem.W.isClsIn K C = true) (h2 : PySem.W.typeIn K (.ref C) = some (.type "type")) (h3 : PySem.W.subIn K (.type T) (.ref C) = some false) : PySem.W.kitOne K (.type T) (.ref C) = some false := by
  have h1' : (PySem.W.clsIn K C).isSome = true := h1
  have e1 : ((PySem.W.clsIn K C).isSome && PySem.W.typeIn K (.ref C) == some (.type "type")) = true := by rw [h1', h2] <;> rfl
  show (if (Value.type T == Value.ref C) = true then some true else (if ((PySem.W.clsIn K C).isSome && PySem.W.typeIn K (.ref C) == some (.type "type")) = true then PySem.W.subIn K (.type T) (.ref C) else none)) = some false
  rw [show (Value.type T == Value.ref C) = false from rfl, if_neg Bool.false_ne_true, if_pos e1]
  exact h3
open PySem.HandSPX PySem.W PySem.Calls in
theorem exm_b {K : PySem.W.Frag} {A S : Addr} {b : Bool} (h1 : PySem.W.subIn K (.ref S) (.type "BaseException") = some true) (h2 : PySem.W.isClsIn K S = true) (h3 : PySem.W.typeIn K (.ref S) = some (.type "type")) (h4 : PySem.W.subIn K (.ref A) (.ref S) = some b) : PySem.W.exmOne K (.ref A) (.ref S) = some b := by
  have e1 : (PySem.W.subIn K (.ref S) (.type "BaseException") == some true) = true := by rw [h1] <;> rfl
  have e2 : ((PySem.W.clsIn K S).isSome && PySem.W.typeIn K (.ref S) == some (.type "type")) = true := by
    have h2' : (PySem.W.clsIn K S).isSome = true := h2
    rw [h2', h3] <;> rfl
  show (if (PySem.W.subIn K (.ref S) (.type "BaseException") == some true) = true then (if ((PySem.W.clsIn K S).isSome && PySem.W.typeIn K (.ref S) == some (.type "type")) = true then PySem.W.subIn K (.ref A) (.ref S) else none) else none) = some b
  rw [if_pos e1, if_pos e2]
  exact h4
set_option maxHeartbeats 16000000 in
theorem all_mk {l : PySem.W.OpenLaw} {w : World} {K : PySem.W.Frag} {h : Heap} {mg : Str → Option Value} {fa C f_Sinit p_Smany f_Smany p_Sentries f_Sentries f_Slen f_Seq C_InvalidText f_XInvalidText f_is_integer f_is_between f_is_value f__is_entry f__check_entries f_check_summary f__words f__number f__number_at f__check_end f__read_count f__read_entry f_write_summary f_read_summary f__law_mix f__law_next f__law_small f__law_great f__law_entry_fault f__law_fault f_law : Addr} {oc_Sinit kV_Sinit dc_Sinit pm_Sinit cd_Sinit ct_Sinit oc_Smany kV_Smany dc_Smany pm_Smany cd_Smany ct_Smany oc_Sentries kV_Sentries dc_Sentries pm_Sentries cd_Sentries ct_Sentries oc_Slen kV_Slen dc_Slen pm_Slen cd_Slen ct_Slen oc_Seq kV_Seq dc_Seq pm_Seq cd_Seq ct_Seq oc_XInvalidText kV_XInvalidText dc_XInvalidText pm_XInvalidText cd_XInvalidText ct_XInvalidText oc_is_integer kV_is_integer dc_is_integer pm_is_integer cd_is_integer ct_is_integer oc_is_between kV_is_between dc_is_between pm_is_between cd_is_between ct_is_between oc_is_value kV_is_value dc_is_value pm_is_value cd_is_value ct_is_value oc__is_entry kV__is_entry dc__is_entry pm__is_entry cd__is_entry ct__is_entry oc__check_entries kV__check_entries dc__check_entries pm__check_entries cd__check_entries ct__check_entries oc_check_summary kV_check_summary dc_check_summary pm_check_summary cd_check_summary ct_check_summary oc__words kV__words dc__words pm__words cd__words ct__words oc__number kV__number dc__number pm__number cd__number ct__number oc__number_at kV__number_at dc__number_at pm__number_at cd__number_at ct__number_at oc__check_end kV__check_end dc__check_end pm__check_end cd__check_end ct__check_end oc__read_count kV__read_count dc__read_count pm__read_count cd__read_count ct__read_count oc__read_entry kV__read_entry dc__read_entry pm__read_entry cd__read_entry ct__read_entry oc_write_summary kV_write_summary dc_write_summary pm_write_summary cd_write_summary ct_write_summary oc_read_summary kV_read_summary dc_read_summary pm_read_summary cd_read_summary ct_read_summary oc__law_mix kV__law_mix dc__law_mix pm__law_mix cd__law_mix ct__law_mix oc__law_next kV__law_next dc__law_next pm__law_next cd__law_next ct__law_next oc__law_small kV__law_small dc__law_small pm__law_small cd__law_small ct__law_small oc__law_great kV__law_great dc__law_great pm__law_great cd__law_great ct__law_great oc__law_entry_fault kV__law_entry_fault dc__law_entry_fault pm__law_entry_fault cd__law_entry_fault ct__law_entry_fault oc__law_fault kV__law_fault dc__law_fault pm__law_fault cd__law_fault ct__law_fault oc_law kV_law dc_law pm_law cd_law ct_law : Value} {od_Sinit an_Sinit od_Smany an_Smany od_Sentries an_Sentries od_Slen an_Slen od_Seq an_Seq od_XInvalidText an_XInvalidText od_is_integer an_is_integer od_is_between an_is_between od_is_value an_is_value od__is_entry an__is_entry od__check_entries an__check_entries od_check_summary an_check_summary od__words an__words od__number an__number od__number_at an__number_at od__check_end an__check_end od__read_count an__read_count od__read_entry an__read_entry od_write_summary an_write_summary od_read_summary an_read_summary od__law_mix an__law_mix od__law_next an__law_next od__law_small an__law_small od__law_great an__law_great od__law_entry_fault an__law_entry_fault od__law_fault an__law_fault od_law an_law : Option Addr} {sl_Sinit sl_Smany sl_Sentries sl_Slen sl_Seq sl_XInvalidText sl_is_integer sl_is_between sl_is_value sl__is_entry sl__check_entries sl_check_summary sl__words sl__number sl__number_at sl__check_end sl__read_count sl__read_entry sl_write_summary sl_read_summary sl__law_mix sl__law_next sl__law_small sl__law_great sl__law_entry_fault sl__law_fault sl_law : Array (Option Value)} {v_GREATEST_COUNT v_GREATEST_VALUE v_MOST_ENTRIES v_MOST_DIGITS : Int} {t_GREATEST_COUNT t_GREATEST_VALUE t_MOST_ENTRIES t_MOST_DIGITS : Tok} {rs_Smany rs_Sentries : List Value} {C_RankError : Addr} {nm_InvalidText q_InvalidText : Str} {N_InvalidText : Addr} {bs_InvalidText sub_InvalidText : List Value} {sn_InvalidText : List Str} {ab_InvalidText : Bool} {col_InvalidText : Option Bool} {dd_InvalidText : Option Addr} {j0_InvalidText j1_InvalidText j2_InvalidText j3_InvalidText j5_InvalidText : Option Value}
    (X : K.In h) (G : h.Ns mainGlobals mg) (hfa : mg "law" = some (.ref fa))
    (z_isinstance : PySem.W.nsIn K mainGlobals "isinstance" = some none)
    (z_int : PySem.W.nsIn K mainGlobals "int" = some none)
    (z_bool : PySem.W.nsIn K mainGlobals "bool" = some none)
    (z_tuple : PySem.W.nsIn K mainGlobals "tuple" = some none)
    (z_len : PySem.W.nsIn K mainGlobals "len" = some none)
    (z_enumerate : PySem.W.nsIn K mainGlobals "enumerate" = some none)
    (z_max : PySem.W.nsIn K mainGlobals "max" = some none)
    (z_min : PySem.W.nsIn K mainGlobals "min" = some none)
    (z_reversed : PySem.W.nsIn K mainGlobals "reversed" = some none)
    (z_zip : PySem.W.nsIn K mainGlobals "zip" = some none)
    (z_list : PySem.W.nsIn K mainGlobals "list" = some none)
    (z_sorted : PySem.W.nsIn K mainGlobals "sorted" = some none)
    (z_range : PySem.W.nsIn K mainGlobals "range" = some none)
    (z_str : PySem.W.nsIn K mainGlobals "str" = some none)
    (g_GREATEST_COUNT : PySem.W.nsIn K mainGlobals "GREATEST_COUNT" = some (some (.int v_GREATEST_COUNT t_GREATEST_COUNT)))
    (e_GREATEST_COUNT : v_GREATEST_COUNT = 10 ^ 30)
    (g_GREATEST_VALUE : PySem.W.nsIn K mainGlobals "GREATEST_VALUE" = some (some (.int v_GREATEST_VALUE t_GREATEST_VALUE)))
    (e_GREATEST_VALUE : v_GREATEST_VALUE = 10 ^ 30)
    (g_MOST_ENTRIES : PySem.W.nsIn K mainGlobals "MOST_ENTRIES" = some (some (.int v_MOST_ENTRIES t_MOST_ENTRIES)))
    (e_MOST_ENTRIES : v_MOST_ENTRIES = 12)
    (g_MOST_DIGITS : PySem.W.nsIn K mainGlobals "MOST_DIGITS" = some (some (.int v_MOST_DIGITS t_MOST_DIGITS)))
    (e_MOST_DIGITS : v_MOST_DIGITS = 31)
    (aC : PySem.W.nsIn K mainGlobals "Summary" = some (some (.ref C)))
    (a_Sinit : PySem.W.findIn K (.ref C) "__init__" = some (some (.ref f_Sinit)))
    (i_Sinit : PySem.W.isFn K (.ref f_Sinit) = true)
    (l_Sinit : K.lookup f_Sinit = some ⟨oc_Sinit, od_Sinit, .func (PySem.W.fnOf "__init__" "Summary.__init__" (defArgs s_Summary_init) (defBody s_Summary_init) (defScope s_Summary_init) .none kV_Sinit dc_Sinit pm_Sinit an_Sinit cd_Sinit ct_Sinit), sl_Sinit⟩)
    (c_Sinit : PySem.W.codeIn K cd_Sinit "Summary.__init__" = true)
    (k_Sinit : PySem.W.keepIn K (.ref f_Sinit) = true)
    (a_Smany : PySem.W.findIn K (.ref C) "many" = some (some (.ref p_Smany)))
    (q_Smany : PySem.W.specialIn K (.ref p_Smany) "__get__" = some (some (.builtin "property.__get__")))
    (t_Smany : PySem.W.takesIn K (.ref p_Smany) = some true)
    (r_Smany : PySem.W.recIn K p_Smany "property" = some (.ref f_Smany :: rs_Smany))
    (l_Smany : K.lookup f_Smany = some ⟨oc_Smany, od_Smany, .func (PySem.W.fnOf "many" "Summary.many" (defArgs s_Summary_many) (defBody s_Summary_many) (defScope s_Summary_many) .none kV_Smany dc_Smany pm_Smany an_Smany cd_Smany ct_Smany), sl_Smany⟩)
    (c_Smany : PySem.W.codeIn K cd_Smany "Summary.many" = true)
    (k_Smany : PySem.W.keepIn K (.ref f_Smany) = true)
    (a_Sentries : PySem.W.findIn K (.ref C) "entries" = some (some (.ref p_Sentries)))
    (q_Sentries : PySem.W.specialIn K (.ref p_Sentries) "__get__" = some (some (.builtin "property.__get__")))
    (t_Sentries : PySem.W.takesIn K (.ref p_Sentries) = some true)
    (r_Sentries : PySem.W.recIn K p_Sentries "property" = some (.ref f_Sentries :: rs_Sentries))
    (l_Sentries : K.lookup f_Sentries = some ⟨oc_Sentries, od_Sentries, .func (PySem.W.fnOf "entries" "Summary.entries" (defArgs s_Summary_entries) (defBody s_Summary_entries) (defScope s_Summary_entries) .none kV_Sentries dc_Sentries pm_Sentries an_Sentries cd_Sentries ct_Sentries), sl_Sentries⟩)
    (c_Sentries : PySem.W.codeIn K cd_Sentries "Summary.entries" = true)
    (k_Sentries : PySem.W.keepIn K (.ref f_Sentries) = true)
    (a_Slen : PySem.W.findIn K (.ref C) "__len__" = some (some (.ref f_Slen)))
    (i_Slen : PySem.W.isFn K (.ref f_Slen) = true)
    (l_Slen : K.lookup f_Slen = some ⟨oc_Slen, od_Slen, .func (PySem.W.fnOf "__len__" "Summary.__len__" (defArgs s_Summary_len) (defBody s_Summary_len) (defScope s_Summary_len) .none kV_Slen dc_Slen pm_Slen an_Slen cd_Slen ct_Slen), sl_Slen⟩)
    (c_Slen : PySem.W.codeIn K cd_Slen "Summary.__len__" = true)
    (k_Slen : PySem.W.keepIn K (.ref f_Slen) = true)
    (a_Seq : PySem.W.findIn K (.ref C) "__eq__" = some (some (.ref f_Seq)))
    (i_Seq : PySem.W.isFn K (.ref f_Seq) = true)
    (l_Seq : K.lookup f_Seq = some ⟨oc_Seq, od_Seq, .func (PySem.W.fnOf "__eq__" "Summary.__eq__" (defArgs s_Summary_eq) (defBody s_Summary_eq) (defScope s_Summary_eq) .none kV_Seq dc_Seq pm_Seq an_Seq cd_Seq ct_Seq), sl_Seq⟩)
    (c_Seq : PySem.W.codeIn K cd_Seq "Summary.__eq__" = true)
    (k_Seq : PySem.W.keepIn K (.ref f_Seq) = true)
    (pg : PySem.W.plainGet K C Str.empty = true)
    (hd : PySem.W.hasDictIn K C = true)
    (po : PySem.W.plainOver K C = true)
    (sa : PySem.W.findIn K (.ref C) "__setattr__" = some (some (.builtin "object.__setattr__")))
    (mk : PySem.W.makesIn K C = true)
    (kc : PySem.W.keepIn K (.ref C) = true)
    (ha : PySem.W.findIn K (.ref C) "__class__" = some (some (.builtin "object.__class__")))
    (hn : PySem.W.specialIn K (.builtin "object.__class__") "__get__" = some (some (.builtin "getset_descriptor.__get__")))
    (htk : PySem.W.takesIn K (.builtin "object.__class__") = some true)
    (hm : PySem.W.mroIn K C (.type "object") = some true)
    (nM : PySem.W.findIn K (.ref C) "_many" = some none)
    (nE : PySem.W.findIn K (.ref C) "_entries" = some none)
    (ic : PySem.W.isClsIn K C = true)
    (ty : PySem.W.typeIn K (.ref C) = some (.type "type"))
    (st : PySem.W.subIn K (.type "tuple") (.ref C) = some false)
    (nf1 : PySem.W.notFirst K C (.ref C) = true)
    (nf2 : PySem.W.notFirst K C (.type "tuple") = true)
    (g_InvalidText : PySem.W.nsIn K mainGlobals "InvalidText" = some (some (.ref C_InvalidText)))
    (n_InvalidText : PySem.W.findIn K (.ref C_InvalidText) "__init__" = some (some (.ref f_XInvalidText)))
    (tf_InvalidText : PySem.W.typeIn K (.ref f_XInvalidText) = some (.type "function"))
    (l_XInvalidText : K.lookup f_XInvalidText = some ⟨oc_XInvalidText, od_XInvalidText, .func (PySem.W.fnOf "__init__" "InvalidText.__init__" (defArgs s_InvalidText_init) (defBody s_InvalidText_init) (defScope s_InvalidText_init) .none kV_XInvalidText dc_XInvalidText pm_XInvalidText an_XInvalidText cd_XInvalidText ct_XInvalidText), sl_XInvalidText⟩)
    (c_XInvalidText : PySem.W.codeIn K cd_XInvalidText "InvalidText.__init__" = true)
    (k_XInvalidText : PySem.W.keepIn K (.ref f_XInvalidText) = true)
    (o_InvalidText : K.lookup C_InvalidText = some (excClassObj nm_InvalidText q_InvalidText C_InvalidText N_InvalidText bs_InvalidText [.ref C_RankError, .type "ValueError", .type "Exception", .type "BaseException", .type "object"] true sn_InvalidText sub_InvalidText ab_InvalidText col_InvalidText dd_InvalidText j0_InvalidText j1_InvalidText j2_InvalidText j3_InvalidText j5_InvalidText "ValueError.__new__"))
    (kp_InvalidText : PySem.W.keepIn K (.ref C_InvalidText) = true)
    (sb_InvalidText : PySem.W.subIn K (.ref C_InvalidText) (.type "BaseException") = some true)
    (ty_InvalidText : PySem.W.typeIn K (.ref C_InvalidText) = some (.type "type"))
    (ic_InvalidText : PySem.W.isClsIn K C_InvalidText = true)
    (ss_InvalidText : PySem.W.subIn K (.ref C_InvalidText) (.ref C_InvalidText) = some true)
    (sa_InvalidText : PySem.W.findIn K (.ref C_InvalidText) "__setattr__" = some (some (.builtin "object.__setattr__")))
    (xa_InvalidText : PySem.W.findIn K (.ref C_InvalidText) "__getattribute__" = some (some (.builtin "BaseException.__getattribute__")))
    (xg_InvalidText : PySem.W.findIn K (.ref C_InvalidText) "__getattr__" = some none)
    (xd_InvalidText : PySem.W.hasDictIn K C_InvalidText = true)
    (nf_InvalidText_line : PySem.W.findIn K (.ref C_InvalidText) "line" = some none)
    (nf_InvalidText_word : PySem.W.findIn K (.ref C_InvalidText) "word" = some none)
    (xk_InvalidText : PySem.W.findIn K (.ref C_InvalidText) "__class__" = some (some (.builtin "object.__class__")))
    (xo_InvalidText : PySem.W.mroIn K C_InvalidText (.type "object") = some true)
    (g_RankError : PySem.W.nsIn K mainGlobals "RankError" = some (some (.ref C_RankError)))
    (sb_RankError : PySem.W.subIn K (.ref C_RankError) (.type "BaseException") = some true)
    (ty_RankError : PySem.W.typeIn K (.ref C_RankError) = some (.type "type"))
    (ic_RankError : PySem.W.isClsIn K C_RankError = true)
    (s_InvalidText_RankError : PySem.W.subIn K (.ref C_InvalidText) (.ref C_RankError) = some true)
    (a_is_integer : PySem.W.nsIn K mainGlobals "is_integer" = some (some (.ref f_is_integer)))
    (l_is_integer : K.lookup f_is_integer = some ⟨oc_is_integer, od_is_integer, .func (PySem.W.fnOf "is_integer" "is_integer" (defArgs s_is_integer) (defBody s_is_integer) (defScope s_is_integer) .none kV_is_integer dc_is_integer pm_is_integer an_is_integer cd_is_integer ct_is_integer), sl_is_integer⟩)
    (c_is_integer : PySem.W.codeIn K cd_is_integer "is_integer" = true)
    (k_is_integer : PySem.W.keepIn K (.ref f_is_integer) = true)
    (a_is_between : PySem.W.nsIn K mainGlobals "is_between" = some (some (.ref f_is_between)))
    (l_is_between : K.lookup f_is_between = some ⟨oc_is_between, od_is_between, .func (PySem.W.fnOf "is_between" "is_between" (defArgs s_is_between) (defBody s_is_between) (defScope s_is_between) .none kV_is_between dc_is_between pm_is_between an_is_between cd_is_between ct_is_between), sl_is_between⟩)
    (c_is_between : PySem.W.codeIn K cd_is_between "is_between" = true)
    (k_is_between : PySem.W.keepIn K (.ref f_is_between) = true)
    (a_is_value : PySem.W.nsIn K mainGlobals "is_value" = some (some (.ref f_is_value)))
    (l_is_value : K.lookup f_is_value = some ⟨oc_is_value, od_is_value, .func (PySem.W.fnOf "is_value" "is_value" (defArgs s_is_value) (defBody s_is_value) (defScope s_is_value) .none kV_is_value dc_is_value pm_is_value an_is_value cd_is_value ct_is_value), sl_is_value⟩)
    (c_is_value : PySem.W.codeIn K cd_is_value "is_value" = true)
    (k_is_value : PySem.W.keepIn K (.ref f_is_value) = true)
    (a__is_entry : PySem.W.nsIn K mainGlobals "_is_entry" = some (some (.ref f__is_entry)))
    (l__is_entry : K.lookup f__is_entry = some ⟨oc__is_entry, od__is_entry, .func (PySem.W.fnOf "_is_entry" "_is_entry" (defArgs s__is_entry) (defBody s__is_entry) (defScope s__is_entry) .none kV__is_entry dc__is_entry pm__is_entry an__is_entry cd__is_entry ct__is_entry), sl__is_entry⟩)
    (c__is_entry : PySem.W.codeIn K cd__is_entry "_is_entry" = true)
    (k__is_entry : PySem.W.keepIn K (.ref f__is_entry) = true)
    (a__check_entries : PySem.W.nsIn K mainGlobals "_check_entries" = some (some (.ref f__check_entries)))
    (l__check_entries : K.lookup f__check_entries = some ⟨oc__check_entries, od__check_entries, .func (PySem.W.fnOf "_check_entries" "_check_entries" (defArgs s__check_entries) (defBody s__check_entries) (defScope s__check_entries) .none kV__check_entries dc__check_entries pm__check_entries an__check_entries cd__check_entries ct__check_entries), sl__check_entries⟩)
    (c__check_entries : PySem.W.codeIn K cd__check_entries "_check_entries" = true)
    (k__check_entries : PySem.W.keepIn K (.ref f__check_entries) = true)
    (a_check_summary : PySem.W.nsIn K mainGlobals "check_summary" = some (some (.ref f_check_summary)))
    (l_check_summary : K.lookup f_check_summary = some ⟨oc_check_summary, od_check_summary, .func (PySem.W.fnOf "check_summary" "check_summary" (defArgs s_check_summary) (defBody s_check_summary) (defScope s_check_summary) .none kV_check_summary dc_check_summary pm_check_summary an_check_summary cd_check_summary ct_check_summary), sl_check_summary⟩)
    (c_check_summary : PySem.W.codeIn K cd_check_summary "check_summary" = true)
    (k_check_summary : PySem.W.keepIn K (.ref f_check_summary) = true)
    (a__words : PySem.W.nsIn K mainGlobals "_words" = some (some (.ref f__words)))
    (l__words : K.lookup f__words = some ⟨oc__words, od__words, .func (PySem.W.fnOf "_words" "_words" (defArgs s__words) (defBody s__words) (defScope s__words) .none kV__words dc__words pm__words an__words cd__words ct__words), sl__words⟩)
    (c__words : PySem.W.codeIn K cd__words "_words" = true)
    (k__words : PySem.W.keepIn K (.ref f__words) = true)
    (a__number : PySem.W.nsIn K mainGlobals "_number" = some (some (.ref f__number)))
    (l__number : K.lookup f__number = some ⟨oc__number, od__number, .func (PySem.W.fnOf "_number" "_number" (defArgs s__number) (defBody s__number) (defScope s__number) .none kV__number dc__number pm__number an__number cd__number ct__number), sl__number⟩)
    (c__number : PySem.W.codeIn K cd__number "_number" = true)
    (k__number : PySem.W.keepIn K (.ref f__number) = true)
    (a__number_at : PySem.W.nsIn K mainGlobals "_number_at" = some (some (.ref f__number_at)))
    (l__number_at : K.lookup f__number_at = some ⟨oc__number_at, od__number_at, .func (PySem.W.fnOf "_number_at" "_number_at" (defArgs s__number_at) (defBody s__number_at) (defScope s__number_at) .none kV__number_at dc__number_at pm__number_at an__number_at cd__number_at ct__number_at), sl__number_at⟩)
    (c__number_at : PySem.W.codeIn K cd__number_at "_number_at" = true)
    (k__number_at : PySem.W.keepIn K (.ref f__number_at) = true)
    (a__check_end : PySem.W.nsIn K mainGlobals "_check_end" = some (some (.ref f__check_end)))
    (l__check_end : K.lookup f__check_end = some ⟨oc__check_end, od__check_end, .func (PySem.W.fnOf "_check_end" "_check_end" (defArgs s__check_end) (defBody s__check_end) (defScope s__check_end) .none kV__check_end dc__check_end pm__check_end an__check_end cd__check_end ct__check_end), sl__check_end⟩)
    (c__check_end : PySem.W.codeIn K cd__check_end "_check_end" = true)
    (k__check_end : PySem.W.keepIn K (.ref f__check_end) = true)
    (a__read_count : PySem.W.nsIn K mainGlobals "_read_count" = some (some (.ref f__read_count)))
    (l__read_count : K.lookup f__read_count = some ⟨oc__read_count, od__read_count, .func (PySem.W.fnOf "_read_count" "_read_count" (defArgs s__read_count) (defBody s__read_count) (defScope s__read_count) .none kV__read_count dc__read_count pm__read_count an__read_count cd__read_count ct__read_count), sl__read_count⟩)
    (c__read_count : PySem.W.codeIn K cd__read_count "_read_count" = true)
    (k__read_count : PySem.W.keepIn K (.ref f__read_count) = true)
    (a__read_entry : PySem.W.nsIn K mainGlobals "_read_entry" = some (some (.ref f__read_entry)))
    (l__read_entry : K.lookup f__read_entry = some ⟨oc__read_entry, od__read_entry, .func (PySem.W.fnOf "_read_entry" "_read_entry" (defArgs s__read_entry) (defBody s__read_entry) (defScope s__read_entry) .none kV__read_entry dc__read_entry pm__read_entry an__read_entry cd__read_entry ct__read_entry), sl__read_entry⟩)
    (c__read_entry : PySem.W.codeIn K cd__read_entry "_read_entry" = true)
    (k__read_entry : PySem.W.keepIn K (.ref f__read_entry) = true)
    (a_write_summary : PySem.W.nsIn K mainGlobals "write_summary" = some (some (.ref f_write_summary)))
    (l_write_summary : K.lookup f_write_summary = some ⟨oc_write_summary, od_write_summary, .func (PySem.W.fnOf "write_summary" "write_summary" (defArgs s_write_summary) (defBody s_write_summary) (defScope s_write_summary) .none kV_write_summary dc_write_summary pm_write_summary an_write_summary cd_write_summary ct_write_summary), sl_write_summary⟩)
    (c_write_summary : PySem.W.codeIn K cd_write_summary "write_summary" = true)
    (k_write_summary : PySem.W.keepIn K (.ref f_write_summary) = true)
    (a_read_summary : PySem.W.nsIn K mainGlobals "read_summary" = some (some (.ref f_read_summary)))
    (l_read_summary : K.lookup f_read_summary = some ⟨oc_read_summary, od_read_summary, .func (PySem.W.fnOf "read_summary" "read_summary" (defArgs s_read_summary) (defBody s_read_summary) (defScope s_read_summary) .none kV_read_summary dc_read_summary pm_read_summary an_read_summary cd_read_summary ct_read_summary), sl_read_summary⟩)
    (c_read_summary : PySem.W.codeIn K cd_read_summary "read_summary" = true)
    (k_read_summary : PySem.W.keepIn K (.ref f_read_summary) = true)
    (a__law_mix : PySem.W.nsIn K mainGlobals "_law_mix" = some (some (.ref f__law_mix)))
    (l__law_mix : K.lookup f__law_mix = some ⟨oc__law_mix, od__law_mix, .func (PySem.W.fnOf "_law_mix" "_law_mix" (defArgs s__law_mix) (defBody s__law_mix) (defScope s__law_mix) .none kV__law_mix dc__law_mix pm__law_mix an__law_mix cd__law_mix ct__law_mix), sl__law_mix⟩)
    (c__law_mix : PySem.W.codeIn K cd__law_mix "_law_mix" = true)
    (k__law_mix : PySem.W.keepIn K (.ref f__law_mix) = true)
    (a__law_next : PySem.W.nsIn K mainGlobals "_law_next" = some (some (.ref f__law_next)))
    (l__law_next : K.lookup f__law_next = some ⟨oc__law_next, od__law_next, .func (PySem.W.fnOf "_law_next" "_law_next" (defArgs s__law_next) (defBody s__law_next) (defScope s__law_next) .none kV__law_next dc__law_next pm__law_next an__law_next cd__law_next ct__law_next), sl__law_next⟩)
    (c__law_next : PySem.W.codeIn K cd__law_next "_law_next" = true)
    (k__law_next : PySem.W.keepIn K (.ref f__law_next) = true)
    (a__law_small : PySem.W.nsIn K mainGlobals "_law_small" = some (some (.ref f__law_small)))
    (l__law_small : K.lookup f__law_small = some ⟨oc__law_small, od__law_small, .func (PySem.W.fnOf "_law_small" "_law_small" (defArgs s__law_small) (defBody s__law_small) (defScope s__law_small) .none kV__law_small dc__law_small pm__law_small an__law_small cd__law_small ct__law_small), sl__law_small⟩)
    (c__law_small : PySem.W.codeIn K cd__law_small "_law_small" = true)
    (k__law_small : PySem.W.keepIn K (.ref f__law_small) = true)
    (a__law_great : PySem.W.nsIn K mainGlobals "_law_great" = some (some (.ref f__law_great)))
    (l__law_great : K.lookup f__law_great = some ⟨oc__law_great, od__law_great, .func (PySem.W.fnOf "_law_great" "_law_great" (defArgs s__law_great) (defBody s__law_great) (defScope s__law_great) .none kV__law_great dc__law_great pm__law_great an__law_great cd__law_great ct__law_great), sl__law_great⟩)
    (c__law_great : PySem.W.codeIn K cd__law_great "_law_great" = true)
    (k__law_great : PySem.W.keepIn K (.ref f__law_great) = true)
    (a__law_entry_fault : PySem.W.nsIn K mainGlobals "_law_entry_fault" = some (some (.ref f__law_entry_fault)))
    (l__law_entry_fault : K.lookup f__law_entry_fault = some ⟨oc__law_entry_fault, od__law_entry_fault, .func (PySem.W.fnOf "_law_entry_fault" "_law_entry_fault" (defArgs s__law_entry_fault) (defBody s__law_entry_fault) (defScope s__law_entry_fault) .none kV__law_entry_fault dc__law_entry_fault pm__law_entry_fault an__law_entry_fault cd__law_entry_fault ct__law_entry_fault), sl__law_entry_fault⟩)
    (c__law_entry_fault : PySem.W.codeIn K cd__law_entry_fault "_law_entry_fault" = true)
    (k__law_entry_fault : PySem.W.keepIn K (.ref f__law_entry_fault) = true)
    (a__law_fault : PySem.W.nsIn K mainGlobals "_law_fault" = some (some (.ref f__law_fault)))
    (l__law_fault : K.lookup f__law_fault = some ⟨oc__law_fault, od__law_fault, .func (PySem.W.fnOf "_law_fault" "_law_fault" (defArgs s__law_fault) (defBody s__law_fault) (defScope s__law_fault) .none kV__law_fault dc__law_fault pm__law_fault an__law_fault cd__law_fault ct__law_fault), sl__law_fault⟩)
    (c__law_fault : PySem.W.codeIn K cd__law_fault "_law_fault" = true)
    (k__law_fault : PySem.W.keepIn K (.ref f__law_fault) = true)
    (a_law : PySem.W.nsIn K mainGlobals "law" = some (some (.ref f_law)))
    (l_law : K.lookup f_law = some ⟨oc_law, od_law, .func (PySem.W.fnOf "law" "law" (defArgs s_law) (defBody s_law) (defScope s_law) .none kV_law dc_law pm_law an_law cd_law ct_law), sl_law⟩)
    (c_law : PySem.W.codeIn K cd_law "law" = true)
    (k_law : PySem.W.keepIn K (.ref f_law) = true) :
    ∃ fd : FuncData, (∀ (s : Shared) (v : Value), BindsTo s fd ⟨[v], []⟩ [("_law_script", v)]) ∧ ∀ base : Heap, K.In base → base.Ns mainGlobals mg → FnOk l.prog w K mg base CX0 9 fa fd ["_law_script"] (spLaw K) := by
  have e := hfa.symm.trans (PySem.W.mg_of X G a_law)
  cases e
  have m_isinstance := PySem.W.mg_none_of X G z_isinstance
  have m_int := PySem.W.mg_none_of X G z_int
  have m_bool := PySem.W.mg_none_of X G z_bool
  have m_tuple := PySem.W.mg_none_of X G z_tuple
  have m_len := PySem.W.mg_none_of X G z_len
  have m_enumerate := PySem.W.mg_none_of X G z_enumerate
  have m_max := PySem.W.mg_none_of X G z_max
  have m_min := PySem.W.mg_none_of X G z_min
  have m_reversed := PySem.W.mg_none_of X G z_reversed
  have m_zip := PySem.W.mg_none_of X G z_zip
  have m_list := PySem.W.mg_none_of X G z_list
  have m_sorted := PySem.W.mg_none_of X G z_sorted
  have m_range := PySem.W.mg_none_of X G z_range
  have m_str := PySem.W.mg_none_of X G z_str
  subst e_GREATEST_COUNT
  have m_GREATEST_COUNT := PySem.W.mg_of X G g_GREATEST_COUNT
  subst e_GREATEST_VALUE
  have m_GREATEST_VALUE := PySem.W.mg_of X G g_GREATEST_VALUE
  subst e_MOST_ENTRIES
  have m_MOST_ENTRIES := PySem.W.mg_of X G g_MOST_ENTRIES
  subst e_MOST_DIGITS
  have m_MOST_DIGITS := PySem.W.mg_of X G g_MOST_DIGITS
  have F_Sinit := fun_mk (st := s_Summary_init) l_Sinit c_Sinit k_Sinit
  have b_Sinit := F_Sinit.binds (ps := ["self", "many", "entries"]) fun _ _ _ _ _ _ us hl => match us, hl with | [_, _, _], _ => rfl
  have F_Smany := fun_mk (st := s_Summary_many) l_Smany c_Smany k_Smany
  have b_Smany := F_Smany.binds (ps := ["self"]) fun _ _ _ _ _ _ us hl => match us, hl with | [_], _ => rfl
  have F_Sentries := fun_mk (st := s_Summary_entries) l_Sentries c_Sentries k_Sentries
  have b_Sentries := F_Sentries.binds (ps := ["self"]) fun _ _ _ _ _ _ us hl => match us, hl with | [_], _ => rfl
  have F_Slen := fun_mk (st := s_Summary_len) l_Slen c_Slen k_Slen
  have b_Slen := F_Slen.binds (ps := ["self"]) fun _ _ _ _ _ _ us hl => match us, hl with | [_], _ => rfl
  have F_Seq := fun_mk (st := s_Summary_eq) l_Seq c_Seq k_Seq
  have b_Seq := F_Seq.binds (ps := ["self", "other"]) fun _ _ _ _ _ _ us hl => match us, hl with | [_, _], _ => rfl
  have T : SumT K mg C := ⟨⟨⟨pg, hd, po, sa⟩, ha, hn, htk, hm, if_pos (beq_self_eq_true _)⟩, nM, nE, PySem.W.mg_of X G aC, kit_no ic ty st, nf1, nf2⟩
  have F_XInvalidText := fun_mk (st := s_InvalidText_init) l_XInvalidText c_XInvalidText k_XInvalidText
  have b_XInvalidText := F_XInvalidText.binds (ps := ["self", "line", "word"]) fun _ _ _ _ _ _ us hl => match us, hl with | [_, _, _], _ => rfl
  have ex_InvalidText := exm_b sb_InvalidText ic_InvalidText ty_InvalidText ss_InvalidText
  have OX_InvalidText : OexC K C_InvalidText := ⟨⟨_, _, _, _, _, _, _, _, _, _, _, _, _, _, _, o_InvalidText, rfl⟩, sa_InvalidText, sb_InvalidText, ty_InvalidText, kp_InvalidText⟩
  have XX_InvalidText : XfC K C_InvalidText := ⟨xa_InvalidText, xg_InvalidText, sb_InvalidText, xd_InvalidText⟩
  have mgC_InvalidText := PySem.W.mg_of X G g_InvalidText
  have XC_InvalidText : ExcC K C_InvalidText := ⟨xa_InvalidText, xg_InvalidText, sb_InvalidText, xd_InvalidText, xk_InvalidText, hn, htk, xo_InvalidText⟩
  have mgC_RankError := PySem.W.mg_of X G g_RankError
  have ex_InvalidText_RankError := exm_b sb_RankError ic_RankError ty_RankError s_InvalidText_RankError
  have kit_InvalidText_RankError := kit_own ic_RankError ty_RankError s_InvalidText_RankError ss_InvalidText
  have F_is_integer := fun_mk (st := s_is_integer) l_is_integer c_is_integer k_is_integer
  have b_is_integer := F_is_integer.binds (ps := ["value"]) fun _ _ _ _ _ _ us hl => match us, hl with | [_], _ => rfl
  have d_is_integer : Fd K mg "is_integer" "is_integer" s_is_integer ["value"] f_is_integer _ := ⟨F_is_integer, PySem.W.mg_of X G a_is_integer, b_is_integer⟩
  have F_is_between := fun_mk (st := s_is_between) l_is_between c_is_between k_is_between
  have b_is_between := F_is_between.binds (ps := ["value", "least", "greatest"]) fun _ _ _ _ _ _ us hl => match us, hl with | [_, _, _], _ => rfl
  have d_is_between : Fd K mg "is_between" "is_between" s_is_between ["value", "least", "greatest"] f_is_between _ := ⟨F_is_between, PySem.W.mg_of X G a_is_between, b_is_between⟩
  have F_is_value := fun_mk (st := s_is_value) l_is_value c_is_value k_is_value
  have b_is_value := F_is_value.binds (ps := ["thing"]) fun _ _ _ _ _ _ us hl => match us, hl with | [_], _ => rfl
  have d_is_value : Fd K mg "is_value" "is_value" s_is_value ["thing"] f_is_value _ := ⟨F_is_value, PySem.W.mg_of X G a_is_value, b_is_value⟩
  have F__is_entry := fun_mk (st := s__is_entry) l__is_entry c__is_entry k__is_entry
  have b__is_entry := F__is_entry.binds (ps := ["many", "thing"]) fun _ _ _ _ _ _ us hl => match us, hl with | [_, _], _ => rfl
  have d__is_entry : Fd K mg "_is_entry" "_is_entry" s__is_entry ["many", "thing"] f__is_entry _ := ⟨F__is_entry, PySem.W.mg_of X G a__is_entry, b__is_entry⟩
  have F__check_entries := fun_mk (st := s__check_entries) l__check_entries c__check_entries k__check_entries
  have b__check_entries := F__check_entries.binds (ps := ["many", "entries"]) fun _ _ _ _ _ _ us hl => match us, hl with | [_, _], _ => rfl
  have d__check_entries : Fd K mg "_check_entries" "_check_entries" s__check_entries ["many", "entries"] f__check_entries _ := ⟨F__check_entries, PySem.W.mg_of X G a__check_entries, b__check_entries⟩
  have F_check_summary := fun_mk (st := s_check_summary) l_check_summary c_check_summary k_check_summary
  have b_check_summary := F_check_summary.binds (ps := ["summary"]) fun _ _ _ _ _ _ us hl => match us, hl with | [_], _ => rfl
  have d_check_summary : Fd K mg "check_summary" "check_summary" s_check_summary ["summary"] f_check_summary _ := ⟨F_check_summary, PySem.W.mg_of X G a_check_summary, b_check_summary⟩
  have F__words := fun_mk (st := s__words) l__words c__words k__words
  have b__words := F__words.binds (ps := ["line"]) fun _ _ _ _ _ _ us hl => match us, hl with | [_], _ => rfl
  have d__words : Fd K mg "_words" "_words" s__words ["line"] f__words _ := ⟨F__words, PySem.W.mg_of X G a__words, b__words⟩
  have F__number := fun_mk (st := s__number) l__number c__number k__number
  have b__number := F__number.binds (ps := ["word"]) fun _ _ _ _ _ _ us hl => match us, hl with | [_], _ => rfl
  have d__number : Fd K mg "_number" "_number" s__number ["word"] f__number _ := ⟨F__number, PySem.W.mg_of X G a__number, b__number⟩
  have F__number_at := fun_mk (st := s__number_at) l__number_at c__number_at k__number_at
  have b__number_at := F__number_at.binds (ps := ["line", "words", "word", "least", "greatest"]) fun _ _ _ _ _ _ us hl => match us, hl with | [_, _, _, _, _], _ => rfl
  have d__number_at : Fd K mg "_number_at" "_number_at" s__number_at ["line", "words", "word", "least", "greatest"] f__number_at _ := ⟨F__number_at, PySem.W.mg_of X G a__number_at, b__number_at⟩
  have F__check_end := fun_mk (st := s__check_end) l__check_end c__check_end k__check_end
  have b__check_end := F__check_end.binds (ps := ["line", "words", "last"]) fun _ _ _ _ _ _ us hl => match us, hl with | [_, _, _], _ => rfl
  have d__check_end : Fd K mg "_check_end" "_check_end" s__check_end ["line", "words", "last"] f__check_end _ := ⟨F__check_end, PySem.W.mg_of X G a__check_end, b__check_end⟩
  have F__read_count := fun_mk (st := s__read_count) l__read_count c__read_count k__read_count
  have b__read_count := F__read_count.binds (ps := ["words"]) fun _ _ _ _ _ _ us hl => match us, hl with | [_], _ => rfl
  have d__read_count : Fd K mg "_read_count" "_read_count" s__read_count ["words"] f__read_count _ := ⟨F__read_count, PySem.W.mg_of X G a__read_count, b__read_count⟩
  have F__read_entry := fun_mk (st := s__read_entry) l__read_entry c__read_entry k__read_entry
  have b__read_entry := F__read_entry.binds (ps := ["line", "words", "least", "many"]) fun _ _ _ _ _ _ us hl => match us, hl with | [_, _, _, _], _ => rfl
  have d__read_entry : Fd K mg "_read_entry" "_read_entry" s__read_entry ["line", "words", "least", "many"] f__read_entry _ := ⟨F__read_entry, PySem.W.mg_of X G a__read_entry, b__read_entry⟩
  have F_write_summary := fun_mk (st := s_write_summary) l_write_summary c_write_summary k_write_summary
  have b_write_summary := F_write_summary.binds (ps := ["summary"]) fun _ _ _ _ _ _ us hl => match us, hl with | [_], _ => rfl
  have d_write_summary : Fd K mg "write_summary" "write_summary" s_write_summary ["summary"] f_write_summary _ := ⟨F_write_summary, PySem.W.mg_of X G a_write_summary, b_write_summary⟩
  have F_read_summary := fun_mk (st := s_read_summary) l_read_summary c_read_summary k_read_summary
  have b_read_summary := F_read_summary.binds (ps := ["text"]) fun _ _ _ _ _ _ us hl => match us, hl with | [_], _ => rfl
  have d_read_summary : Fd K mg "read_summary" "read_summary" s_read_summary ["text"] f_read_summary _ := ⟨F_read_summary, PySem.W.mg_of X G a_read_summary, b_read_summary⟩
  have F__law_mix := fun_mk (st := s__law_mix) l__law_mix c__law_mix k__law_mix
  have b__law_mix := F__law_mix.binds (ps := ["_law_script", "_law_seed"]) fun _ _ _ _ _ _ us hl => match us, hl with | [_, _], _ => rfl
  have d__law_mix : Fd K mg "_law_mix" "_law_mix" s__law_mix ["_law_script", "_law_seed"] f__law_mix _ := ⟨F__law_mix, PySem.W.mg_of X G a__law_mix, b__law_mix⟩
  have F__law_next := fun_mk (st := s__law_next) l__law_next c__law_next k__law_next
  have b__law_next := F__law_next.binds (ps := ["_law_h", "_law_bound"]) fun _ _ _ _ _ _ us hl => match us, hl with | [_, _], _ => rfl
  have d__law_next : Fd K mg "_law_next" "_law_next" s__law_next ["_law_h", "_law_bound"] f__law_next _ := ⟨F__law_next, PySem.W.mg_of X G a__law_next, b__law_next⟩
  have F__law_small := fun_mk (st := s__law_small) l__law_small c__law_small k__law_small
  have b__law_small := F__law_small.binds (ps := ["_law_h", "_law_most", "_law_far"]) fun _ _ _ _ _ _ us hl => match us, hl with | [_, _, _], _ => rfl
  have d__law_small : Fd K mg "_law_small" "_law_small" s__law_small ["_law_h", "_law_most", "_law_far"] f__law_small _ := ⟨F__law_small, PySem.W.mg_of X G a__law_small, b__law_small⟩
  have F__law_great := fun_mk (st := s__law_great) l__law_great c__law_great k__law_great
  have b__law_great := F__law_great.binds (ps := ["_law_h"]) fun _ _ _ _ _ _ us hl => match us, hl with | [_], _ => rfl
  have d__law_great : Fd K mg "_law_great" "_law_great" s__law_great ["_law_h"] f__law_great _ := ⟨F__law_great, PySem.W.mg_of X G a__law_great, b__law_great⟩
  have F__law_entry_fault := fun_mk (st := s__law_entry_fault) l__law_entry_fault c__law_entry_fault k__law_entry_fault
  have b__law_entry_fault := F__law_entry_fault.binds (ps := ["_law_h", "_law_k", "_law_many", "_law_entries"]) fun _ _ _ _ _ _ us hl => match us, hl with | [_, _, _, _], _ => rfl
  have d__law_entry_fault : Fd K mg "_law_entry_fault" "_law_entry_fault" s__law_entry_fault ["_law_h", "_law_k", "_law_many", "_law_entries"] f__law_entry_fault _ := ⟨F__law_entry_fault, PySem.W.mg_of X G a__law_entry_fault, b__law_entry_fault⟩
  have F__law_fault := fun_mk (st := s__law_fault) l__law_fault c__law_fault k__law_fault
  have b__law_fault := F__law_fault.binds (ps := ["_law_h", "_law_rows", "_law_many", "_law_entries"]) fun _ _ _ _ _ _ us hl => match us, hl with | [_, _, _, _], _ => rfl
  have d__law_fault : Fd K mg "_law_fault" "_law_fault" s__law_fault ["_law_h", "_law_rows", "_law_many", "_law_entries"] f__law_fault _ := ⟨F__law_fault, PySem.W.mg_of X G a__law_fault, b__law_fault⟩
  have F_law := fun_mk (st := s_law) l_law c_law k_law
  have b_law := F_law.binds (ps := ["_law_script"]) fun _ _ _ _ _ _ us hl => match us, hl with | [_], _ => rfl
  refine ⟨PySem.W.fnOf "law" "law" (defArgs s_law) (defBody s_law) (defScope s_law) .none kV_law dc_law pm_law an_law cd_law ct_law, fun s v => .of_eq rfl, fun base _ _ => ?_⟩
  have D_is_integer := d_is_integer.dn (ok_is_integer (P := l.prog) (w := w) (base := base) d_is_integer.F m_isinstance m_int m_bool)
  have D_is_between := d_is_between.dn (ok_is_between (P := l.prog) (w := w) (base := base) d_is_between.F D_is_integer)
  have D_is_value := d_is_value.dn (ok_is_value (P := l.prog) (w := w) (base := base) d_is_value.F D_is_between m_GREATEST_VALUE)
  have D__is_entry := d__is_entry.dn (ok__is_entry (P := l.prog) (w := w) (base := base) d__is_entry.F D_is_between D_is_value m_isinstance m_tuple m_len)
  have D__check_entries := d__check_entries.dn (ok__check_entries (P := l.prog) (w := w) (base := base) d__check_entries.F D__is_entry m_isinstance m_tuple m_len m_enumerate m_GREATEST_VALUE m_MOST_ENTRIES)
  have DS : DnMk l.prog w K mg base C := ⟨f_Sinit, _, ⟨mk, a_Sinit, i_Sinit, kc⟩, ok_Summary_init F_Sinit T D_is_between D__check_entries m_GREATEST_COUNT, b_Sinit⟩
  have DM : Pr l.prog w K mg base C "many" 1 (getSp C "_many") := ⟨p_Smany, f_Smany, _, ⟨a_Smany, q_Smany, t_Smany, _, r_Smany⟩, ok_Summary_many F_Smany T, b_Smany⟩
  have DE : Pr l.prog w K mg base C "entries" 1 (getSp C "_entries") := ⟨p_Sentries, f_Sentries, _, ⟨a_Sentries, q_Sentries, t_Sentries, _, r_Sentries⟩, ok_Summary_entries F_Sentries T, b_Sentries⟩
  have DQ : DEq l.prog w K mg base C := ⟨f_Seq, _, ok_Summary_eq F_Seq T m_isinstance, a_Seq, i_Seq, b_Seq⟩
  have D_check_summary := d_check_summary.dn (ok_check_summary (P := l.prog) (w := w) (base := base) d_check_summary.F T m_isinstance)
  have X_InvalidText : FxT l.prog w K mg base "InvalidText" C_InvalidText ["self", "line", "word"] (spI2 C_InvalidText "line" "word") := ⟨OX_InvalidText, XX_InvalidText, PySem.W.mg_of X G g_InvalidText, f_XInvalidText, _, n_InvalidText, tf_InvalidText, ok_InvalidText_init F_XInvalidText OX_InvalidText nf_InvalidText_line nf_InvalidText_word, b_XInvalidText⟩
  have D__words := d__words.dn (ok__words (P := l.prog) (w := w) (base := base) d__words.F )
  have D__number := d__number.dn (ok__number (P := l.prog) (w := w) (base := base) d__number.F m_len m_MOST_DIGITS m_int m_str)
  have D__number_at := d__number_at.dnx (ok__number_at (P := l.prog) (w := w) (base := base) d__number_at.F m_len D__number X_InvalidText)
  have D__check_end := d__check_end.dnx (ok__check_end (P := l.prog) (w := w) (base := base) d__check_end.F m_len X_InvalidText)
  have D__read_count := d__read_count.dnx (ok__read_count (P := l.prog) (w := w) (base := base) d__read_count.F X_InvalidText D__number_at m_GREATEST_COUNT D__check_end)
  have D__read_entry := d__read_entry.dnx (ok__read_entry (P := l.prog) (w := w) (base := base) d__read_entry.F D__number_at m_GREATEST_VALUE D__check_end)
  have D_write_summary := d_write_summary.dn (ok_write_summary (P := l.prog) (w := w) (base := base) d_write_summary.F D_check_summary T DM DE)
  have D_read_summary := d_read_summary.dnx (ok_read_summary (P := l.prog) (w := w) (base := base) d_read_summary.F D__read_count D__words m_GREATEST_VALUE m_enumerate m_len m_MOST_ENTRIES X_InvalidText D__read_entry T DS m_tuple)
  have D__law_mix := d__law_mix.dn (ok__law_mix (P := l.prog) (w := w) (base := base) d__law_mix.F m_int m_list)
  have D__law_next := d__law_next.dn (ok__law_next (P := l.prog) (w := w) (base := base) d__law_next.F m_int m_max m_len)
  have D__law_small := d__law_small.dn (ok__law_smallV (P := l.prog) (w := w) (base := base) d__law_small.F D__law_next m_sorted m_range m_max m_min m_len m_tuple)
  have D__law_great := d__law_great.dn (ok__law_great (P := l.prog) (w := w) (base := base) d__law_great.F D__law_next m_range m_min m_tuple)
  have D__law_entry_fault := d__law_entry_fault.dn (ok__law_entry_fault (P := l.prog) (w := w) (base := base) d__law_entry_fault.F m_str D__law_next m_len)
  have D__law_fault := d__law_fault.dn (ok__law_fault (P := l.prog) (w := w) (base := base) d__law_fault.F D__law_next m_str m_len m_max D__law_entry_fault)
  exact ok_law F_law D__law_mix D__law_next D__law_great D__law_small D_write_summary T DS D__law_fault mgC_InvalidText D_read_summary m_isinstance mgC_RankError XX_InvalidText nf_InvalidText_word nf_InvalidText_line DQ ex_InvalidText XC_InvalidText kit_InvalidText_RankError
end SR
open PySem PySem.W PyProof.Rows
set_option maxRecDepth 100000 in
set_option maxHeartbeats 0 in
theorem PySem.Challenge.cw_shortranks_k09_whole_texts_refused_holds : PySem.Challenge.rw_shortranks_k09_whole_texts_refused.Holds := by
  w_on; o_law; k_head; (case hw => w_witness2)
  k_fill
  refine L2.walk_of (l := PySem.Challenge.rw_shortranks_k09_whole_texts_refused) (n := 63) (k := 9) (x := "_law_script") (CX := fun _ => L2.CX0) (sp := fun w => SR.spLaw _) rfl (by decide) rfl ⟨rfl, by decide, by decide⟩ (fun w h Y => PySem.W.kIn_of Y) ?F (fun _ _ a ns hl _ hS => ⟨a, ns, rfl, hS, hl, fun _ => rfl⟩) (fun _ _ _ _ _ h => h)
  case F =>
    intro w mg fa h KX G hmg
    refine' SR.all_mk KX G hmg ?z_isinstance ?z_int ?z_bool ?z_tuple ?z_len ?z_enumerate ?z_max ?z_min ?z_reversed ?z_zip ?z_list ?z_sorted ?z_range ?z_str ?g_GREATEST_COUNT ?e_GREATEST_COUNT ?g_GREATEST_VALUE ?e_GREATEST_VALUE ?g_MOST_ENTRIES ?e_MOST_ENTRIES ?g_MOST_DIGITS ?e_MOST_DIGITS ?aC ?a_Sinit ?i_Sinit ?l_Sinit ?c_Sinit ?k_Sinit ?a_Smany ?q_Smany ?t_Smany ?r_Smany ?l_Smany ?c_Smany ?k_Smany ?a_Sentries ?q_Sentries ?t_Sentries ?r_Sentries ?l_Sentries ?c_Sentries ?k_Sentries ?a_Slen ?i_Slen ?l_Slen ?c_Slen ?k_Slen ?a_Seq ?i_Seq ?l_Seq ?c_Seq ?k_Seq ?pg ?hd ?po ?sa ?mk ?kc ?ha ?hn ?htk ?hm ?nM ?nE ?ic ?ty ?st ?nf1 ?nf2 ?g_InvalidText ?n_InvalidText ?tf_InvalidText ?l_XInvalidText ?c_XInvalidText ?k_XInvalidText ?o_InvalidText ?kp_InvalidText ?sb_InvalidText ?ty_InvalidText ?ic_InvalidText ?ss_InvalidText ?sa_InvalidText ?xa_InvalidText ?xg_InvalidText ?xd_InvalidText ?nf_InvalidText_line ?nf_InvalidText_word ?xk_InvalidText ?xo_InvalidText ?g_RankError ?sb_RankError ?ty_RankError ?ic_RankError ?s_InvalidText_RankError ?a_is_integer ?l_is_integer ?c_is_integer ?k_is_integer ?a_is_between ?l_is_between ?c_is_between ?k_is_between ?a_is_value ?l_is_value ?c_is_value ?k_is_value ?a__is_entry ?l__is_entry ?c__is_entry ?k__is_entry ?a__check_entries ?l__check_entries ?c__check_entries ?k__check_entries ?a_check_summary ?l_check_summary ?c_check_summary ?k_check_summary ?a__words ?l__words ?c__words ?k__words ?a__number ?l__number ?c__number ?k__number ?a__number_at ?l__number_at ?c__number_at ?k__number_at ?a__check_end ?l__check_end ?c__check_end ?k__check_end ?a__read_count ?l__read_count ?c__read_count ?k__read_count ?a__read_entry ?l__read_entry ?c__read_entry ?k__read_entry ?a_write_summary ?l_write_summary ?c_write_summary ?k_write_summary ?a_read_summary ?l_read_summary ?c_read_summary ?k_read_summary ?a__law_mix ?l__law_mix ?c__law_mix ?k__law_mix ?a__law_next ?l__law_next ?c__law_next ?k__law_next ?a__law_small ?l__law_small ?c__law_small ?k__law_small ?a__law_great ?l__law_great ?c__law_great ?k__law_great ?a__law_entry_fault ?l__law_entry_fault ?c__law_entry_fault ?k__law_entry_fault ?a__law_fault ?l__law_fault ?c__law_fault ?k__law_fault ?a_law ?l_law ?c_law ?k_law
    (case z_isinstance => k_is)
    (case z_int => k_is)
    (case z_bool => k_is)
    (case z_tuple => k_is)
    (case z_len => k_is)
    (case z_enumerate => k_is)
    (case z_max => k_is)
    (case z_min => k_is)
    (case z_reversed => k_is)
    (case z_zip => k_is)
    (case z_list => k_is)
    (case z_sorted => k_is)
    (case z_range => k_is)
    (case z_str => k_is)
    (case g_GREATEST_COUNT => k_is)
    (case e_GREATEST_COUNT => first | rfl | decide)
    (case g_GREATEST_VALUE => k_is)
    (case e_GREATEST_VALUE => first | rfl | decide)
    (case g_MOST_ENTRIES => k_is)
    (case e_MOST_ENTRIES => first | rfl | decide)
    (case g_MOST_DIGITS => k_is)
    (case e_MOST_DIGITS => first | rfl | decide)
    (case aC => k_is)
    (case a_Sinit => k_is)
    (case i_Sinit => k_is)
    (case l_Sinit => k_is)
    (case c_Sinit => k_is)
    (case k_Sinit => k_is)
    (case a_Smany => k_is)
    (case q_Smany => k_is)
    (case t_Smany => k_is)
    (case r_Smany => k_is)
    (case l_Smany => k_is)
    (case c_Smany => k_is)
    (case k_Smany => k_is)
    (case a_Sentries => k_is)
    (case q_Sentries => k_is)
    (case t_Sentries => k_is)
    (case r_Sentries => k_is)
    (case l_Sentries => k_is)
    (case c_Sentries => k_is)
    (case k_Sentries => k_is)
    (case a_Slen => k_is)
    (case i_Slen => k_is)
    (case l_Slen => k_is)
    (case c_Slen => k_is)
    (case k_Slen => k_is)
    (case a_Seq => k_is)
    (case i_Seq => k_is)
    (case l_Seq => k_is)
    (case c_Seq => k_is)
    (case k_Seq => k_is)
    (case pg => k_is)
    (case hd => k_is)
    (case po => k_is)
    (case sa => k_is)
    (case mk => k_is)
    (case kc => k_is)
    (case ha => k_is)
    (case hn => k_is)
    (case htk => k_is)
    (case hm => k_is)
    (case nM => k_is)
    (case nE => k_is)
    (case ic => k_is)
    (case ty => k_is)
    (case st => k_is)
    (case nf1 => k_is)
    (case nf2 => k_is)
    (case g_InvalidText => k_is)
    (case n_InvalidText => k_is)
    (case tf_InvalidText => k_is)
    (case l_XInvalidText => k_is)
    (case c_XInvalidText => k_is)
    (case k_XInvalidText => k_is)
    (case o_InvalidText => k_is)
    (case kp_InvalidText => k_is)
    (case sb_InvalidText => k_is)
    (case ty_InvalidText => k_is)
    (case ic_InvalidText => k_is)
    (case ss_InvalidText => first | rfl | k_is)
    (case sa_InvalidText => k_is)
    (case xa_InvalidText => k_is)
    (case xg_InvalidText => k_is)
    (case xd_InvalidText => k_is)
    (case nf_InvalidText_line => k_is)
    (case nf_InvalidText_word => k_is)
    (case xk_InvalidText => k_is)
    (case xo_InvalidText => k_is)
    (case g_RankError => k_is)
    (case sb_RankError => k_is)
    (case ty_RankError => k_is)
    (case ic_RankError => k_is)
    (case s_InvalidText_RankError => k_is)
    (case a_is_integer => k_is)
    (case l_is_integer => k_is)
    (case c_is_integer => k_is)
    (case k_is_integer => k_is)
    (case a_is_between => k_is)
    (case l_is_between => k_is)
    (case c_is_between => k_is)
    (case k_is_between => k_is)
    (case a_is_value => k_is)
    (case l_is_value => k_is)
    (case c_is_value => k_is)
    (case k_is_value => k_is)
    (case a__is_entry => k_is)
    (case l__is_entry => k_is)
    (case c__is_entry => k_is)
    (case k__is_entry => k_is)
    (case a__check_entries => k_is)
    (case l__check_entries => k_is)
    (case c__check_entries => k_is)
    (case k__check_entries => k_is)
    (case a_check_summary => k_is)
    (case l_check_summary => k_is)
    (case c_check_summary => k_is)
    (case k_check_summary => k_is)
    (case a__words => k_is)
    (case l__words => k_is)
    (case c__words => k_is)
    (case k__words => k_is)
    (case a__number => k_is)
    (case l__number => k_is)
    (case c__number => k_is)
    (case k__number => k_is)
    (case a__number_at => k_is)
    (case l__number_at => k_is)
    (case c__number_at => k_is)
    (case k__number_at => k_is)
    (case a__check_end => k_is)
    (case l__check_end => k_is)
    (case c__check_end => k_is)
    (case k__check_end => k_is)
    (case a__read_count => k_is)
    (case l__read_count => k_is)
    (case c__read_count => k_is)
    (case k__read_count => k_is)
    (case a__read_entry => k_is)
    (case l__read_entry => k_is)
    (case c__read_entry => k_is)
    (case k__read_entry => k_is)
    (case a_write_summary => k_is)
    (case l_write_summary => k_is)
    (case c_write_summary => k_is)
    (case k_write_summary => k_is)
    (case a_read_summary => k_is)
    (case l_read_summary => k_is)
    (case c_read_summary => k_is)
    (case k_read_summary => k_is)
    (case a__law_mix => k_is)
    (case l__law_mix => k_is)
    (case c__law_mix => k_is)
    (case k__law_mix => k_is)
    (case a__law_next => k_is)
    (case l__law_next => k_is)
    (case c__law_next => k_is)
    (case k__law_next => k_is)
    (case a__law_small => k_is)
    (case l__law_small => k_is)
    (case c__law_small => k_is)
    (case k__law_small => k_is)
    (case a__law_great => k_is)
    (case l__law_great => k_is)
    (case c__law_great => k_is)
    (case k__law_great => k_is)
    (case a__law_entry_fault => k_is)
    (case l__law_entry_fault => k_is)
    (case c__law_entry_fault => k_is)
    (case k__law_entry_fault => k_is)
    (case a__law_fault => k_is)
    (case l__law_fault => k_is)
    (case c__law_fault => k_is)
    (case k__law_fault => k_is)
    (case a_law => k_is)
    (case l_law => k_is)
    (case c_law => k_is)
    (case k_law => k_is)
