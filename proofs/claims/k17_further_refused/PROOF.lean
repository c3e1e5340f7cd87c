import PyProof.Rows.All
import Wide.All
import OpenK.AllK
import Wide.FinOn
import HandS.ForMost
import HandS.Wide
import HandS.IsInst
import HandS.Property
import HandS.Style
import HandS.TupAny
import HandS.Rev
import HandS.NoneIn
import HandS.SortInts
import HandS.Conv
import HandS.Zip
import KE.GoesEnum
import KE.GoesZip
import HandS.ExcCtx
import HandS.ExcInit
import HandS.WordsExc
import HandS.ForExc
import HandS.TryMany
import HandS.SortKw
import HandS.Sort
import HandS.DictComp
import PySem.Challenge.RW_shortranks_k17_further_questions_refused
import HandS.SetBool
import HandS.Strs
import HandS.Iter
import HandS.Dict
import HandS.DictSubView
import KE.KDictPairs
import KE.KMathGC
import HandS.Gcd
import KE.KDictZip
import HandS.SetKeys
import HandS.HotCalls
import HandS.Comp
import PyProof.WalksMore
import PyProof.WalkInts
import PyProof.TupleIter
import HandS.ExcField
import KE.KExcIs
import HandS.ExcIs
import HandS.TupMul
/-! Plain mathematics of summaries: no Python here. Entries (value, low, high); lows from the left, highs from the right; ways. -/
namespace SR
abbrev Ent := Int × Int × Int
def lo (es : List Ent) (j : Nat) : Int := (es.getD j (0, 0, 0)).2.1
def hi (es : List Ent) (j : Nat) : Int := (es.getD j (0, 0, 0)).2.2
def vl (es : List Ent) (j : Nat) : Int := (es.getD j (0, 0, 0)).1
theorem getD_of {es : List Ent} {j : Nat} {e : Ent} (h : es[j]? = some e) : es.getD j (0, 0, 0) = e := by
  rw [List.getD_eq_getElem?_getD, h] <;> rfl
theorem lo_of {es : List Ent} {j : Nat} {e : Ent} (h : es[j]? = some e) : lo es j = e.2.1 := by unfold lo; rw [getD_of h]
theorem hi_of {es : List Ent} {j : Nat} {e : Ent} (h : es[j]? = some e) : hi es j = e.2.2 := by unfold hi; rw [getD_of h]
theorem vl_of {es : List Ent} {j : Nat} {e : Ent} (h : es[j]? = some e) : vl es j = e.1 := by unfold vl; rw [getD_of h]
theorem ent_at {es : List Ent} {j : Nat} (h : j < es.length) : es[j]? = some (vl es j, lo es j, hi es j) := by
  rw [List.getElem?_eq_getElem h]
  have e : es[j]? = some es[j] := List.getElem?_eq_getElem h
  rw [vl_of e, lo_of e, hi_of e]
/-- the greatest low of the first i entries, ranks rising: 0 for none -/
def lowS (es : List Ent) : Nat → Int
  | 0 => 0
  | i + 1 => max (lo es i) (lowS es i + 1)
/-- the least high of the last i entries, ranks rising: n + 1 for none -/
def hiS (n : Int) (es : List Ent) : Nat → Int
  | 0 => n + 1
  | i + 1 => min (hi es (es.length - 1 - i)) (hiS n es i - 1)
/-- low and high of entry j, tightened -/
def tlo (es : List Ent) (j : Nat) : Int := lowS es (j + 1)
def thi (n : Int) (es : List Ent) (j : Nat) : Int := hiS n es (es.length - j)
def tightL (n : Int) (es : List Ent) : List Ent := (List.range es.length).map fun j => (vl es j, tlo es j, thi n es j)
def Fits (n : Int) (es : List Ent) : Prop := ∀ j, j < es.length → tlo es j ≤ thi n es j
theorem max_if (a b : Int) : (if b > a then b else a) = max a b := by
  by_cases h : b > a
  · rw [if_pos h]; omega
  · rw [if_neg h]; omega
theorem min_if (a b : Int) : (if b < a then b else a) = min a b := by
  by_cases h : b < a
  · rw [if_pos h]; omega
  · rw [if_neg h]; omega
theorem tlo_zero (es : List Ent) : tlo es 0 = max (lo es 0) 1 := rfl
theorem tlo_succ (es : List Ent) (j : Nat) : tlo es (j + 1) = max (lo es (j + 1)) (tlo es j + 1) := rfl
theorem thi_last {n : Int} {es : List Ent} (h : 0 < es.length) : thi n es (es.length - 1) = min (hi es (es.length - 1)) n := by
  unfold thi
  rw [show es.length - (es.length - 1) = 0 + 1 by omega]
  show min (hi es (es.length - 1 - 0)) (n + 1 - 1) = _
  rw [Nat.sub_zero]
  omega
theorem thi_step {n : Int} {es : List Ent} {j : Nat} (h : j + 1 < es.length) : thi n es j = min (hi es j) (thi n es (j + 1) - 1) := by
  unfold thi
  rw [show es.length - j = (es.length - (j + 1)) + 1 by omega]
  show min (hi es (es.length - 1 - (es.length - (j + 1)))) (hiS n es (es.length - (j + 1)) - 1) = _
  rw [show es.length - 1 - (es.length - (j + 1)) = j by omega]
theorem tlo_lo (es : List Ent) (j : Nat) : lo es j ≤ tlo es j := by
  unfold tlo
  show lo es j ≤ max (lo es j) (lowS es j + 1)
  omega
theorem tlo_rise (es : List Ent) (j : Nat) : tlo es j + 1 ≤ tlo es (j + 1) := by rw [tlo_succ]; omega
theorem tlo_pos (es : List Ent) : ∀ j, 1 ≤ tlo es j
  | 0 => by rw [tlo_zero]; omega
  | j + 1 => by have := tlo_pos es j; rw [tlo_succ]; omega
theorem thi_hi {n : Int} {es : List Ent} {j : Nat} (h : j < es.length) : thi n es j ≤ hi es j := by
  by_cases h1 : j + 1 < es.length
  · rw [thi_step h1]; omega
  · have e : j = es.length - 1 := by omega
    subst e
    rw [thi_last (by omega)]; omega
theorem thi_rise {n : Int} {es : List Ent} {j : Nat} (h : j + 1 < es.length) : thi n es j + 1 ≤ thi n es (j + 1) := by rw [thi_step h]; omega
theorem hiS_le (n : Int) (es : List Ent) : ∀ i, hiS n es i ≤ n + 1
  | 0 => by show n + 1 ≤ n + 1; omega
  | i + 1 => by have := hiS_le n es i; show min _ _ ≤ _; omega
theorem thi_le {n : Int} {es : List Ent} {j : Nat} (h : j < es.length) : thi n es j ≤ n := by
  unfold thi
  rw [show es.length - j = (es.length - (j + 1)) + 1 by omega]
  have := hiS_le n es (es.length - (j + 1))
  show min _ _ ≤ _
  omega
theorem tight_len (n : Int) (es : List Ent) : (tightL n es).length = es.length := by unfold tightL; rw [List.length_map, List.length_range]
theorem tight_at {n : Int} {es : List Ent} {j : Nat} (h : j < es.length) : (tightL n es)[j]? = some (vl es j, tlo es j, thi n es j) := by
  unfold tightL
  rw [List.getElem?_map, List.getElem?_range h] <;> rfl
/-- what a Summary holds -/
structure Valid (n : Int) (es : List Ent) : Prop where
  n1 : 1 ≤ n
  n2 : n ≤ 10 ^ 30
  len : es.length ≤ 12
  ent : ∀ j, j < es.length → -10 ^ 30 ≤ vl es j ∧ vl es j ≤ 10 ^ 30 ∧ 1 ≤ lo es j ∧ lo es j ≤ hi es j ∧ hi es j ≤ n
  asc : ∀ j, j + 1 < es.length → vl es j ≤ vl es (j + 1)
theorem Valid.tight {n : Int} {es : List Ent} (v : Valid n es) (f : Fits n es) : Valid n (tightL n es) where
  n1 := v.n1
  n2 := v.n2
  len := by rw [tight_len]; exact v.len
  ent := fun j hj => by
    rw [tight_len] at hj
    have e := tight_at (n := n) hj
    rw [vl_of e, lo_of e, hi_of e]
    obtain ⟨a, b, _⟩ := v.ent j hj
    exact ⟨a, b, tlo_pos es j, f j hj, thi_le hj⟩
  asc := fun j hj => by
    rw [tight_len] at hj
    rw [vl_of (tight_at (n := n) hj), vl_of (tight_at (n := n) (show j < es.length by omega))]
    exact v.asc j hj
/-! ways -/
def extRow (row : List Int) (a b : Int) : List (List Int) :=
  (((List.range (b + 1 - a).toNat).map fun (i : Nat) => a + (i : Int)).filter fun r => row.isEmpty || decide (r > row.getLastD 0)).map fun r => row ++ [r]
def ways (es : List Ent) : Nat → List (List Int)
  | 0 => [[]]
  | i + 1 => (ways es i).flatMap fun row => extRow row (lo es i) (hi es i)
theorem mem_extRow {row w : List Int} {a b : Int} : w ∈ extRow row a b ↔ ∃ r, a ≤ r ∧ r ≤ b ∧ (row = [] ∨ row.getLastD 0 < r) ∧ w = row ++ [r] := by
  unfold extRow
  rw [List.mem_map]
  constructor
  · rintro ⟨r, hr, e⟩
    rw [List.mem_filter, List.mem_map] at hr
    obtain ⟨⟨i, hi, e2⟩, hp⟩ := hr
    rw [List.mem_range] at hi
    refine ⟨r, by omega, by omega, ?_, e.symm⟩
    rw [Bool.or_eq_true] at hp
    rcases hp with hp | hp
    · exact .inl (List.isEmpty_iff.mp hp)
    · exact .inr (of_decide_eq_true hp)
  · rintro ⟨r, h1, h2, h3, e⟩
    refine ⟨r, ?_, e.symm⟩
    rw [List.mem_filter, List.mem_map]
    refine ⟨⟨(r - a).toNat, ?_, ?_⟩, ?_⟩
    · rw [List.mem_range]; omega
    · omega
    · rw [Bool.or_eq_true]
      rcases h3 with h3 | h3
      · exact .inl (List.isEmpty_iff.mpr h3)
      · exact .inr (decide_eq_true h3)
theorem extRow_len (row : List Int) (a b : Int) : (extRow row a b).length ≤ (b + 1 - a).toNat := by
  unfold extRow
  rw [List.length_map]
  exact Nat.le_trans (List.length_filter_le _ _) (by rw [List.length_map, List.length_range]; exact Nat.le_refl _)
theorem flatMap_len {α β : Type} (f : α → List β) (k : Nat) : ∀ l : List α, (∀ x ∈ l, (f x).length ≤ k) → (l.flatMap f).length ≤ l.length * k
  | [], _ => by simp
  | x :: l, h => by
    rw [List.flatMap_cons, List.length_append, List.length_cons, Nat.add_mul]
    have h1 := h x (List.mem_cons_self ..)
    have h2 := flatMap_len f k l fun y hy => h y (List.mem_cons_of_mem _ hy)
    omega
/-- what each way keeps -/
structure IsWay (es : List Ent) (i : Nat) (w : List Int) : Prop where
  len : w.length = i
  ok : ∀ j, j < i → lo es j ≤ w.getD j 0 ∧ w.getD j 0 ≤ hi es j
  up : ∀ j, j + 1 < i → w.getD j 0 < w.getD (j + 1) 0
theorem getD_app_lt {w : List Int} {r : Int} {j : Nat} (h : j < w.length) : (w ++ [r]).getD j 0 = w.getD j 0 := by
  rw [List.getD_eq_getElem?_getD, List.getD_eq_getElem?_getD, List.getElem?_append_left h]
theorem getD_app_eq {w : List Int} {r : Int} {j : Nat} (h : j = w.length) : (w ++ [r]).getD j 0 = r := by
  subst h
  rw [List.getD_eq_getElem?_getD, List.getElem?_append_right (Nat.le_refl _)]
  simp
theorem last_getD {w : List Int} {i : Nat} (h : w.length = i + 1) : w.getLastD 0 = w.getD i 0 := by
  rw [List.getLastD_eq_getLast?, List.getLast?_eq_getElem?, h, List.getD_eq_getElem?_getD]
  rfl
theorem ways_is {es : List Ent} : ∀ i w, w ∈ ways es i → IsWay es i w
  | 0, w, h => by
    have e : w = [] := by simpa [ways] using h
    subst e
    exact ⟨rfl, fun j hj => absurd hj (Nat.not_lt_zero j), fun j hj => absurd hj (Nat.not_lt_zero _)⟩
  | i + 1, w, h => by
    have h' : w ∈ (ways es i).flatMap fun row => extRow row (lo es i) (hi es i) := h
    rw [List.mem_flatMap] at h'
    obtain ⟨row, hr, hw⟩ := h'
    obtain ⟨r, h1, h2, h3, e⟩ := mem_extRow.mp hw
    have I := ways_is i row hr
    subst e
    refine ⟨by rw [List.length_append, I.len]; rfl, fun j hj => ?_, fun j hj => ?_⟩
    · by_cases hji : j < i
      · rw [getD_app_lt (by rw [I.len]; exact hji)]; exact I.ok j hji
      · have ej : j = i := by omega
        subst ej
        rw [getD_app_eq I.len.symm]; exact ⟨h1, h2⟩
    · by_cases hji : j + 1 < i
      · rw [getD_app_lt (show j < row.length by rw [I.len]; omega), getD_app_lt (show j + 1 < row.length by rw [I.len]; omega)]; exact I.up j hji
      · have ej : i = j + 1 := by omega
        subst ej
        rw [getD_app_eq (show j + 1 = row.length from I.len.symm), getD_app_lt (by rw [I.len]; omega)]
        rcases h3 with h3 | h3
        · subst h3; have := I.len; simp at this
        · rw [last_getD I.len] at h3; exact h3
theorem way_low {es : List Ent} {i : Nat} {w : List Int} (I : IsWay es i w) (h1 : ∀ j, j < i → 1 ≤ lo es j) : ∀ j, j < i → tlo es j ≤ w.getD j 0
  | 0, hj => by have := I.ok 0 hj; have := h1 0 hj; rw [tlo_zero]; omega
  | j + 1, hj => by
    have a := way_low I h1 j (by omega)
    have b := I.up j hj
    have c := I.ok (j + 1) hj
    rw [tlo_succ]; omega
theorem way_high {n : Int} {es : List Ent} {w : List Int} (I : IsWay es es.length w) (hn : ∀ j, j < es.length → hi es j ≤ n) : ∀ i j, j < es.length → es.length - 1 - j = i → w.getD j 0 ≤ thi n es j
  | 0, j, hj, e => by
    have ej : j = es.length - 1 := by omega
    have := I.ok j hj
    have := hn j hj
    subst ej
    rw [thi_last (by omega)]; omega
  | i + 1, j, hj, e => by
    have a := way_high I hn i (j + 1) (by omega) (by omega)
    have b := I.up j (by omega)
    have c := I.ok j hj
    rw [thi_step (by omega)]; omega
theorem mem_of_way {es : List Ent} (f : Nat → Int) (h1 : ∀ j, j < es.length → lo es j ≤ f j ∧ f j ≤ hi es j) (h2 : ∀ j, j + 1 < es.length → f j < f (j + 1)) : ∀ i, i ≤ es.length → (List.range i).map f ∈ ways es i
  | 0, _ => by simp [ways]
  | i + 1, hi' => by
    have ih := mem_of_way f h1 h2 i (by omega)
    show _ ∈ (ways es i).flatMap fun row => extRow row (lo es i) (hi es i)
    rw [List.mem_flatMap]
    refine ⟨_, ih, mem_extRow.mpr ⟨f i, (h1 i (by omega)).1, (h1 i (by omega)).2, ?_, by rw [List.range_succ, List.map_append]; rfl⟩⟩
    cases i with
    | zero => exact .inl rfl
    | succ i =>
      refine .inr ?_
      rw [last_getD (i := i) (by rw [List.length_map, List.length_range])]
      have e : ((List.range (i + 1)).map f).getD i 0 = f i := by
        rw [List.getD_eq_getElem?_getD, List.getElem?_map, List.getElem?_range (by omega)]; rfl
      rw [e]
      exact h2 i (by omega)
section
variable {n : Int} {es : List Ent}
theorem low_way (f : Fits n es) : (List.range es.length).map (tlo es) ∈ ways es es.length :=
  mem_of_way (tlo es) (fun j hj => ⟨tlo_lo es j, Int.le_trans (f j hj) (thi_hi hj)⟩) (fun j hj => by have := tlo_rise es j; omega) _ (Nat.le_refl _)
theorem high_way (f : Fits n es) : (List.range es.length).map (thi n es) ∈ ways es es.length :=
  mem_of_way (thi n es) (fun j hj => ⟨Int.le_trans (tlo_lo es j) (f j hj), thi_hi hj⟩) (fun j hj => by have := thi_rise (n := n) hj; omega) _ (Nat.le_refl _)
theorem way_between (v : Valid n es) {w : List Int} (h : w ∈ ways es es.length) {j : Nat} (hj : j < es.length) : tlo es j ≤ w.getD j 0 ∧ w.getD j 0 ≤ thi n es j :=
  ⟨way_low (ways_is _ _ h) (fun j hj => (v.ent j hj).2.2.1) j hj, way_high (ways_is _ _ h) (fun j hj => (v.ent j hj).2.2.2.2) _ j hj rfl⟩
theorem no_way (v : Valid n es) (f : ¬ Fits n es) : ways es es.length = [] := by
  cases e : ways es es.length with
  | nil => rfl
  | cons w r =>
    refine absurd (fun j hj => ?_) f
    have hw : w ∈ ways es es.length := by rw [e]; exact List.mem_cons_self ..
    have := way_between v hw hj
    omega
theorem ways_len {k : Nat} (h : ∀ j, j < es.length → 1 ≤ lo es j ∧ hi es j ≤ k) : ∀ i, i ≤ es.length → (ways es i).length ≤ k ^ i
  | 0, _ => by simp [ways]
  | i + 1, hi' => by
    have ih := ways_len h i (by omega)
    have h1 := h i (by omega)
    have := flatMap_len (fun row => extRow row (lo es i) (hi es i)) k (ways es i) fun row _ => Nat.le_trans (extRow_len row _ _) (by omega)
    show ((ways es i).flatMap fun row => extRow row (lo es i) (hi es i)).length ≤ k ^ (i + 1)
    rw [Nat.pow_succ]
    exact Nat.le_trans this (Nat.mul_le_mul_right k ih)
end
def ab (i : Int) : Int := if i < 0 then -i else i
/-- the error of an entry for a rank; of all -/
def er (r : Int) (e : Ent) : Int := max (ab (r - e.2.1)) (ab (r - e.2.2))
def ers (es : List Ent) (r : Int) : List Int := es.map (er r)
theorem ers_len (es : List Ent) (r : Int) : (ers es r).length = es.length := List.length_map ..
theorem ers_at {es : List Ent} {r : Int} {i : Nat} {e : Ent} (h : es[i]? = some e) : (ers es r)[i]? = some (er r e) := by
  unfold ers
  rw [List.getElem?_map, h]
  rfl
end SR

set_option Elab.async false
set_option linter.all false
/-! Plain mathematics of rows that leave a summary: ranks, the least and the greatest row. -/
namespace SR
/-- the number at a rank (from 1) -/
def rat (row : List Int) (k : Int) : Int := row.getD (k - 1).toNat 0
/-- ranks for the entries, each above last -/
def Lv (row : List Int) : List Ent → Int → Prop
  | [], _ => True
  | e :: es, last => ∃ r, last < r ∧ e.2.1 ≤ r ∧ r ≤ e.2.2 ∧ rat row r = e.1 ∧ Lv row es r
theorem Lv.low {row : List Int} : ∀ {es : List Ent} {a b : Int}, Lv row es b → a ≤ b → Lv row es a
  | [], _, _, _, _ => trivial
  | _ :: _, _, _, ⟨r, h1, h2⟩, h => ⟨r, by omega, h2⟩
theorem Lv.of_fn {row : List Int} (f : Nat → Int) : ∀ (es : List Ent) (i : Nat) (last : Int), (∀ j, j < es.length → lo es j ≤ f (i + j) ∧ f (i + j) ≤ hi es j ∧ rat row (f (i + j)) = vl es j) → (∀ j, j + 1 < es.length → f (i + j) < f (i + j + 1)) → (0 < es.length → last < f i) → Lv row es last
  | [], _, _, _, _, _ => trivial
  | e :: es, i, last, h, hr, hl => by
    have h0 := h 0 (by simp)
    refine ⟨f i, hl (by simp), h0.1, h0.2.1, h0.2.2, ?_⟩
    refine Lv.of_fn f es (i + 1) (f i) (fun j hj => ?_) (fun j hj => ?_) (fun hp => ?_)
    · have := h (j + 1) (by simpa using hj)
      rw [show i + (j + 1) = i + 1 + j by omega] at this
      exact this
    · have := hr (j + 1) (by simpa using hj)
      rw [show i + (j + 1) = i + 1 + j by omega] at this
      exact this
    · exact hr 0 (by simpa using hp)
theorem Lv.fn {row : List Int} : ∀ {es : List Ent} {last : Int}, Lv row es last → ∃ f : Nat → Int, (∀ j, j < es.length → lo es j ≤ f j ∧ f j ≤ hi es j ∧ rat row (f j) = vl es j) ∧ (∀ j, j + 1 < es.length → f j < f (j + 1)) ∧ ∀ j, j < es.length → last < f j
  | [], last, _ => ⟨fun _ => 0, fun j hj => by simp at hj, fun j hj => by simp at hj, fun j hj => by simp at hj⟩
  | e :: es, last, ⟨r, h1, h2, h3, h4, h5⟩ => by
    obtain ⟨f, f1, f2, f3⟩ := Lv.fn h5
    refine ⟨fun j => match j with | 0 => r | j + 1 => f j, fun j hj => ?_, fun j hj => ?_, fun j hj => ?_⟩
    · cases j with
      | zero => exact ⟨h2, h3, h4⟩
      | succ j => exact f1 j (by simpa using hj)
    · cases j with
      | zero => exact f3 0 (by simpa using hj)
      | succ j => exact f2 j (by simpa using hj)
    · cases j with
      | zero => exact h1
      | succ j =>
        have := f3 j (by simpa using hj)
        show last < f j
        omega
/-- the row leaves the entries -/
def Lvs (row : List Int) (es : List Ent) : Prop := Lv row es 0
section
variable {n : Int} {es : List Ent} {row : List Int}
theorem Lvs.ranks (v : Valid n es) (h : Lvs row es) : ∃ f : Nat → Int, (∀ j, j < es.length → tlo es j ≤ f j ∧ f j ≤ thi n es j ∧ rat row (f j) = vl es j) ∧ ∀ j, j + 1 < es.length → f j < f (j + 1) := by
  obtain ⟨f, f1, f2, f3⟩ := Lv.fn h
  have I : IsWay es es.length ((List.range es.length).map f) := by
    have g : ∀ j, j < es.length → ((List.range es.length).map f).getD j 0 = f j := fun j hj => by
      rw [List.getD_eq_getElem?_getD, List.getElem?_map, List.getElem?_range hj]; rfl
    refine ⟨by rw [List.length_map, List.length_range], fun j hj => ?_, fun j hj => ?_⟩
    · rw [g j hj]; exact ⟨(f1 j hj).1, (f1 j hj).2.1⟩
    · rw [g j (by omega), g (j + 1) hj]; exact f2 j hj
  refine ⟨f, fun j hj => ?_, f2⟩
  have a := way_low I (fun j hj => (v.ent j hj).2.2.1) j hj
  have b := way_high I (fun j hj => (v.ent j hj).2.2.2.2) _ j hj rfl
  rw [List.getD_eq_getElem?_getD, List.getElem?_map, List.getElem?_range hj] at a b
  exact ⟨a, b, (f1 j hj).2.2⟩
theorem Lvs.fits (v : Valid n es) (h : Lvs row es) : Fits n es := fun j hj => by
  obtain ⟨f, f1, _⟩ := h.ranks v
  have := f1 j hj
  omega
theorem Lvs.of (f : Nat → Int) (h : ∀ j, j < es.length → tlo es j ≤ f j ∧ f j ≤ thi n es j ∧ rat row (f j) = vl es j) (hr : ∀ j, j + 1 < es.length → f j < f (j + 1)) : Lvs row es :=
  Lv.of_fn f es 0 0 (fun j hj => by
    rw [Nat.zero_add]
    obtain ⟨a, b, c⟩ := h j hj
    exact ⟨Int.le_trans (tlo_lo es j) a, Int.le_trans b (thi_hi hj), c⟩) (fun j hj => by rw [Nat.zero_add]; exact hr j hj) (fun hp => by have := (h 0 hp).1; have := tlo_pos es 0; omega)
theorem Valid.asc' (v : Valid n es) {i : Nat} : ∀ {j : Nat}, i ≤ j → j < es.length → vl es i ≤ vl es j
  | 0, h, _ => by rw [show i = 0 by omega]; exact Int.le_refl _
  | j + 1, h, hj => by
    by_cases e : i = j + 1
    · rw [e]; exact Int.le_refl _
    · have := v.asc' (i := i) (j := j) (by omega) (by omega)
      have := v.asc j hj
      omega
/-- the greatest of b and the numbers; the least of t and the numbers -/
def topD (b : Int) (l : List Int) : Int := l.foldl max b
def botD (t : Int) (l : List Int) : Int := l.foldl min t
theorem topD_ge (l : List Int) : ∀ b, b ≤ topD b l ∧ ∀ x ∈ l, x ≤ topD b l := by
  induction l with
  | nil => exact fun b => ⟨Int.le_refl _, fun x hx => by cases hx⟩
  | cons y l ih =>
    intro b
    obtain ⟨h1, h2⟩ := ih (max b y)
    refine ⟨by show b ≤ topD (max b y) l; omega, fun x hx => ?_⟩
    rcases List.mem_cons.mp hx with e | e
    · show x ≤ topD (max b y) l; omega
    · exact h2 x e
theorem topD_in (l : List Int) : ∀ b, topD b l = b ∨ topD b l ∈ l := by
  induction l with
  | nil => exact fun b => .inl rfl
  | cons y l ih =>
    intro b
    show topD (max b y) l = b ∨ topD (max b y) l ∈ y :: l
    rcases ih (max b y) with e | e
    · rw [e]
      by_cases c : y ≤ b
      · left; omega
      · right; rw [show max b y = y by omega]; exact List.mem_cons_self ..
    · exact .inr (List.mem_cons_of_mem _ e)
theorem botD_le (l : List Int) : ∀ b, botD b l ≤ b ∧ ∀ x ∈ l, botD b l ≤ x := by
  induction l with
  | nil => exact fun b => ⟨Int.le_refl _, fun x hx => by cases hx⟩
  | cons y l ih =>
    intro b
    obtain ⟨h1, h2⟩ := ih (min b y)
    refine ⟨by show botD (min b y) l ≤ b; omega, fun x hx => ?_⟩
    rcases List.mem_cons.mp hx with e | e
    · show botD (min b y) l ≤ x; omega
    · exact h2 x e
theorem botD_in (l : List Int) : ∀ b, botD b l = b ∨ botD b l ∈ l := by
  induction l with
  | nil => exact fun b => .inl rfl
  | cons y l ih =>
    intro b
    show botD (min b y) l = b ∨ botD (min b y) l ∈ y :: l
    rcases ih (min b y) with e | e
    · rw [e]
      by_cases c : b ≤ y
      · left; omega
      · right; rw [show min b y = y by omega]; exact List.mem_cons_self ..
    · exact .inr (List.mem_cons_of_mem _ e)
/-- what is known of the number at a rank: at least .., at most .. -/
def atLow (n : Int) (es : List Ent) (k : Int) : List Int := ((List.range es.length).filter fun j => decide (thi n es j ≤ k)).map (vl es)
def atHigh (es : List Ent) (k : Int) : List Int := ((List.range es.length).filter fun j => decide (k ≤ tlo es j)).map (vl es)
theorem mem_atLow {k x : Int} : x ∈ atLow n es k ↔ ∃ j, j < es.length ∧ thi n es j ≤ k ∧ vl es j = x := by
  unfold atLow
  rw [List.mem_map]
  exact ⟨fun ⟨j, h, e⟩ => by rw [List.mem_filter, List.mem_range] at h; exact ⟨j, h.1, of_decide_eq_true h.2, e⟩, fun ⟨j, a, b, e⟩ => ⟨j, List.mem_filter.mpr ⟨List.mem_range.mpr a, decide_eq_true b⟩, e⟩⟩
theorem mem_atHigh {k x : Int} : x ∈ atHigh es k ↔ ∃ j, j < es.length ∧ k ≤ tlo es j ∧ vl es j = x := by
  unfold atHigh
  rw [List.mem_map]
  exact ⟨fun ⟨j, h, e⟩ => by rw [List.mem_filter, List.mem_range] at h; exact ⟨j, h.1, of_decide_eq_true h.2, e⟩, fun ⟨j, a, b, e⟩ => ⟨j, List.mem_filter.mpr ⟨List.mem_range.mpr a, decide_eq_true b⟩, e⟩⟩
/-- the least row over b, the greatest row under t -/
def rowL (b n : Int) (es : List Ent) : List Int := (List.range n.toNat).map fun (i : Nat) => topD b (atLow n es ((i : Int) + 1))
def rowH (t n : Int) (es : List Ent) : List Int := (List.range n.toNat).map fun (i : Nat) => botD t (atHigh es ((i : Int) + 1))
theorem rat_map {m : Nat} {g : Int → Int} {k : Int} (h1 : 1 ≤ k) (h2 : k ≤ m) : rat ((List.range m).map fun (i : Nat) => g ((i : Int) + 1)) k = g k := by
  unfold rat
  rw [List.getD_eq_getElem?_getD, List.getElem?_map, List.getElem?_range (by omega)]
  show g (((k - 1).toNat : Int) + 1) = g k
  rw [show (((k - 1).toNat : Int) + 1) = k by omega]
theorem rowL_at {b k : Int} (h1 : 1 ≤ k) (h2 : k ≤ n) : rat (rowL b n es) k = topD b (atLow n es k) := rat_map (m := n.toNat) (g := fun k => topD b (atLow n es k)) h1 (by omega)
theorem rowH_at {t k : Int} (h1 : 1 ≤ k) (h2 : k ≤ n) : rat (rowH t n es) k = botD t (atHigh es k) := rat_map (m := n.toNat) (g := fun k => botD t (atHigh es k)) h1 (by omega)
theorem thi_lt {j i : Nat} (h : j < i) : ∀ (hi' : i < es.length), thi n es j < thi n es i := by
  induction i with
  | zero => omega
  | succ i ih =>
    intro hi'
    have := thi_rise (n := n) hi'
    by_cases e : j = i
    · subst e; omega
    · have := ih (by omega) (by omega)
      omega
theorem tlo_lt {j i : Nat} (h : j < i) : tlo es j < tlo es i := by
  induction i with
  | zero => omega
  | succ i ih =>
    have := tlo_rise es i
    by_cases e : j = i
    · subst e; omega
    · have := ih (by omega)
      omega
theorem rowL_leaves (v : Valid n es) (hF : Fits n es) {b : Int} (hb : ∀ j, j < es.length → b ≤ vl es j) : Lvs (rowL b n es) es := by
  refine Lvs.of (n := n) (thi n es) (fun j hj => ⟨hF j hj, Int.le_refl _, ?_⟩) fun j hj => thi_lt (by omega) hj
  rw [rowL_at (Int.le_trans (tlo_pos es j) (hF j hj)) (thi_le hj)]
  have h := topD_ge (atLow n es (thi n es j)) b
  have h1 := h.2 (vl es j) (mem_atLow.mpr ⟨j, hj, Int.le_refl _, rfl⟩)
  rcases topD_in (atLow n es (thi n es j)) b with e | e
  · have := hb j hj; omega
  · obtain ⟨i, hi', hle, ev⟩ := mem_atLow.mp e
    have hij : i ≤ j := by
      by_cases c : i ≤ j
      · exact c
      · have := thi_lt (n := n) (es := es) (show j < i by omega) hi'
        omega
    have := v.asc' hij hj
    omega
theorem rowH_leaves (v : Valid n es) (hF : Fits n es) {t : Int} (ht : ∀ j, j < es.length → vl es j ≤ t) : Lvs (rowH t n es) es := by
  refine Lvs.of (n := n) (tlo es) (fun j hj => ⟨Int.le_refl _, hF j hj, ?_⟩) fun j hj => tlo_lt (by omega)
  rw [rowH_at (tlo_pos es j) (Int.le_trans (hF j hj) (thi_le hj))]
  have h := botD_le (atHigh es (tlo es j)) t
  have h1 := h.2 (vl es j) (mem_atHigh.mpr ⟨j, hj, Int.le_refl _, rfl⟩)
  rcases botD_in (atHigh es (tlo es j)) t with e | e
  · have := ht j hj; omega
  · obtain ⟨i, hi', hle, ev⟩ := mem_atHigh.mp e
    have hij : j ≤ i := by
      by_cases c : j ≤ i
      · exact c
      · have := tlo_lt (es := es) (show i < j by omega)
        omega
    have := v.asc' hij hi'
    omega
theorem topD_mono {b : Int} {l m : List Int} (h : ∀ x ∈ l, x ∈ m) : topD b l ≤ topD b m := by
  rcases topD_in l b with e | e
  · rw [e]; exact (topD_ge m b).1
  · exact (topD_ge m b).2 _ (h _ e)
theorem botD_mono {b : Int} {l m : List Int} (h : ∀ x ∈ m, x ∈ l) : botD b l ≤ botD b m := by
  rcases botD_in m b with e | e
  · rw [e]; exact (botD_le l b).1
  · exact (botD_le l b).2 _ (h _ e)
theorem map_asc {m : Nat} {g : Int → Int} (h : ∀ a b, a ≤ b → g a ≤ g b) : ((List.range m).map fun (i : Nat) => g ((i : Int) + 1)).Pairwise (· ≤ ·) := by
  rw [List.pairwise_map]
  exact List.pairwise_lt_range.imp fun hab => h _ _ (by omega)
theorem rowL_asc (b : Int) : (rowL b n es).Pairwise (· ≤ ·) := map_asc (g := fun k => topD b (atLow n es k)) fun a c h => topD_mono fun x hx => by
  obtain ⟨j, h1, h2, e⟩ := mem_atLow.mp hx
  exact mem_atLow.mpr ⟨j, h1, by omega, e⟩
theorem rowH_asc (t : Int) : (rowH t n es).Pairwise (· ≤ ·) := map_asc (g := fun k => botD t (atHigh es k)) fun a c h => botD_mono fun x hx => by
  obtain ⟨j, h1, h2, e⟩ := mem_atHigh.mp hx
  exact mem_atHigh.mpr ⟨j, h1, by omega, e⟩
/-- an ascending row at two ranks -/
theorem rat_asc {row : List Int} (h : row.Pairwise (· ≤ ·)) {a b : Int} (h1 : 1 ≤ a) (h2 : a ≤ b) (h3 : b ≤ row.length) : rat row a ≤ rat row b := by
  unfold rat
  rw [List.getD_eq_getElem?_getD, List.getD_eq_getElem?_getD, List.getElem?_eq_getElem (show (a - 1).toNat < row.length by omega), List.getElem?_eq_getElem (show (b - 1).toNat < row.length by omega)]
  show row[(a - 1).toNat] ≤ row[(b - 1).toNat]
  by_cases e : (a - 1).toNat = (b - 1).toNat
  · simp only [e]; exact Int.le_refl _
  · exact List.pairwise_iff_getElem.mp h _ _ _ _ (by omega)
/-- the number at a rank, in any row that leaves the summary -/
theorem at_least (v : Valid n es) (h : Lvs row es) (hr : row.Pairwise (· ≤ ·)) (hl : (row.length : Int) = n) {b k : Int} (hb : ∀ x ∈ row, b ≤ x) (k1 : 1 ≤ k) (k2 : k ≤ n) : topD b (atLow n es k) ≤ rat row k := by
  obtain ⟨f, f1, f2⟩ := h.ranks v
  rcases topD_in (atLow n es k) b with e | e
  · rw [e]
    refine hb _ ?_
    unfold rat
    rw [List.getD_eq_getElem?_getD, List.getElem?_eq_getElem (show (k - 1).toNat < row.length by omega)]
    exact List.getElem_mem _
  · obtain ⟨j, hj, hle, ev⟩ := mem_atLow.mp e
    obtain ⟨a, c, d⟩ := f1 j hj
    rw [← ev, ← d]
    have := tlo_pos es j
    exact rat_asc hr (by omega) (by omega) (by omega)
theorem at_most (v : Valid n es) (h : Lvs row es) (hr : row.Pairwise (· ≤ ·)) (hl : (row.length : Int) = n) {t k : Int} (ht : ∀ x ∈ row, x ≤ t) (k1 : 1 ≤ k) (k2 : k ≤ n) : rat row k ≤ botD t (atHigh es k) := by
  obtain ⟨f, f1, f2⟩ := h.ranks v
  rcases botD_in (atHigh es k) t with e | e
  · rw [e]
    refine ht _ ?_
    unfold rat
    rw [List.getD_eq_getElem?_getD, List.getElem?_eq_getElem (show (k - 1).toNat < row.length by omega)]
    exact List.getElem_mem _
  · obtain ⟨j, hj, hle, ev⟩ := mem_atHigh.mp e
    obtain ⟨a, c, d⟩ := f1 j hj
    rw [← ev, ← d]
    have := thi_le (n := n) hj
    exact rat_asc hr (by omega) (by omega) (by omega)
end
end SR

set_option Elab.async false
set_option linter.all false
/-! How many numbers of a row are less than a value. -/
namespace SR
def cnt (row : List Int) (z : Int) : Int := ((row.filter fun x => decide (x < z)).length : Int)
theorem rat_one {x : Int} {r : List Int} : rat (x :: r) 1 = x := rfl
theorem rat_more {x : Int} {r : List Int} {k : Int} (h : 2 ≤ k) : rat (x :: r) k = rat r (k - 1) := by
  unfold rat
  rw [show (k - 1).toNat = (k - 1 - 1).toNat + 1 by omega]
  rfl
theorem cnt_none {row : List Int} {z : Int} (h : ∀ x ∈ row, z ≤ x) : cnt row z = 0 := by
  unfold cnt
  rw [List.filter_eq_nil_iff.mpr fun x hx => by have := h x hx; simp; omega]
  rfl
theorem cnt_le (row : List Int) (z : Int) : 0 ≤ cnt row z ∧ cnt row z ≤ row.length := by
  have := List.length_filter_le (fun x => decide (x < z)) row
  unfold cnt
  omega
theorem cnt_iff {z : Int} : ∀ {row : List Int}, row.Pairwise (· ≤ ·) → ∀ k : Int, 1 ≤ k → k ≤ row.length → (rat row k < z ↔ k ≤ cnt row z)
  | [], _, k, h1, h2 => by simp at h2; omega
  | x :: r, h, k, h1, h2 => by
    rw [List.pairwise_cons] at h
    rw [List.length_cons] at h2
    by_cases c : x < z
    · have e : cnt (x :: r) z = cnt r z + 1 := by
        unfold cnt
        rw [List.filter_cons_of_pos (by simpa using c), List.length_cons]
        omega
      rw [e]
      by_cases k1 : k = 1
      · subst k1
        rw [rat_one]
        have := (cnt_le r z).1
        exact ⟨fun _ => by omega, fun _ => c⟩
      · rw [rat_more (by omega)]
        have := cnt_iff h.2 (k - 1) (by omega) (by omega) (z := z)
        rw [this]
        omega
    · have e : cnt (x :: r) z = 0 := cnt_none fun y hy => by
        rcases List.mem_cons.mp hy with e | e
        · omega
        · have := h.1 y e; omega
      rw [e]
      by_cases k1 : k = 1
      · subst k1
        rw [rat_one]
        exact ⟨fun g => absurd g c, fun g => by omega⟩
      · rw [rat_more (by omega)]
        refine ⟨fun g => ?_, fun g => by omega⟩
        have : (k - 1 - 1).toNat < r.length := by omega
        have m : rat r (k - 1) ∈ r := by
          unfold rat
          rw [List.getD_eq_getElem?_getD, List.getElem?_eq_getElem this]
          exact List.getElem_mem _
        have := h.1 _ m
        omega
def belLow (es : List Ent) (z : Int) : List Int := ((List.range es.length).filter fun j => decide (vl es j < z)).map (tlo es)
def belHigh (n : Int) (es : List Ent) (z : Int) : List Int := ((List.range es.length).filter fun j => decide (z ≤ vl es j)).map fun j => thi n es j - 1
section
variable {n : Int} {es : List Ent} {row : List Int}
theorem mem_belLow {z x : Int} : x ∈ belLow es z ↔ ∃ j, j < es.length ∧ vl es j < z ∧ tlo es j = x := by
  unfold belLow
  rw [List.mem_map]
  exact ⟨fun ⟨j, h, e⟩ => by rw [List.mem_filter, List.mem_range] at h; exact ⟨j, h.1, of_decide_eq_true h.2, e⟩, fun ⟨j, a, b, e⟩ => ⟨j, List.mem_filter.mpr ⟨List.mem_range.mpr a, decide_eq_true b⟩, e⟩⟩
theorem mem_belHigh {z x : Int} : x ∈ belHigh n es z ↔ ∃ j, j < es.length ∧ z ≤ vl es j ∧ thi n es j - 1 = x := by
  unfold belHigh
  rw [List.mem_map]
  exact ⟨fun ⟨j, h, e⟩ => by rw [List.mem_filter, List.mem_range] at h; exact ⟨j, h.1, of_decide_eq_true h.2, e⟩, fun ⟨j, a, b, e⟩ => ⟨j, List.mem_filter.mpr ⟨List.mem_range.mpr a, decide_eq_true b⟩, e⟩⟩
theorem below_least (v : Valid n es) (h : Lvs row es) (hr : row.Pairwise (· ≤ ·)) (hl : (row.length : Int) = n) (z : Int) : topD 0 (belLow es z) ≤ cnt row z := by
  obtain ⟨f, f1, f2⟩ := h.ranks v
  rcases topD_in (belLow es z) 0 with e | e
  · rw [e]; exact (cnt_le row z).1
  · obtain ⟨j, hj, hz, ev⟩ := mem_belLow.mp e
    obtain ⟨a, c, d⟩ := f1 j hj
    rw [← ev]
    have := tlo_pos es j
    have := thi_le (n := n) hj
    have := (cnt_iff hr (f j) (by omega) (by omega)).mp (by rw [d]; exact hz)
    omega
theorem below_most (v : Valid n es) (h : Lvs row es) (hr : row.Pairwise (· ≤ ·)) (hl : (row.length : Int) = n) (z : Int) : cnt row z ≤ botD n (belHigh n es z) := by
  obtain ⟨f, f1, f2⟩ := h.ranks v
  rcases botD_in (belHigh n es z) n with e | e
  · rw [e, ← hl]; exact (cnt_le row z).2
  · obtain ⟨j, hj, hz, ev⟩ := mem_belHigh.mp e
    obtain ⟨a, c, d⟩ := f1 j hj
    rw [← ev]
    have := tlo_pos es j
    have := thi_le (n := n) hj
    have g := cnt_iff hr (f j) (by omega) (by omega) (z := z)
    rw [d] at g
    by_cases q : f j ≤ cnt row z
    · have := g.mpr q; omega
    · omega
theorem rowL_len (b : Int) (h : 0 ≤ n) : ((rowL b n es).length : Int) = n := by
  unfold rowL
  rw [List.length_map, List.length_range]; omega
theorem rowH_len (t : Int) (h : 0 ≤ n) : ((rowH t n es).length : Int) = n := by
  unfold rowH
  rw [List.length_map, List.length_range]; omega
theorem rowH_cnt (v : Valid n es) (hF : Fits n es) {t z : Int} (ht : ∀ j, j < es.length → vl es j ≤ t) (hz : z ≤ t) : cnt (rowH t n es) z = topD 0 (belLow es z) := by
  have n1 := v.n1
  have hl := rowH_len (n := n) (es := es) t (by omega)
  refine Int.le_antisymm ?_ (below_least v (rowH_leaves v hF ht) (rowH_asc t) hl z)
  have hc := cnt_le (rowH t n es) z
  by_cases c0 : cnt (rowH t n es) z = 0
  · rw [c0]; exact (topD_ge _ 0).1
  · have g := (cnt_iff (rowH_asc t) (cnt (rowH t n es) z) (by omega) (by omega)).mpr (Int.le_refl _)
    rw [rowH_at (by omega) (by omega)] at g
    rcases botD_in (atHigh es (cnt (rowH t n es) z)) t with e | e
    · omega
    · obtain ⟨j, hj, hle, ev⟩ := mem_atHigh.mp e
      exact Int.le_trans hle ((topD_ge _ 0).2 _ (mem_belLow.mpr ⟨j, hj, by omega, rfl⟩))
theorem rowL_cnt (v : Valid n es) (hF : Fits n es) {b z : Int} (hb : ∀ j, j < es.length → b ≤ vl es j) (hz : b < z) : cnt (rowL b n es) z = botD n (belHigh n es z) := by
  have n1 := v.n1
  have hl := rowL_len (n := n) (es := es) b (by omega)
  refine Int.le_antisymm (below_most v (rowL_leaves v hF hb) (rowL_asc b) hl z) ?_
  have hc := cnt_le (rowL b n es) z
  by_cases c0 : botD n (belHigh n es z) ≤ cnt (rowL b n es) z
  · exact c0
  · have hbd := (botD_le (belHigh n es z) n).1
    have g := cnt_iff (rowL_asc (n := n) (es := es) b) (cnt (rowL b n es) z + 1) (z := z) (by omega) (by omega)
    rw [rowL_at (by omega) (by omega)] at g
    rcases topD_in (atLow n es (cnt (rowL b n es) z + 1)) b with e | e
    · have := g.mp (by omega); omega
    · obtain ⟨j, hj, hle, ev⟩ := mem_atLow.mp e
      by_cases q : vl es j < z
      · have := g.mp (by omega); omega
      · have := (botD_le (belHigh n es z) n).2 _ (mem_belHigh.mpr ⟨j, hj, by omega, rfl⟩)
        omega
end
end SR

set_option Elab.async false
set_option linter.all false
/-! Plain mathematics of a row that is filled from numbers told at ranks. -/
namespace SR
def fillN (g : Int → Option Int) (f : Int) : Nat → Int
  | 0 => f
  | k + 1 => (g (1 + (k : Int))).getD (fillN g f k)
def fillRow (g : Int → Option Int) (f : Int) (n : Nat) : List Int := (List.range n).map fun (i : Nat) => fillN g f (i + 1)
theorem fillRow_succ (g : Int → Option Int) (f : Int) (n : Nat) : fillRow g f (n + 1) = fillRow g f n ++ [fillN g f (n + 1)] := by
  unfold fillRow
  rw [List.range_succ, List.map_append]
  rfl
theorem fillRow_len (g : Int → Option Int) (f : Int) (n : Nat) : (fillRow g f n).length = n := by unfold fillRow; rw [List.length_map, List.length_range]
theorem fillRow_at {g : Int → Option Int} {f : Int} {n : Nat} {k : Int} (h1 : 1 ≤ k) (h2 : k ≤ n) : rat (fillRow g f n) k = fillN g f k.toNat := by
  unfold rat fillRow
  rw [List.getD_eq_getElem?_getD, List.getElem?_map, List.getElem?_range (by omega)]
  show fillN g f ((k - 1).toNat + 1) = _
  rw [show (k - 1).toNat + 1 = k.toNat by omega]
theorem fillN_some {g : Int → Option Int} {f b : Int} {k : Int} (h1 : 1 ≤ k) (h : g k = some b) : fillN g f k.toNat = b := by
  obtain ⟨m, hm⟩ : ∃ m : Nat, k.toNat = m + 1 := ⟨k.toNat - 1, by omega⟩
  rw [hm]
  show (g (1 + (m : Int))).getD _ = b
  rw [show 1 + (m : Int) = k by omega, h]
  rfl
/-- the numbers told are not less than first, and ascend -/
structure Asc (g : Int → Option Int) (f : Int) : Prop where
  lo : ∀ k b, g k = some b → f ≤ b
  up : ∀ j k a b, j < k → g j = some a → g k = some b → a ≤ b
theorem Asc.le {g : Int → Option Int} {f : Int} (A : Asc g f) : ∀ (m : Nat) (k b : Int), (m : Int) < k → g k = some b → fillN g f m ≤ b
  | 0, k, b, _, h => A.lo k b h
  | m + 1, k, b, hk, h => by
    show (g (1 + (m : Int))).getD (fillN g f m) ≤ b
    cases e : g (1 + (m : Int)) with
    | none => exact A.le m k b (by omega) h
    | some a => exact A.up _ _ _ _ (by omega) e h
theorem Asc.step {g : Int → Option Int} {f : Int} (A : Asc g f) (m : Nat) : fillN g f m ≤ fillN g f (m + 1) := by
  show fillN g f m ≤ (g (1 + (m : Int))).getD (fillN g f m)
  cases e : g (1 + (m : Int)) with
  | none => exact Int.le_refl _
  | some a => exact A.le m _ a (by omega) e
theorem Asc.mono {g : Int → Option Int} {f : Int} (A : Asc g f) {i : Nat} : ∀ j, i ≤ j → fillN g f i ≤ fillN g f j
  | 0, h => by rw [show i = 0 by omega]; exact Int.le_refl _
  | j + 1, h => by
    by_cases e : i = j + 1
    · rw [e]; exact Int.le_refl _
    · exact Int.le_trans (A.mono j (by omega)) (A.step j)
theorem Asc.row {g : Int → Option Int} {f : Int} (A : Asc g f) (n : Nat) : (fillRow g f n).Pairwise (· ≤ ·) := by
  unfold fillRow
  rw [List.pairwise_map]
  exact List.pairwise_lt_range.imp fun h => A.mono _ (by omega)
/-- the first i entries' values at their lows -/
def gE (ts : List Ent) : Nat → Int → Option Int
  | 0, _ => none
  | i + 1, k => if k = lo ts i then some (vl ts i) else gE ts i k
theorem gE_succ (ts : List Ent) (i : Nat) (k : Int) : gE ts (i + 1) k = if k = lo ts i then some (vl ts i) else gE ts i k := rfl
theorem gE_is {ts : List Ent} : ∀ {i : Nat} {k b : Int}, gE ts i k = some b → ∃ j, j < i ∧ k = lo ts j ∧ b = vl ts j
  | 0, _, _, h => by cases h
  | i + 1, k, b, h => by
    unfold gE at h
    by_cases c : k = lo ts i
    · rw [if_pos c] at h
      exact ⟨i, by omega, c, (Option.some.inj h).symm⟩
    · rw [if_neg c] at h
      obtain ⟨j, h1, h2⟩ := gE_is h
      exact ⟨j, by omega, h2⟩
theorem gE_at {ts : List Ent} (up : ∀ i j, i < j → j < ts.length → lo ts i < lo ts j) : ∀ {i j : Nat}, i ≤ ts.length → j < i → gE ts i (lo ts j) = some (vl ts j)
  | 0, j, _, h => by omega
  | i + 1, j, hi', hj => by
    unfold gE
    by_cases e : j = i
    · subst e; rw [if_pos rfl]
    · have := up j i (by omega) (by omega)
      rw [if_neg (by omega)]
      exact gE_at up (by omega) (by omega)
theorem gE_asc {ts : List Ent} {f : Int} (up : ∀ i j, i < j → j < ts.length → lo ts i < lo ts j) (va : ∀ i j, i ≤ j → j < ts.length → vl ts i ≤ vl ts j) (hf : ∀ j, j < ts.length → f ≤ vl ts j) : Asc (gE ts ts.length) f where
  lo := fun k b h => by
    obtain ⟨j, h1, _, h3⟩ := gE_is h
    rw [h3]; exact hf j h1
  up := fun j k a b h ha hb => by
    obtain ⟨i1, h1, h2, h3⟩ := gE_is ha
    obtain ⟨i2, g1, g2, g3⟩ := gE_is hb
    rw [h3, g3]
    refine va _ _ ?_ g1
    by_cases c : i1 ≤ i2
    · exact c
    · have := up i2 i1 (by omega) h1
      omega
/-- the tightened entries: lows rise, values do not fall -/
theorem tight_up {n : Int} {es : List Ent} : ∀ i j, i < j → j < (tightL n es).length → lo (tightL n es) i < lo (tightL n es) j := fun i j h hj => by
  rw [tight_len] at hj
  rw [lo_of (tight_at (n := n) hj), lo_of (tight_at (n := n) (show i < es.length by omega))]
  exact tlo_lt h
theorem tight_va {n : Int} {es : List Ent} (v : Valid n es) : ∀ i j, i ≤ j → j < (tightL n es).length → vl (tightL n es) i ≤ vl (tightL n es) j := fun i j h hj => by
  rw [tight_len] at hj
  rw [vl_of (tight_at (n := n) hj), vl_of (tight_at (n := n) (show i < es.length by omega))]
  exact v.asc' h hj
theorem fill_leaves {n : Int} {es : List Ent} (v : Valid n es) (hF : Fits n es) {g : Int → Option Int} {f : Int} (hg : ∀ j, j < es.length → g (tlo es j) = some (vl es j)) : Lvs (fillRow g f n.toNat) es := by
  refine Lvs.of (n := n) (tlo es) (fun j hj => ⟨Int.le_refl _, hF j hj, ?_⟩) fun j hj => tlo_lt (by omega)
  have h1 := tlo_pos es j
  have h2 := hF j hj
  have h3 := thi_le (n := n) hj
  rw [fillRow_at h1 (by omega)]
  exact fillN_some h1 (hg j hj)
/-- one turn of the walk for places -/
theorem Lv.no {row : List Int} {e : Ent} {es : List Ent} {L : Int} (h : ∀ x, max e.2.1 (L + 1) ≤ x → x ≤ e.2.2 → rat row x ≠ e.1) : ¬ Lv row (e :: es) L := fun ⟨r, h1, h2, h3, h4, _⟩ => h r (by omega) h3 h4
theorem Lv.yes {row : List Int} {e : Ent} {es : List Ent} {L r : Int} (h1 : max e.2.1 (L + 1) ≤ r) (h2 : r ≤ e.2.2) (h3 : rat row r = e.1) (h : ∀ x, max e.2.1 (L + 1) ≤ x → x < r → rat row x ≠ e.1) : Lv row (e :: es) L ↔ Lv row es r := by
  constructor
  · rintro ⟨q, a, b, c, d, k⟩
    refine k.low ?_
    by_cases z : r ≤ q
    · exact z
    · exact absurd d (h q (by omega) (by omega))
  · exact fun k => ⟨r, by omega, by omega, h2, h3, k⟩
end SR

set_option Elab.async false
set_option linter.all false
set_option maxRecDepth 100000
set_option maxHeartbeats 4000000
/-! Rules of one's own over the hand layer: == and len of own instances, zip of three, enumerate of a tuple. -/
namespace SR
open PySem PySem.Spec PyProof.Rows L2
/-! ### heaps -/
theorem Same_new {H : Hp} {p : Addr} {o : HO} (h : H p = none) : Same H (upd H p o) := fun b u e => by rw [upd_ne (ne_of_none e h)]; exact e
theorem Same_new2 {H H1 : Hp} {p : Addr} {o : HO} (s : Same H H1) (h : H1 p = none) : Same H (upd H1 p o) := s.trans (Same_new h)
/-- a thing that H does not know may change -/
theorem Same_mut {H H1 : Hp} {p : Addr} {o : HO} (s : Same H H1) (h : H p = none) : Same H (upd H1 p o) := fun b u e => by rw [upd_ne (ne_of_none e h)]; exact s b u e
/-! ### == by an own __eq__ -/
section
variable {X : Cx}
def rEqO (K : PySem.W.Frag) (C : Addr) (sp : Sp) (E : XK) : R2 := fun x y H Q => ∃ a dx fs t, x = .ref a ∧ H a = some (.ins C dx fs) ∧ TyX K H y t ∧ PySem.W.notFirst K C t = true ∧ sp [x, y] H Q E
theorem op_eqO {CX : CXT} {C f : Addr} {fd : FuncData} {ps : List Str} {sp : Sp} {E : XK} {n : Nat} (F : FnOk X.prog X.w X.K X.mg X.base CX n f fd ps sp) (hr : Room n X.A)
    (hs : PySem.W.findIn X.K (.ref C) "__eq__" = some (some (.ref f))) (hf : PySem.W.isFn X.K (.ref f) = true) (hb : Binds X.K fd ps []) (hx : Passes CX X E) : OpR X (compareOp .Eq) (rEqO X.K C sp E) := by
  intro pins s σ H x y v u Q I rx ry hq
  obtain ⟨a, dx, fs, t, rfl, ha, ty, hn, hsp⟩ := hq
  cases rx
  obtain ⟨mA, J, _⟩ := ins_get I.hok ha
  obtain ⟨od, J, _⟩ := J.look
  obtain ⟨m, hF⟩ := I.fr
  obtain ⟨P, Z, p, _⟩ := kit_of I ry ty
  show wpAny (model X.prog X.w) X.A (richCompare .Eq (.ref a) u) (EP X pins σ Q) X.xe s
  refine PySem.W.cmp_K (op := .Eq) (tb := t) hr.units0 hF I.ok.mod.kin J (Z.ty _ _ I.kIn p) hn hs hf ?_
  have hl := F.len _ _ _ _ hsp
  have r2 : Vals [V.ref a, y] [Value.ref a, u] := .cons rfl (.cons ry .nil)
  refine wpAny_call (codeAny_mono (F.run X.A X.stack s H ⟨[.ref a, u], []⟩ [.ref a, u] [.ref a, y] Q E hr I.env0 (by
    have := hb s [.ref a, u] I.kIn (by simpa using hl)
    simpa using this) r2 hsp) fun r s' hq => ?_)
  cases r with
  | error e => exact hx pins σ H s e s' I hq
  | ok fl =>
    cases fl with
    | ret w' =>
      obtain ⟨z, H', I', rz, ez⟩ := I.after hq
      show PySem.W.CmpBack (EP X pins σ Q) w' s'
      have q : EP X pins σ Q w' s' := ⟨z, H', I', rz, ez⟩
      cases w' <;> first | exact q | (cases z <;> first | exact nomatch rz | (obtain ⟨_, e⟩ := rz; exact nomatch e))
    | next => exact False.elim hq
    | brk => exact False.elim hq
    | cont => exact False.elim hq

/-! ### len by an own __len__ -/
def rLenO (C : Addr) (sp : Sp) (E : XK) : List V → Hp → VK → Prop := fun xs H Q => ∃ a dx fs, xs = [.ref a] ∧ H a = some (.ins C dx fs) ∧ sp [.ref a] H (fun v H' => ∃ n : Int, v = .int n ∧ 0 ≤ n ∧ n < 2 ^ 63 ∧ Q (.int n) H') E
theorem call_lenO {CX : CXT} {C f : Addr} {fd : FuncData} {ps : List Str} {sp : Sp} {E : XK} {n : Nat} (F : FnOk X.prog X.w X.K X.mg X.base CX n f fd ps sp) (hr : Room (n + 1) X.A)
    (hs : PySem.W.findIn X.K (.ref C) "__len__" = some (some (.ref f))) (hf : PySem.W.isFn X.K (.ref f) = true) (hb : Binds X.K fd ps []) (hx : Passes CX X E) : CallR X (.builtin "len") (rLenO C sp E) := by
  intro pins s σ H xs us Q I r h
  obtain ⟨a, dx, fs, rfl, ha, hsp⟩ := h
  obtain ⟨u, rfl, ru⟩ := vals1 r
  cases ru
  obtain ⟨mA, J, _⟩ := ins_get I.hok ha
  obtain ⟨od, J, _⟩ := J.look
  obtain ⟨m, hF⟩ := I.fr
  refine PySem.W.len_K hF I.ok.mod.kin J hs hf ?_
  have hl := F.len _ _ _ _ hsp
  refine wpAny_call (codeAny_mono (F.run X.A.in1 X.stack s H ⟨[.ref a], []⟩ [.ref a] [.ref a] _ E hr.in1 I.env0.in1 (by
    have := hb s [.ref a] I.kIn (by simpa using hl)
    simpa using this) (.cons rfl .nil) hsp) fun r s' hq => ?_)
  cases r with
  | error e => exact hx pins σ H s e s' I hq
  | ok fl =>
    cases fl with
    | ret w' =>
      obtain ⟨z, H', I', rz, k, ez, h0, h1, q⟩ := I.after hq
      subst ez
      obtain ⟨t, rfl⟩ := rz
      exact ⟨⟨h0, h1⟩, .int k, H', I'.tok _, ⟨_, rfl⟩, q⟩
    | next => exact False.elim hq
    | brk => exact False.elim hq
    | cont => exact False.elim hq
end
/-! ### enumerate of a tuple -/
section
set_option maxHeartbeats 1000000 in
theorem meets_enum1 {v : Value} {o : Obj} {H : Heap → Prop} (B : Begins v o H) :
    Meets (Builtin.«enumerate.__new__» ⟨[.type "enumerate", v], []⟩) (fun _ R s => H s.heap ∧
      R (.ok (.ret (.ref (s.heap.push o).objs.size))) { s with heap := (s.heap.push o).push { cls := .type "enumerate", data := .fields #[.none, .bool false, .ref s.heap.objs.size, rawInt 0, .none, .none] } }) :=
  .of_wp fun prog w A R s h => by
    obtain ⟨hp, g, d, tk, os⟩ := s; obtain ⟨h1, h⟩ := h
    have hsub := sub_enumerate
    have q1 : ∀ {A' : Around} {E : Value → Shared → Prop} {Q : Value → Shared → Prop}, Q (.ref hp.objs.size) ⟨hp.push o, g, d, tk, os⟩ → wpAny (model prog w) A' (pyIter v) Q E ⟨hp, g, d, tk, os⟩ :=
      fun q => B.iter prog w _ _ ⟨hp, g, d, tk, os⟩ _ h1 q
    wp_walk using q1
    refine wpAny_stack_any fun st => wpAny_pure ?_
    split
    · rename_i c _ _ _ _ _
      cases (c == Value.type "enumerate")
      · wp_walk using q1
        exact ⟨_, rfl, h⟩
      · wp_walk using q1
        exact ⟨_, rfl, h⟩
    · wp_walk using q1
      exact ⟨_, rfl, h⟩
theorem enum_begins1 {prog : Program} {w : World} {A : Around} {E : Value → Shared → Prop} {s : Shared} {v : Value} {o : Obj} {H : Heap → Prop} {Q : Value → Shared → Prop} (B : Begins v o H) (h1 : H s.heap)
    (h : ∀ h', IsEnum h' (s.heap.objs.size + 1) s.heap.objs.size 0 .none → h'.get? s.heap.objs.size = some o → h'.objs.size = s.heap.objs.size + 2 →
      (∀ b o, s.heap.get? b = some o → h'.get? b = some o) → Q (.ref (s.heap.objs.size + 1)) { s with heap := h' }) :
    wpAny (model prog w) A (call (.type "enumerate") [v]) Q E s := by
  refine callType_new F.called_enumerate (by decide) (F.typeCall_enumerate_1 _) (F.newCall_enumerate_1 _) (fun obj => F.args_object_init_2 obj _) F.entry_enumerate_new
    (meets_enum1 B) ⟨h1, ?_⟩
  have hz : (s.heap.push o).objs.size = s.heap.objs.size + 1 := Heap.size_push ..
  show _ ∧ _
  rw [hz]
  have he : IsEnum ((s.heap.push o).push { cls := .type "enumerate", data := .fields #[.none, .bool false, .ref s.heap.objs.size, rawInt 0, .none, .none] }) (s.heap.objs.size + 1) s.heap.objs.size 0 .none := by
    have := Heap.get?_push_size (s.heap.push o) (o := { cls := .type "enumerate", data := .fields #[.none, .bool false, .ref s.heap.objs.size, rawInt 0, .none, .none] }) rfl
    rw [hz] at this; exact this
  refine ⟨⟨_, he, rfl⟩, h _ he (Heap.get?_push_of_some _ (Heap.get?_push_size _ B.free)) (by rw [Heap.size_push, hz]) fun b o x => Heap.get?_push_of_some _ (Heap.get?_push_of_some _ x)⟩
end
/-- the tuple at a, each item in a new pair with its place -/
def ItEt (K : PySem.W.Frag) (a : Addr) : It :=
  ⟨fun i H => ∃ (xs : List V) (x : V), SqT K H a xs ∧ xs[i]? = some x, fun i H v H' => ∃ T x, v = .ref T ∧ H T = none ∧ H' = upd H T (.tup [.int (i : Nat), x]) ∧ ∀ xs, SqT K H a xs → xs[i]? = some x, fun i H => ∃ xs : List V, SqT K H a xs ∧ xs.length = i⟩
theorem turn_enumT {P : Program} {w : World} {K : PySem.W.Frag} {elts : List Expr} {kk : Nat} {tpos : Pos} (a e it : Addr) :
    Turn P w K (.Tuple elts kk tpos) (ItEt K a) [e, it] e (fun i h => (∃ old, IsEnum h e it ((i : Nat) : Int) old) ∧ h.IsTupleIter it a i ∧ e ≠ it) where
  mem := by simp
  obj := fun i h st b hb => by
    obtain ⟨⟨old, he⟩, ⟨o, ho, hc, hd⟩, _⟩ := st
    have e' : b = e ∨ b = it := by simpa using hb
    rcases e' with z | z
    · rw [z]; exact ⟨_, he, fun v q => nomatch q⟩
    · rw [z]; exact ⟨o, ho, fun v q => by rw [hd] at q; cases q⟩
  keep := fun i h h' st k => let ⟨⟨old, he⟩, hi, hne⟩ := st; ⟨⟨old, k e (by simp) _ he⟩, hi.at fun o q => k it (by simp) o q, hne⟩
  item := by
    intro X hP hw hK hc i pins s σ H E I hf st hg
    subst hP hw hK
    obtain ⟨⟨old, he⟩, hit, hne⟩ := st
    obtain ⟨xs, x, hq, hx⟩ := hg
    obtain ⟨its, rv, p, hz⟩ := I.tuple hq
    obtain ⟨u, hu, ru⟩ := rv.get hx
    have hel : e < s.heap.objs.size := Heap.lt_size he
    have hil : it < s.heap.objs.size := by obtain ⟨_, q, _⟩ := hit; exact Heap.lt_size q
    have hT : s.heap.IsTuple a its.toArray := p
    obtain ⟨o1, ho1, hc1, _⟩ := id p
    obtain ⟨o2, ho2, hc2, _⟩ := id hit
    have hea : e ≠ a := fun z => by subst z; rw [he] at ho1; cases ho1; exact absurd hc1 (by simp)
    have hai : a ≠ it := fun z => by subst z; rw [ho1] at ho2; cases ho2; rw [hc1] at hc2; exact absurd hc2 (by simp)
    have hlt : i < its.toArray.size := by
      rw [List.size_toArray]
      exact (List.getElem?_eq_some_iff.mp hu).1
    refine wpAny_pyNext_enum_itemC (Draws.tuple (A := X.A.in1) (I.ok.hd hc) it a hai its.toArray) he ⟨hit, hT⟩ hlt hne (by simp [hne, hea]) fun y h' tk hP ho hs' hT2 hsz hk => ?_
    have ey : y = u := by
      have q : its.toArray[i]? = some y := hP
      rw [List.getElem?_toArray, hu] at q
      exact (Option.some.inj q).symm
    subst ey
    refine ⟨_, rfl, wpAny_letOwnedTupleGo_enum (s := { s with heap := h', toks := tk + 1 }) ho fun h'' he' sb => ?_⟩
    have hT3 : h''.get? s.heap.objs.size = some { cls := .type "tuple", data := .seq #[.int i tk, y] } := (sb.2 _ (Nat.ne_of_gt hel)).trans hT2
    have new : ObjOk X.prog X.w (upd H s.heap.objs.size (.tup [.int (i : Nat), x])) h'' s.heap.objs.size (.tup [.int (i : Nat), x]) :=
      ⟨by show 2 ≤ sizeLine; decide, [.int i tk, y], .cons ⟨_, rfl⟩ (.cons ru .nil), ⟨_, hT3, rfl, _, rfl⟩⟩
    have I1 : Inv X pins σ (upd H s.heap.objs.size (.tup [.int (i : Nat), x])) { s with heap := h'', toks := tk + 1 } :=
      I.turnedNew (ch := [e, it]) (fun b ob hb q => (sb.2 b (fun z => hb (by simp [z]))).trans (hk b ob (fun z => hb (by simp [z])) (fun z => hb (by simp [z])) q)) hf (Nat.le_refl _) new
    refine ⟨.ref s.heap.objs.size, _, I1, rfl, ⟨_, x, rfl, I.hok.fresh (Nat.le_refl _), rfl, fun ys hy => by rw [I.tuple_inj hy hq]; exact hx⟩, ⟨⟨y, ?_⟩, hs'.1.at fun o q => (sb.2 it (Ne.symm hne)).trans q, hne⟩, fun b hb => ?_⟩
    · have e1 : ((i + 1 : Nat) : Int) = (i : Int) + 1 := by omega
      rw [e1]; exact he'
    · have hb' : b < s.heap.objs.size := by
        have e' : b = e ∨ b = it := by simpa using hb
        rcases e' with z | z
        · rw [z]; exact hel
        · rw [z]; exact hil
      rw [upd_ne (Nat.ne_of_lt hb')]
      exact (hf b hb).1
  done := by
    intro X hP hw hK hc i pins s σ H E I hf st hg
    subst hP hw hK
    obtain ⟨⟨old, he⟩, hit, hne⟩ := st
    obtain ⟨xs, hq, hx⟩ := hg
    obtain ⟨its, rv, p, hz⟩ := I.tuple hq
    have hT : s.heap.IsTuple a its.toArray := p
    obtain ⟨o1, ho1, hc1, _⟩ := id p
    obtain ⟨o2, ho2, hc2, _⟩ := id hit
    have hai : a ≠ it := fun z => by subst z; rw [ho1] at ho2; cases ho2; rw [hc1] at hc2; exact absurd hc2 (by simp)
    obtain ⟨f0, f1, f2, f3, f4, f5⟩ := hf it (by simp)
    have hl : its.toArray.size = i := by rw [List.size_toArray, ← rv.length]; exact hx
    exact wpAny_pyNext_enum_endD (Draws.tuple (A := X.A.in1) (I.ok.hd hc) it a hai its.toArray) he (by rw [hl]; exact ⟨hit, hT⟩) fun h' eb => ⟨rfl, I.turned (t' := s.toks) (fun b o hb q => eb b o hb q) f0 f1 f3 f4 f5⟩
  self := fun A i s Q E st h => let ⟨⟨_, he⟩, _⟩ := st; wpAny_pyIter_enum he h
def iEnumT (K : PySem.W.Frag) (ta : TA) : TI := fun σ H R => ta σ H fun vs H1 => ∃ a xs, vs = [.ref a] ∧ SqT K H1 a xs ∧ R (ItEt K a) H1
theorem pi_enumT {X : Cx} {e : Expr} {ta : TA} {p pos tpos : Pos} {elts : List Expr} {kk : Nat} (hg : Gl X "enumerate") (hm : X.mg "enumerate" = none) (ha : PA X [e] ta) (hs : starEach [e] X.env = [(false, eval e X.env)] := by rfl) :
    PI X (.Tuple elts kk tpos) (.Call (.Name "enumerate" p) [e] [] pos) (iEnumT X.K ta) := by
  refine ⟨fun pins s σ H R I h => ?_⟩
  refine Call_ (ld_blt I hg hm boot_enumerate (PyProof.Rows.callWith_type1 (thn (ha.run pos pins s σ H _ I h) fun us s1 ⟨vs, H1, I1, r1, q1⟩ => ?_) hs rfl))
  obtain ⟨a, xs, ex, hq, q⟩ := q1
  subst ex
  cases r1 with
  | cons r rr =>
    cases rr
    cases r
    obtain ⟨its, rv, p', hz⟩ := I1.tuple hq
    have hT : s1.heap.IsTuple a its.toArray := p'
    refine enum_begins1 (begins_tuple a its.toArray) hT fun h' he ho hsz hk => wpAny_pyIter_enum he ?_
    have hit : h'.IsTupleIter s1.heap.objs.size a 0 := ⟨_, ho, rfl, rfl⟩
    have I2 : Inv X pins σ H1 { s1 with heap := h' } := I1.kept (t' := s1.toks) hk
    refine ⟨s1.heap.objs.size + 1, [s1.heap.objs.size + 1, s1.heap.objs.size], _, _, H1, rfl, I2, turn_enumT a (s1.heap.objs.size + 1) s1.heap.objs.size, ⟨⟨.none, he⟩, hit, Nat.succ_ne_self _⟩, fun b hb => ?_, q⟩
    have e' : b = s1.heap.objs.size + 1 ∨ b = s1.heap.objs.size := by simpa using hb
    have hle : s1.heap.objs.size ≤ b := by
      rcases e' with z | z
      · rw [z]; exact Nat.le_add_right _ _
      · rw [z]; exact Nat.le_refl _
    exact I1.fpOk hle (I1.hok.fresh hle)
theorem for_enumT {K : PySem.W.Frag} {a : Addr} {xs : List V} {g : TG} {tb : TS} {D : Ends} {σ : L2.St} {H : Hp} (Pv : Nat → L2.St → Hp → Prop) (h0 : Pv 0 σ H) (hq : ∀ i σ H, Pv i σ H → SqT K H a xs)
    (hs : ∀ (i : Nat) (x : V) (T : Addr) (σ : L2.St) (H : Hp), xs[i]? = some x → Pv i σ H → H T = none → g (.ref T) σ (upd H T (.tup [.int (i : Nat), x])) fun σ2 H2 => tb { D with nx := Pv (i + 1), ct := Pv (i + 1), bk := D.nx } σ2 H2) (hd : ∀ σ H, Pv xs.length σ H → D.nx σ H) :
    ∃ W : Nat → Nat → L2.St → Hp → Prop, (∃ m, W 0 m σ H) ∧ ∀ i m σ H, W i m σ H →
      ((ItEt K a).stop i H ∧ D.nx σ H) ∨ ((ItEt K a).go i H ∧ ∃ N : L2.St → Hp → Prop, (∀ σ' H', N σ' H' → ∃ m', m' < m ∧ W (i + 1) m' σ' H') ∧ ∀ v H', (ItEt K a).yld i H v H' → g v σ H' fun σ2 H2 => tb { D with nx := N, ct := N, bk := D.nx } σ2 H2) := by
  refine ⟨fun i m σ H => m = xs.length - i ∧ i ≤ xs.length ∧ Pv i σ H, ⟨xs.length, rfl, Nat.zero_le _, h0⟩, ?_⟩
  rintro i m σ H ⟨rfl, hi, p⟩
  have qx := hq i σ H p
  by_cases hlt : i < xs.length
  · have hx : xs[i]? = some xs[i] := List.getElem?_eq_getElem hlt
    refine .inr ⟨⟨xs, _, qx, hx⟩, Pv (i + 1), fun σ' H' p' => ⟨xs.length - (i + 1), by omega, rfl, hlt, p'⟩, fun v H' y => ?_⟩
    obtain ⟨T, x', rfl, hT, rfl, f1⟩ := y
    exact hs i x' T σ H (f1 xs qx) p hT
  · have e : i = xs.length := by omega
    subst e
    exact .inl ⟨⟨xs, qx, rfl⟩, hd σ H p⟩
/-! ### zip of a tuple and two lists -/
def ItZ3 (K : PySem.W.Frag) (a b c : Addr) : It :=
  ⟨fun i H => ∃ (xs ys zs : List V) (x y z : V), SqT K H a xs ∧ SqL K H b ys ∧ SqL K H c zs ∧ xs[i]? = some x ∧ ys[i]? = some y ∧ zs[i]? = some z,
    fun i H v H' => ∃ T x y z, v = .ref T ∧ H T = none ∧ H' = upd H T (.tup [x, y, z]) ∧ (∀ xs, SqT K H a xs → xs[i]? = some x) ∧ (∀ ys, SqL K H b ys → ys[i]? = some y) ∧ ∀ zs, SqL K H c zs → zs[i]? = some z,
    fun i H => ∃ xs ys zs : List V, SqT K H a xs ∧ SqL K H b ys ∧ SqL K H c zs ∧ xs.length = i ∧ ys.length = i ∧ zs.length = i⟩
/-- the cells of the zip lie apart from one another -/
structure Ap3 (z TI TO i1 i2 i3 : Addr) : Prop where
  TIz : TI ≠ z
  TOz : TO ≠ z
  TITO : TI ≠ TO
  TI1 : TI ≠ i1
  TI2 : TI ≠ i2
  TI3 : TI ≠ i3
  TO1 : TO ≠ i1
  TO2 : TO ≠ i2
  TO3 : TO ≠ i3
  z1 : z ≠ i1
  z2 : z ≠ i2
  z3 : z ≠ i3
  i12 : i1 ≠ i2
  i13 : i1 ≠ i3
  i23 : i2 ≠ i3
theorem ap3_of (n : Nat) : Ap3 (n + 5) (n + 3) (n + 4) n (n + 1) (n + 2) :=
  ⟨(show (n + 3 : Nat) ≠ n + 5 by omega), (show (n + 4 : Nat) ≠ n + 5 by omega), (show (n + 3 : Nat) ≠ n + 4 by omega), (show (n + 3 : Nat) ≠ n by omega), (show (n + 3 : Nat) ≠ n + 1 by omega), (show (n + 3 : Nat) ≠ n + 2 by omega), (show (n + 4 : Nat) ≠ n by omega), (show (n + 4 : Nat) ≠ n + 1 by omega), (show (n + 4 : Nat) ≠ n + 2 by omega), (show (n + 5 : Nat) ≠ n by omega), (show (n + 5 : Nat) ≠ n + 1 by omega), (show (n + 5 : Nat) ≠ n + 2 by omega), (show (n : Nat) ≠ n + 1 by omega), (show (n : Nat) ≠ n + 2 by omega), (show (n + 1 : Nat) ≠ n + 2 by omega)⟩
theorem le_of6 {n q : Nat} (h : q = n + 5 ∨ q = n + 3 ∨ q = n + 4 ∨ q = n ∨ q = n + 1 ∨ q = n + 2) : n ≤ q := by omega
theorem to_ne {n a : Nat} (h : a < n) : n + 4 ≠ a := by omega
theorem sep3 {z TI TO i1 i2 i3 a b c : Addr} (D : Ap3 z TI TO i1 i2 i3) (ha : ∀ q ∈ [z, TO, i1, i2, i3], q ≠ a) (hb : ∀ q ∈ [z, TO, i1, i2, i3], q ≠ b) (hc : ∀ q ∈ [z, TO, i1, i2, i3], q ≠ c) : ZipSep3 z TI TO i1 i2 i3 [i1, a] [i2, b] [i3, c] := by
  have nm : ∀ {x y q : Addr}, x ≠ y → x ≠ q → x ∉ [y, q] := fun h1 h2 h => by
    rcases List.mem_cons.mp h with e | h
    · exact h1 e
    · exact h2 (List.mem_singleton.mp h)
  exact ⟨D.TIz, D.TOz, D.TITO, D.TI1, by simp, nm D.z1 (ha z (by simp)), nm D.TO1 (ha TO (by simp)), D.TI2, by simp, nm D.z2 (hb z (by simp)), nm D.TO2 (hb TO (by simp)), D.TI3, by simp, nm D.z3 (hc z (by simp)), nm D.TO3 (hc TO (by simp)),
    nm D.i12 (hb i1 (by simp)), nm D.i13 (hc i1 (by simp)), nm (Ne.symm D.i12) (ha i2 (by simp)), nm D.i23 (hc i2 (by simp)), nm (Ne.symm D.i13) (ha i3 (by simp)), nm (Ne.symm D.i23) (hb i3 (by simp))⟩
/-- an own cell is no list and no tuple that stands -/
theorem cell_ne {h : Heap} {q a : Addr} {o : Obj} {T : String} (hq : ∃ o', h.get? q = some o' ∧ o'.cls = .type T) (ha : h.get? a = some o) (hn : o.cls ≠ .type T) : q ≠ a := fun z => by
  obtain ⟨o', e, c⟩ := hq
  rw [z, ha] at e
  cases e
  exact hn c
theorem turn_zip3 {P : Program} {w : World} {K : PySem.W.Frag} {elts : List Expr} {kk : Nat} {tpos : Pos} {a b c z TI TO i1 i2 i3 : Addr} (D : Ap3 z TI TO i1 i2 i3) :
    Turn P w K (.Tuple elts kk tpos) (ItZ3 K a b c) [z, TI, TO, i1, i2, i3] z (fun i h => IsZip h z TI TO .none ∧ IsTupOf3 h TI (.ref i1) (.ref i2) (.ref i3) ∧ (∃ x y q, IsTupOf3 h TO x y q) ∧ h.IsTupleIter i1 a i ∧ h.IsListIter i2 b i ∧ h.IsListIter i3 c i ∧ TO ≠ a) where
  mem := by simp
  obj := fun i h st q hq => by
    obtain ⟨hz, hTI, ⟨x, y, u, hTO⟩, ⟨o1, e1, _, d1⟩, ⟨o2, e2, _, d2⟩, ⟨o3, e3, _, d3⟩, _⟩ := st
    have e' : q = z ∨ q = TI ∨ q = TO ∨ q = i1 ∨ q = i2 ∨ q = i3 := by simpa using hq
    rcases e' with r | r | r | r | r | r
    · rw [r]; exact ⟨_, hz, fun v q => nomatch q⟩
    · rw [r]; exact ⟨_, hTI, fun v q => nomatch q⟩
    · rw [r]; exact ⟨_, hTO, fun v q => nomatch q⟩
    · rw [r]; exact ⟨o1, e1, fun v q => by rw [d1] at q; cases q⟩
    · rw [r]; exact ⟨o2, e2, fun v q => by rw [d2] at q; cases q⟩
    · rw [r]; exact ⟨o3, e3, fun v q => by rw [d3] at q; cases q⟩
  keep := fun i h h' st k => by
    obtain ⟨hz, hTI, ⟨x, y, u, hTO⟩, h1, h2, h3, ne⟩ := st
    exact ⟨k z (by simp) _ hz, k TI (by simp) _ hTI, ⟨x, y, u, k TO (by simp) _ hTO⟩, h1.at fun o q => k i1 (by simp) o q, h2.at fun o q => k i2 (by simp) o q, h3.at fun o q => k i3 (by simp) o q, ne⟩
  item := by
    intro X hP hw hK hc i pins s σ H E I hf st hg
    subst hP hw hK
    obtain ⟨hz, hTI, ⟨x0, y0, u0, hTO⟩, h1, h2, h3, neT⟩ := st
    obtain ⟨xs, ys, zs, x, y, u, hqx, hqy, hqz, hx, hy, hu⟩ := hg
    obtain ⟨its, rv, p, _⟩ := I.tuple hqx
    obtain ⟨its2, rv2, p2, _⟩ := I.list hqy
    obtain ⟨its3, rv3, p3, _⟩ := I.list hqz
    obtain ⟨v1, hv1, r1⟩ := rv.get hx
    obtain ⟨v2, hv2, r2⟩ := rv2.get hy
    obtain ⟨v3, hv3, r3⟩ := rv3.get hu
    have hzl : z < s.heap.objs.size := Heap.lt_size hz
    have hT1 : s.heap.IsTuple a its.toArray := p
    have hL2 : s.heap.IsList b its2.toArray := p2.isList
    have hL3 : s.heap.IsList c its3.toArray := p3.isList
    obtain ⟨oa, ea, ca, _⟩ := id hT1
    obtain ⟨ob, eb, cb, _⟩ := id hL2
    obtain ⟨oc, ec, cc, _⟩ := id hL3
    have k1 : ∃ o', s.heap.get? i1 = some o' ∧ o'.cls = .type "tuple_iterator" := let ⟨o, e, c, _⟩ := h1; ⟨o, e, c⟩
    have k2 : ∃ o', s.heap.get? i2 = some o' ∧ o'.cls = .type "list_iterator" := let ⟨o, e, c, _⟩ := h2; ⟨o, e, c⟩
    have k3 : ∃ o', s.heap.get? i3 = some o' ∧ o'.cls = .type "list_iterator" := let ⟨o, e, c, _⟩ := h3; ⟨o, e, c⟩
    have kz : ∃ o', s.heap.get? z = some o' ∧ o'.cls = .type "zip" := ⟨_, hz, rfl⟩
    have kT : ∃ o', s.heap.get? TO = some o' ∧ o'.cls = .type "tuple" := ⟨_, hTO, rfl⟩
    have apA : ∀ q ∈ [z, TO, i1, i2, i3], q ≠ a := fun q hq => by
      have e' : q = z ∨ q = TO ∨ q = i1 ∨ q = i2 ∨ q = i3 := by simpa using hq
      rcases e' with r | r | r | r | r
      · subst r; exact cell_ne kz ea (by rw [ca]; simp)
      · subst r; exact neT
      · subst r; exact cell_ne k1 ea (by rw [ca]; simp)
      · subst r; exact cell_ne k2 ea (by rw [ca]; simp)
      · subst r; exact cell_ne k3 ea (by rw [ca]; simp)
    have apB : ∀ q ∈ [z, TO, i1, i2, i3], q ≠ b := fun q hq => by
      have e' : q = z ∨ q = TO ∨ q = i1 ∨ q = i2 ∨ q = i3 := by simpa using hq
      rcases e' with r | r | r | r | r
      · subst r; exact cell_ne kz eb (by rw [cb]; simp)
      · subst r; exact cell_ne kT eb (by rw [cb]; simp)
      · subst r; exact cell_ne k1 eb (by rw [cb]; simp)
      · subst r; exact cell_ne k2 eb (by rw [cb]; simp)
      · subst r; exact cell_ne k3 eb (by rw [cb]; simp)
    have apC : ∀ q ∈ [z, TO, i1, i2, i3], q ≠ c := fun q hq => by
      have e' : q = z ∨ q = TO ∨ q = i1 ∨ q = i2 ∨ q = i3 := by simpa using hq
      rcases e' with r | r | r | r | r
      · subst r; exact cell_ne kz ec (by rw [cc]; simp)
      · subst r; exact cell_ne kT ec (by rw [cc]; simp)
      · subst r; exact cell_ne k1 ec (by rw [cc]; simp)
      · subst r; exact cell_ne k2 ec (by rw [cc]; simp)
      · subst r; exact cell_ne k3 ec (by rw [cc]; simp)
    have S := sep3 D apA apB apC
    have lt1 : i < its.toArray.size := by rw [List.size_toArray]; exact (List.getElem?_eq_some_iff.mp hv1).1
    have lt2 : i < its2.toArray.size := by rw [List.size_toArray]; exact (List.getElem?_eq_some_iff.mp hv2).1
    have lt3 : i < its3.toArray.size := by rw [List.size_toArray]; exact (List.getElem?_eq_some_iff.mp hv3).1
    have hd := I.ok.hd hc
    refine wpAny_pyNext_zipD3_item S (Draws.tuple (A := X.A.in1) hd i1 a (Ne.symm (apA i1 (by simp))) its.toArray) (Draws.list (A := X.A.in1) hd i2 b (Ne.symm (apB i2 (by simp))) its2.toArray) (Draws.list (A := X.A.in1) hd i3 c (Ne.symm (apC i3 (by simp))) its3.toArray)
      hz hTI hTO ⟨h1, hT1⟩ ⟨h2, hL2⟩ ⟨h3, hL3⟩ lt1 lt2 lt3 fun w1 w2 w3 h' tk q1 q2 q3 hz' hTO' s1 s2 s3 hT hsz hk => ?_
    have e1 : w1 = v1 := by
      have q : its.toArray[i]? = some w1 := q1
      rw [List.getElem?_toArray, hv1] at q
      exact (Option.some.inj q).symm
    have e2 : w2 = v2 := by
      have q : its2.toArray[i]? = some w2 := q2
      rw [List.getElem?_toArray, hv2] at q
      exact (Option.some.inj q).symm
    have e3 : w3 = v3 := by
      have q : its3.toArray[i]? = some w3 := q3
      rw [List.getElem?_toArray, hv3] at q
      exact (Option.some.inj q).symm
    subst e1 e2 e3
    refine ⟨_, rfl, wpAny_letOwnedTupleGo_zip (s := { s with heap := h', toks := tk }) hz' fun h'' hz'' sb => ?_⟩
    have hT2 : h''.get? s.heap.objs.size = some { cls := .type "tuple", data := .seq #[w1, w2, w3] } := (sb.2 _ (Nat.ne_of_gt hzl)).trans hT
    have new : ObjOk X.prog X.w (upd H s.heap.objs.size (.tup [x, y, u])) h'' s.heap.objs.size (.tup [x, y, u]) :=
      ⟨by show 3 ≤ sizeLine; decide, [w1, w2, w3], .cons r1 (.cons r2 (.cons r3 .nil)), ⟨_, hT2, rfl, _, rfl⟩⟩
    have I1 : Inv X pins σ (upd H s.heap.objs.size (.tup [x, y, u])) { s with heap := h'', toks := tk } :=
      I.turnedNew (t' := tk) (ch := [z, TI, TO, i1, i2, i3]) (fun c o hb q => (sb.2 c (fun q' => hb (by simp [q']))).trans (hk c o (fun q' => hb (by simp [q'])) (fun q' => hb (by simp [q'])) (fun q' => hb (by simp [q'])) (fun q' => hb (by simp [q'])) (fun q' => hb (by simp [q'])) q)) hf (Nat.le_refl _) new
    refine ⟨.ref s.heap.objs.size, _, I1, rfl, ⟨_, x, y, u, rfl, I.hok.fresh (Nat.le_refl _), rfl, fun l hl => by rw [I.tuple_inj hl hqx]; exact hx, fun l hl => by rw [I.list_inj hl hqy]; exact hy, fun l hl => by rw [I.list_inj hl hqz]; exact hu⟩, ⟨hz'', ?_, ⟨w1, w2, w3, ?_⟩, ?_, ?_, ?_, neT⟩, fun q hqm => ?_⟩
    · exact (sb.2 _ D.TIz).trans (hk _ _ D.TIz D.TITO D.TI1 D.TI2 D.TI3 hTI)
    · exact (sb.2 _ D.TOz).trans hTO'
    · exact s1.1.at fun o q => (sb.2 _ (Ne.symm D.z1)).trans q
    · exact s2.1.at fun o q => (sb.2 _ (Ne.symm D.z2)).trans q
    · exact s3.1.at fun o q => (sb.2 _ (Ne.symm D.z3)).trans q
    · have hlt : q < s.heap.objs.size := by
        have e' : q = z ∨ q = TI ∨ q = TO ∨ q = i1 ∨ q = i2 ∨ q = i3 := by simpa using hqm
        rcases e' with r | r | r | r | r | r
        · rw [r]; exact hzl
        · rw [r]; exact Heap.lt_size hTI
        · rw [r]; exact Heap.lt_size hTO
        · rw [r]; obtain ⟨_, e1, _⟩ := h1; exact Heap.lt_size e1
        · rw [r]; obtain ⟨_, e2, _⟩ := h2; exact Heap.lt_size e2
        · rw [r]; obtain ⟨_, e3, _⟩ := h3; exact Heap.lt_size e3
      rw [upd_ne (Nat.ne_of_lt hlt)]
      exact (hf q hqm).1
  done := by
    intro X hP hw hK hc i pins s σ H E I hf st hg
    subst hP hw hK
    obtain ⟨hz, hTI, ⟨x0, y0, u0, hTO⟩, h1, h2, h3, neT⟩ := st
    obtain ⟨xs, ys, zs, hqx, hqy, hqz, l1, l2, l3⟩ := hg
    obtain ⟨its, rv, p, _⟩ := I.tuple hqx
    obtain ⟨its2, rv2, p2, _⟩ := I.list hqy
    obtain ⟨its3, rv3, p3, _⟩ := I.list hqz
    have hT1 : s.heap.IsTuple a its.toArray := p
    have hL2 : s.heap.IsList b its2.toArray := p2.isList
    have hL3 : s.heap.IsList c its3.toArray := p3.isList
    obtain ⟨oa, ea, ca, _⟩ := id hT1
    obtain ⟨ob, eb, cb, _⟩ := id hL2
    obtain ⟨oc, ec, cc, _⟩ := id hL3
    have k1 : ∃ o', s.heap.get? i1 = some o' ∧ o'.cls = .type "tuple_iterator" := let ⟨o, e, c, _⟩ := h1; ⟨o, e, c⟩
    have k2 : ∃ o', s.heap.get? i2 = some o' ∧ o'.cls = .type "list_iterator" := let ⟨o, e, c, _⟩ := h2; ⟨o, e, c⟩
    have k3 : ∃ o', s.heap.get? i3 = some o' ∧ o'.cls = .type "list_iterator" := let ⟨o, e, c, _⟩ := h3; ⟨o, e, c⟩
    have kz : ∃ o', s.heap.get? z = some o' ∧ o'.cls = .type "zip" := ⟨_, hz, rfl⟩
    have kT : ∃ o', s.heap.get? TO = some o' ∧ o'.cls = .type "tuple" := ⟨_, hTO, rfl⟩
    have apA : ∀ q ∈ [z, TO, i1, i2, i3], q ≠ a := fun q hq => by
      have e' : q = z ∨ q = TO ∨ q = i1 ∨ q = i2 ∨ q = i3 := by simpa using hq
      rcases e' with r | r | r | r | r
      · subst r; exact cell_ne kz ea (by rw [ca]; simp)
      · subst r; exact neT
      · subst r; exact cell_ne k1 ea (by rw [ca]; simp)
      · subst r; exact cell_ne k2 ea (by rw [ca]; simp)
      · subst r; exact cell_ne k3 ea (by rw [ca]; simp)
    have apB : ∀ q ∈ [z, TO, i1, i2, i3], q ≠ b := fun q hq => by
      have e' : q = z ∨ q = TO ∨ q = i1 ∨ q = i2 ∨ q = i3 := by simpa using hq
      rcases e' with r | r | r | r | r
      · subst r; exact cell_ne kz eb (by rw [cb]; simp)
      · subst r; exact cell_ne kT eb (by rw [cb]; simp)
      · subst r; exact cell_ne k1 eb (by rw [cb]; simp)
      · subst r; exact cell_ne k2 eb (by rw [cb]; simp)
      · subst r; exact cell_ne k3 eb (by rw [cb]; simp)
    have apC : ∀ q ∈ [z, TO, i1, i2, i3], q ≠ c := fun q hq => by
      have e' : q = z ∨ q = TO ∨ q = i1 ∨ q = i2 ∨ q = i3 := by simpa using hq
      rcases e' with r | r | r | r | r
      · subst r; exact cell_ne kz ec (by rw [cc]; simp)
      · subst r; exact cell_ne kT ec (by rw [cc]; simp)
      · subst r; exact cell_ne k1 ec (by rw [cc]; simp)
      · subst r; exact cell_ne k2 ec (by rw [cc]; simp)
      · subst r; exact cell_ne k3 ec (by rw [cc]; simp)
    have S := sep3 D apA apB apC
    have n1 : its.toArray.size = i := by rw [List.size_toArray, ← rv.length]; exact l1
    have n2 : its2.toArray.size = i := by rw [List.size_toArray, ← rv2.length]; exact l2
    have n3 : its3.toArray.size = i := by rw [List.size_toArray, ← rv3.length]; exact l3
    have hd := I.ok.hd hc
    exact wpAny_pyNext_zipD3_end S (Draws.tuple (A := X.A.in1) hd i1 a (Ne.symm (apA i1 (by simp))) its.toArray) (Draws.list (A := X.A.in1) hd i2 b (Ne.symm (apB i2 (by simp))) its2.toArray) (Draws.list (A := X.A.in1) hd i3 c (Ne.symm (apC i3 (by simp))) its3.toArray)
      hz hTI hTO ⟨h1, hT1⟩ ⟨h2, hL2⟩ ⟨h3, hL3⟩ (by omega) (by omega) (by omega) (by omega) fun h' tk hk => ⟨rfl, I.turnedL (t' := tk) (ch := [z, TI, TO, i1, i2, i3]) (fun c o hb q =>
      hk c o (fun q' => hb (by simp [q'])) (fun q' => hb (by simp [q'])) (fun q' => hb (by simp [q'])) (fun q' => hb (by simp [q'])) (fun q' => hb (by simp [q'])) q) hf⟩
  self := fun A i s Q E st h => wpAny_pyIter_zip st.1 h
def iZip3 (K : PySem.W.Frag) (ta : TA) : TI := fun σ H R => ta σ H fun vs H1 => ∃ a b c xs ys zs, vs = [.ref a, .ref b, .ref c] ∧ SqT K H1 a xs ∧ SqL K H1 b ys ∧ SqL K H1 c zs ∧ R (ItZ3 K a b c) H1
theorem pi_zip3 {X : Cx} {e e2 e3 : Expr} {ta : TA} {p pos tpos : Pos} {elts : List Expr} {kk : Nat} (hg : Gl X "zip") (hm : X.mg "zip" = none) (ha : PA X [e, e2, e3] ta)
    (hs : starEach [e, e2, e3] X.env = (false, eval e X.env) :: starEach [e2, e3] X.env := by rfl) (hpl : (backTo pos (starEach [e2, e3] X.env)).any (·.1) = false := by rfl) :
    PI X (.Tuple elts kk tpos) (.Call (.Name "zip" p) [e, e2, e3] [] pos) (iZip3 X.K ta) := by
  refine ⟨fun pins s σ H R I h => ?_⟩
  refine Call_ (ld_blt I hg hm PyProof.Rows.boot_zip (PyProof.Rows.callWith_type1 (thn (ha.run pos pins s σ H _ I h) fun us s1 ⟨vs, H1, I1, r1, q1⟩ => ?_) hs hpl))
  obtain ⟨a, b, c, xs, ys, zs, ex, hqx, hqy, hqz, q⟩ := q1
  subst ex
  cases r1 with
  | cons r rr =>
  cases rr with
  | cons r' rr =>
  cases rr with
  | cons r'' rr =>
    cases rr
    cases r
    cases r'
    cases r''
    obtain ⟨its, rv, p1, _⟩ := I1.tuple hqx
    obtain ⟨its2, rv2, p2, _⟩ := I1.list hqy
    obtain ⟨its3, rv3, p3, _⟩ := I1.list hqz
    have hT1 : s1.heap.IsTuple a its.toArray := p1
    obtain ⟨oa, ea, _⟩ := id hT1
    have hal : a < s1.heap.objs.size := Heap.lt_size ea
    refine zip_begins3 (begins_tuple a its.toArray) (begins_list b its2.toArray) (begins_list c its3.toArray) hT1 p2.isList p3.isList fun h' hz hTI hTO g1 g2 g3 hsz hk => wpAny_pyIter_zip hz ?_
    have I2 : Inv X pins σ H1 { s1 with heap := h' } := I1.kept (t' := s1.toks) hk
    refine ⟨s1.heap.objs.size + 5, [s1.heap.objs.size + 5, s1.heap.objs.size + 3, s1.heap.objs.size + 4, s1.heap.objs.size, s1.heap.objs.size + 1, s1.heap.objs.size + 2], _, _, H1, rfl, I2, turn_zip3 (ap3_of _), ⟨hz, hTI, ⟨_, _, _, hTO⟩, ⟨_, g1, rfl, rfl⟩, ⟨_, g2, rfl, rfl⟩, ⟨_, g3, rfl, rfl⟩, to_ne hal⟩, fun q hqm => ?_, q⟩
    · have hle : s1.heap.objs.size ≤ q := by
        have e' : q = s1.heap.objs.size + 5 ∨ q = s1.heap.objs.size + 3 ∨ q = s1.heap.objs.size + 4 ∨ q = s1.heap.objs.size ∨ q = s1.heap.objs.size + 1 ∨ q = s1.heap.objs.size + 2 := by simpa using hqm
        exact le_of6 e'
      exact I1.fpOk hle (I1.hok.fresh hle)
theorem for_zip3 {K : PySem.W.Frag} {a b c : Addr} {xs ys zs : List V} {g : TG} {tb : TS} {D : Ends} {σ : L2.St} {H : Hp} (hl : xs.length = ys.length) (hl2 : xs.length = zs.length) (Pv : Nat → L2.St → Hp → Prop) (h0 : Pv 0 σ H) (hq : ∀ i σ H, Pv i σ H → SqT K H a xs ∧ SqL K H b ys ∧ SqL K H c zs)
    (hs : ∀ (i : Nat) (x y z : V) (T : Addr) (σ : L2.St) (H : Hp), xs[i]? = some x → ys[i]? = some y → zs[i]? = some z → Pv i σ H → H T = none → g (.ref T) σ (upd H T (.tup [x, y, z])) fun σ2 H2 => tb { D with nx := Pv (i + 1), ct := Pv (i + 1), bk := D.nx } σ2 H2) (hd : ∀ σ H, Pv xs.length σ H → D.nx σ H) :
    ∃ W : Nat → Nat → L2.St → Hp → Prop, (∃ m, W 0 m σ H) ∧ ∀ i m σ H, W i m σ H →
      ((ItZ3 K a b c).stop i H ∧ D.nx σ H) ∨ ((ItZ3 K a b c).go i H ∧ ∃ N : L2.St → Hp → Prop, (∀ σ' H', N σ' H' → ∃ m', m' < m ∧ W (i + 1) m' σ' H') ∧ ∀ v H', (ItZ3 K a b c).yld i H v H' → g v σ H' fun σ2 H2 => tb { D with nx := N, ct := N, bk := D.nx } σ2 H2) := by
  refine ⟨fun i m σ H => m = xs.length - i ∧ i ≤ xs.length ∧ Pv i σ H, ⟨xs.length, rfl, Nat.zero_le _, h0⟩, ?_⟩
  rintro i m σ H ⟨rfl, hi, p⟩
  obtain ⟨qx, qy, qz⟩ := hq i σ H p
  by_cases hlt : i < xs.length
  · have hx : xs[i]? = some xs[i] := List.getElem?_eq_getElem hlt
    have hy : ys[i]? = some (ys[i]'(by omega)) := List.getElem?_eq_getElem (by omega)
    have hz : zs[i]? = some (zs[i]'(by omega)) := List.getElem?_eq_getElem (by omega)
    refine .inr ⟨⟨xs, ys, zs, _, _, _, qx, qy, qz, hx, hy, hz⟩, Pv (i + 1), fun σ' H' p' => ⟨xs.length - (i + 1), by omega, rfl, hlt, p'⟩, fun v H' y => ?_⟩
    obtain ⟨T, x', y', z', rfl, hT, rfl, f1, f2, f3⟩ := y
    exact hs i x' y' z' T σ H (f1 xs qx) (f2 ys qy) (f3 zs qz) p hT
  · have e : i = xs.length := by omega
    subst e
    exact .inl ⟨⟨xs, ys, zs, qx, qy, qz, rfl, hl.symm, hl2.symm⟩, hd σ H p⟩
end SR

set_option Elab.async false
set_option linter.all false
set_option maxRecDepth 100000
set_option maxHeartbeats 4000000
/-! Short words: a def that stands under its name (Dn), a built-in called, entries and summaries in the heap. -/
namespace SR
open PySem PySem.Spec PyProof.Rows L2
theorem pr_at {A B : Type} {F : A → B → Prop} : ∀ {l : List A} {m : List B} {i : Nat} {b : B}, Paired F l m → m[i]? = some b → ∃ a, l[i]? = some a ∧ F a b
  | _, _, _, _, .nil, e => by simp at e
  | _, _, 0, _, .cons r _, e => by simp at e; subst e; exact ⟨_, rfl, r⟩
  | _, _, i + 1, b, .cons _ t, e => by
    obtain ⟨u, h1, h2⟩ := pr_at (i := i) (b := b) t (by simpa using e)
    exact ⟨u, by simpa using h1, h2⟩
theorem pr_at' {A B : Type} {F : A → B → Prop} : ∀ {l : List A} {m : List B} {i : Nat} {a : A}, Paired F l m → l[i]? = some a → ∃ b, m[i]? = some b ∧ F a b
  | _, _, _, _, .nil, e => by simp at e
  | _, _, 0, _, .cons r _, e => by simp at e; subst e; exact ⟨_, rfl, r⟩
  | _, _, i + 1, a, .cons _ t, e => by
    obtain ⟨u, h1, h2⟩ := pr_at' (i := i) (a := a) t (by simpa using e)
    exact ⟨u, by simpa using h1, h2⟩
theorem pr_app {A B : Type} {F : A → B → Prop} : ∀ {l l2 : List A} {m m2 : List B}, Paired F l m → Paired F l2 m2 → Paired F (l ++ l2) (m ++ m2)
  | _, _, _, _, .nil, s => s
  | _, _, _, _, .cons r t, s => .cons r (pr_app t s)
theorem pr_drop {A B : Type} {F : A → B → Prop} : ∀ {l : List A} {m : List B} (n : Nat), Paired F l m → Paired F (l.drop n) (m.drop n)
  | _, _, 0, h => h
  | _, _, _ + 1, .nil => .nil
  | _, _, n + 1, .cons _ t => pr_drop n t
theorem pr_set {A B : Type} {F : A → B → Prop} {a : A} {b : B} (h : F a b) : ∀ {l : List A} {m : List B} (i : Nat), Paired F l m → Paired F (l.set i a) (m.set i b)
  | _, _, _, .nil => .nil
  | _, _, 0, .cons _ t => .cons h t
  | _, _, i + 1, .cons r t => .cons r (pr_set h i t)
theorem pr_out {A B : Type} {F : A → B → Prop} : ∀ {l : List A} {m : List B} (i : Nat), Paired F l m → Paired F (l.eraseIdx i) (m.eraseIdx i)
  | _, _, _, .nil => .nil
  | _, _, 0, .cons _ t => t
  | _, _, i + 1, .cons r t => .cons r (pr_out i t)
theorem pr_map {A B C : Type} {F : A → C → Prop} {G : B → C → Prop} {f : A → B} (h : ∀ a c, F a c → G (f a) c) : ∀ {l : List A} {m : List C}, Paired F l m → Paired G (l.map f) m
  | _, _, .nil => .nil
  | _, _, .cons r t => .cons (h _ _ r) (pr_map h t)
theorem tyes_of {σ : L2.St} {H : Hp} {Q : Bool → Hp → Prop} (h : Q true H) : tYes σ H Q := h
/-! ### defs by their names -/
section
variable {P : Program} {w : World} {K : PySem.W.Frag} {mg : Str → Option Value} {base : Heap}
/-- the name x holds a def that keeps sp, with no default values, and no error leaves it -/
def Dn (P : Program) (w : World) (K : PySem.W.Frag) (mg : Str → Option Value) (base : Heap) (x : Str) (ps : List Str) (k : Nat) (sp : Sp) : Prop :=
  ∃ f fd, FnOk P w K mg base CX0 k f fd ps sp ∧ mg x = some (.ref f) ∧ PySem.W.keepIn K (.ref f) = true ∧ Binds K fd ps []
/-- a def of the text under its name -/
structure Fd (K : PySem.W.Frag) (mg : Str → Option Value) (x qual : Str) (st : Stmt) (ps : List Str) (f : Addr) (fd : FuncData) : Prop where
  F : Fun K x qual st f fd
  g : mg x = some (.ref f)
  b : Binds K fd ps []
theorem Fd.dn {x qual : Str} {st : Stmt} {ps : List Str} {f : Addr} {fd : FuncData} {k : Nat} {sp : Sp} (d : Fd K mg x qual st ps f fd) (G : FnOk P w K mg base CX0 k f fd ps sp) : Dn P w K mg base x ps k sp := ⟨f, fd, G, d.g, d.F.kp, d.b⟩
end
section
variable {X : Cx}
theorem pe_dn {x : Str} {ps : List Str} {k : Nat} {sp : Sp} {e : Expr} {es : List Expr} {t : TA} {p pos : Pos} (D : Dn X.prog X.w X.K X.mg X.base x ps k sp) (hr : Room k X.A) (ha : PA X (e :: es) t) (hg : Gl X x := by rfl)
    (hdb : (x == ("__debug__" : Str)) = false := by decide) (he : starEach (e :: es) X.env = (false, eval e X.env) :: starEach es X.env := by rfl) (hpl : (backTo pos (starEach es X.env)).any (·.1) = false := by rfl) :
    PE X (.Call (.Name x p) (e :: es) [] pos) (tCall sp [] E0 t) := by
  obtain ⟨f, fd, F, hm, hk, hb⟩ := D
  exact pe_call F hr hg hm hk hb .nil pass0 ha hdb he hpl
theorem pe_gi {x : Str} {i : Int} {t : Tok} {pos : Pos} (hm : X.mg x = some (.int i t)) (hg : Gl X x := by rfl) (hd : (x == ("__debug__" : Str)) = false := by decide) : PE X (.Name x pos) (tC (.int i)) := pe_glob hg hm ⟨_, rfl⟩ hd
end
/-! ### entries -/
def EntV (H : Hp) (v : V) (e : Ent) : Prop := ∃ t, v = .ref t ∧ H t = some (.tup [.int e.1, .int e.2.1, .int e.2.2])
def EntsV (H : Hp) (vs : List V) (es : List Ent) : Prop := Paired (EntV H) vs es
theorem EntV.mono {H H' : Hp} (s : Same H H') {v : V} {e : Ent} (h : EntV H v e) : EntV H' v e := let ⟨t, a, b⟩ := h; ⟨t, a, s _ _ b⟩
theorem EntsV.mono {H H' : Hp} (s : Same H H') {vs : List V} {es : List Ent} (h : EntsV H vs es) : EntsV H' vs es := Paired.mapP h fun _ _ x => x.mono s
theorem EntsV.len {H : Hp} {vs : List V} {es : List Ent} (h : EntsV H vs es) : vs.length = es.length := Paired.length h
/-- a tuple of entries -/
def TupV (H : Hp) (v : V) (es : List Ent) : Prop := ∃ a vs, v = .ref a ∧ H a = some (.tup vs) ∧ EntsV H vs es
theorem TupV.mono {H H' : Hp} (s : Same H H') {v : V} {es : List Ent} (h : TupV H v es) : TupV H' v es := let ⟨a, vs, e, b, c⟩ := h; ⟨a, vs, e, s _ _ b, c.mono s⟩
def sfl (n : Int) (v : V) : List (Str × V) := putF "_entries" v (putF "_many" (.int n) [])
theorem sne : ¬ (("_many" : Str) = "_entries") := by decide +kernel
theorem sfl_many (n : Int) (v : V) : (sfl n v).lookup ("_many" : Str) = some (.int n) := by
  unfold sfl
  rw [lookup_putF, if_neg sne, lookup_putF, if_pos rfl]
theorem sfl_entries (n : Int) (v : V) : (sfl n v).lookup ("_entries" : Str) = some v := by
  unfold sfl
  rw [lookup_putF, if_pos rfl]
/-- a Summary of n and es at v -/
def SumV (C : Addr) (H : Hp) (v : V) (n : Int) (es : List Ent) : Prop := ∃ p dx u, v = .ref p ∧ H p = some (.ins C dx (sfl n u)) ∧ TupV H u es
theorem SumV.mono {C : Addr} {H H' : Hp} (s : Same H H') {v : V} {n : Int} {es : List Ent} (h : SumV C H v n es) : SumV C H' v n es := let ⟨p, dx, u, e, b, c⟩ := h; ⟨p, dx, u, e, s _ _ b, c.mono s⟩
/-! ### data -/
def entD (e : Ent) : PyData := .tuple [.int e.1, .int e.2.1, .int e.2.2]
theorem EntV.dp {K : PySem.W.Frag} {H : Hp} {v : V} {e : Ent} (h : EntV H v e) : Dp K H v (entD e) := by
  obtain ⟨t, rfl, ht⟩ := h
  exact .tup (SqT.of ht) (.cons (.int _) (.cons (.int _) (.cons (.int _) .nil)))
theorem EntsV.dp {K : PySem.W.Frag} {H : Hp} : ∀ {vs : List V} {es : List Ent}, EntsV H vs es → DpAll K H vs (es.map entD)
  | _, _, .nil => .nil
  | _, _, .cons r t => .cons r.dp (EntsV.dp t)
theorem TupV.dp {K : PySem.W.Frag} {H : Hp} {v : V} {es : List Ent} (h : TupV H v es) : Dp K H v (.tuple (es.map entD)) := by
  obtain ⟨a, vs, rfl, ha, he⟩ := h
  exact .tup (SqT.of ha) he.dp
/-- flat rows of ints, tuples of such: they can be compared, and == is = -/
theorem shaped_tup {k : Nat} : ∀ {ds : List PyData}, (∀ d ∈ ds, d.canLay0 = true ∧ d.depth ≤ k) → (PyData.tuple ds).canLay0 = true ∧ (PyData.tuple ds).depth ≤ k + 1
  | [], _ => ⟨rfl, by show 0 + 1 ≤ k + 1; omega⟩
  | d :: ds, h => by
    have h1 := h d (List.mem_cons_self ..)
    have h2 := shaped_tup (ds := ds) fun x hx => h x (List.mem_cons_of_mem _ hx)
    have a : PyData.canLayAll0 (d :: ds) = true := by
      show (d.canLay0 && PyData.canLayAll0 ds) = true
      rw [h1.1]
      exact h2.1
    refine ⟨a, ?_⟩
    have b : PyData.depthAll ds + 1 ≤ k + 1 := h2.2
    show max d.depth (PyData.depthAll ds) + 1 ≤ k + 1
    omega
theorem ent_lay (e : Ent) : (entD e).canLay0 = true ∧ (entD e).depth ≤ 1 := ⟨rfl, by show max 0 (max 0 (max 0 0)) + 1 ≤ 1; decide⟩
theorem shaped_of {d : PyData} (h : d.canLay0 = true ∧ d.depth ≤ 64) : SeqAt.shaped d = true := by
  unfold SeqAt.shaped
  rw [h.1, decide_eq_true h.2]
  rfl
theorem ents_lay (es : List Ent) : (PyData.tuple (es.map entD)).canLay0 = true ∧ (PyData.tuple (es.map entD)).depth ≤ 2 := shaped_tup fun d hd => by
  obtain ⟨e, _, rfl⟩ := List.mem_map.mp hd
  exact ent_lay e
theorem shaped_ents (es : List Ent) : SeqAt.shaped (.tuple (es.map entD)) = true := shaped_of ⟨(ents_lay es).1, Nat.le_trans (ents_lay es).2 (by decide)⟩
theorem shaped_ent (e : Ent) : SeqAt.shaped (entD e) = true := shaped_of ⟨(ent_lay e).1, Nat.le_trans (ent_lay e).2 (by decide)⟩
theorem eqv_int (i j : Int) : PyData.eqv (.int i) (.int j) = decide (i = j) := by
  show (i == j) = decide (i = j)
  by_cases h : i = j
  · subst h; simp
  · rw [decide_eq_false h]; exact beq_eq_false_iff_ne.mpr h
theorem eqv_ent (e f : Ent) : PyData.eqv (entD e) (entD f) = decide (e = f) := by
  obtain ⟨a, b, c⟩ := e
  obtain ⟨a', b', c'⟩ := f
  show (PyData.eqv (.int a) (.int a') && (PyData.eqv (.int b) (.int b') && (PyData.eqv (.int c) (.int c') && true))) = _
  rw [eqv_int, eqv_int, eqv_int, Bool.and_true, ← Bool.decide_and, ← Bool.decide_and]
  exact decide_eq_decide.mpr ⟨fun ⟨x, y, z⟩ => by rw [x, y, z], fun h => by injection h with h1 h2; injection h2 with h2 h3; exact ⟨h1, h2, h3⟩⟩
theorem eqvAll_ents : ∀ es fs : List Ent, PyData.eqvAll (es.map entD) (fs.map entD) = decide (es = fs)
  | [], [] => rfl
  | [], _ :: _ => rfl
  | _ :: _, [] => rfl
  | e :: es, f :: fs => by
    show (PyData.eqv (entD e) (entD f) && PyData.eqvAll (es.map entD) (fs.map entD)) = _
    rw [eqv_ent, eqvAll_ents es fs, ← Bool.decide_and]
    exact decide_eq_decide.mpr ⟨fun ⟨x, y⟩ => by rw [x, y], fun h => by injection h with h1 h2; exact ⟨h1, h2⟩⟩
theorem eqv_ents (es fs : List Ent) : PyData.eqv (.tuple (es.map entD)) (.tuple (fs.map entD)) = decide (es = fs) := eqvAll_ents es fs
end SR

set_option Elab.async false
set_option linter.all false
set_option maxRecDepth 100000
set_option maxHeartbeats 4000000
/-! Words that no law's text is needed for. -/
namespace SR
open PySem PySem.Spec PyProof.Rows L2
def rTupOf (K : PySem.W.Frag) : List V → Hp → VK → Prop := fun xs H Q => ∃ p ys, xs = [.ref p] ∧ ((SqL K H p ys ∧ ∀ l, H l = none → Q (.ref l) (upd H l (.tup ys))) ∨ (SqT K H p ys ∧ Q (.ref p) H))
theorem call_tupK {X : Cx} : CallR X (.type "tuple") (rTupOf X.K) := call_tuple_of
def rListOf (K : PySem.W.Frag) : List V → Hp → VK → Prop := fun xs H Q => ∃ p ys, xs = [.ref p] ∧ (SqL K H p ys ∨ SqT K H p ys) ∧ ∀ l, H l = none → Q (.ref l) (upd H l (.lst ys))
theorem call_listK {X : Cx} : CallR X (.type "list") (rListOf X.K) := call_list_of
mutual
theorem dp_mono {K : PySem.W.Frag} {H H' : Hp} (s : Same H H') : ∀ {v : V} {d : PyData}, Dp K H v d → Dp K H' v d
  | _, _, .non => .non
  | _, _, .bl b => .bl b
  | _, _, .int i => .int i
  | _, _, .str x => .str x
  | _, _, .lst h a => .lst (s.seq h) (dpAll_mono s a)
  | _, _, .tup h a => .tup (by
      rcases h with (h | ⟨o, h⟩) | h
      · exact .inl (.inl (s _ _ h))
      · exact .inl (.inr ⟨o, s _ _ h⟩)
      · exact .inr h) (dpAll_mono s a)
theorem dpAll_mono {K : PySem.W.Frag} {H H' : Hp} (s : Same H H') : ∀ {vs : List V} {ds : List PyData}, DpAll K H vs ds → DpAll K H' vs ds
  | _, _, .nil => .nil
  | _, _, .cons h t => .cons (dp_mono s h) (dpAll_mono s t)
end
theorem dpAll_app {K : PySem.W.Frag} {H : Hp} : ∀ {vs ws : List V} {ds es : List PyData}, DpAll K H vs ds → DpAll K H ws es → DpAll K H (vs ++ ws) (ds ++ es)
  | _, _, _, _, .nil, h => h
  | _, _, _, _, .cons a t, h => .cons a (dpAll_app t h)
theorem shaped_lst {ds : List PyData} (h : ∀ d ∈ ds, d.canLay0 = true ∧ d.depth ≤ 60) : SeqAt.shaped (.list ds) = true := shaped_of ⟨(shaped_tup h).1, Nat.le_trans (shaped_tup h).2 (by decide)⟩
theorem eqv_nilL (ds : List PyData) : PyData.eqv (.list ds) (.list []) = ds.isEmpty := by
  cases ds with
  | nil => rfl
  | cons d r => rfl
theorem rat_get {row : List Int} {r : Int} (h1 : 1 ≤ r) (h2 : r ≤ row.length) : (row.map V.int)[(r - 1).toNat]? = some (.int (rat row r)) := by
  unfold rat
  rw [List.getElem?_map, List.getD_eq_getElem?_getD, List.getElem?_eq_getElem (show (r - 1).toNat < row.length by omega)]
  rfl
def WayV (H : Hp) (v : V) (w : List Int) : Prop := ∃ t, v = .ref t ∧ H t = some (.tup (w.map V.int))
theorem dpInts {K : PySem.W.Frag} {H : Hp} : ∀ w : List Int, DpAll K H (w.map V.int) (w.map PyData.int)
  | [] => .nil
  | i :: w => .cons (.int i) (dpInts w)
theorem shaped_intsL (w : List Int) : SeqAt.shaped (.list (w.map PyData.int)) = true := shaped_lst fun d hd => by
  obtain ⟨i, _, rfl⟩ := List.mem_map.mp hd
  exact ⟨rfl, Nat.zero_le _⟩
theorem two_ways {b : Bool} {ta tb : TE} {σ : L2.St} {H : Hp} {Q : VK} (R : V → Hp → Prop) (h1 : b = true → ∀ Q' : VK, (∀ v H', R v H' → Q' v H') → ta σ H Q') (h2 : b = false → ∀ Q' : VK, (∀ v H', R v H' → Q' v H') → tb σ H Q') (hq : ∀ v H', R v H' → Q v H') :
    if b = true then ta σ H Q else tb σ H Q := by
  cases b with
  | true => exact iteT (h1 rfl Q hq)
  | false => exact iteF (h2 rfl Q hq)
def WaysV (H : Hp) (vs : List V) (ws : List (List Int)) : Prop := Paired (WayV H) vs ws
theorem WaysV.mono {H H' : Hp} (s : Same H H') {vs : List V} {ws : List (List Int)} (h : WaysV H vs ws) : WaysV H' vs ws := Paired.mapP h fun _ _ ⟨t, a, b⟩ => ⟨t, a, s _ _ b⟩
theorem WaysV.len {H : Hp} {vs : List V} {ws : List (List Int)} (h : WaysV H vs ws) : vs.length = ws.length := Paired.length h
theorem shaped_ints (w : List Int) : SeqAt.shaped (.tuple (w.map PyData.int)) = true := by
  have h := shaped_tup (k := 60) (ds := w.map PyData.int) fun d hd => by
    obtain ⟨i, _, rfl⟩ := List.mem_map.mp hd
    exact ⟨rfl, Nat.zero_le _⟩
  exact shaped_of ⟨h.1, Nat.le_trans h.2 (by decide)⟩
theorem eqv_nilT (ds : List PyData) : PyData.eqv (.tuple ds) (.tuple []) = ds.isEmpty := by
  cases ds with
  | nil => rfl
  | cons d r => rfl
theorem atI_lastD {w : List Int} (h : w ≠ []) : atI (w.map V.int) (-1) = some (.int (w.getLastD 0)) := by
  have e : w = w.dropLast ++ [w.getLastD 0] := by
    rw [List.getLastD_eq_getLast?, List.getLast?_eq_some_getLast h]
    exact (List.dropLast_concat_getLast h).symm
  rw [e, List.map_append]
  have := atI_last (w.dropLast.map V.int) (.int (w.getLastD 0))
  rw [List.getLastD_eq_getLast?, List.getLast?_eq_some_getLast h] at this ⊢
  simp only [List.map_append, List.map_cons, List.map_nil, Option.getD_some] at this ⊢
  rw [List.getLastD_eq_getLast?]
  simpa using this
theorem last_in {row : List Int} (h : row ≠ []) : row.getLastD 0 ∈ row := by
  rw [List.getLastD_eq_getLast?, List.getLast?_eq_some_getLast h]
  exact List.getLast_mem h
/-! ### small words for the law -/
theorem int_take {l : List Int} {i : Nat} {z : Int} (h : l[i]? = some z) : (l.take i).map V.int ++ [.int z] = (l.take (i + 1)).map V.int := by
  rw [List.take_add_one, h, List.map_append]
  rfl
theorem map_int_at {l : List Int} {i : Nat} {z : V} (h : (l.map V.int)[i]? = some z) : ∃ x, l[i]? = some x ∧ z = .int x := by
  rw [List.getElem?_map] at h
  cases e : l[i]? with
  | none => rw [e] at h; cases h
  | some x => rw [e] at h; exact ⟨x, rfl, (Option.some.inj h).symm⟩

def wayD (w : List Int) : PyData := .tuple (w.map PyData.int)
theorem WaysV.dp {K : PySem.W.Frag} {H : Hp} : ∀ {vs : List V} {ws : List (List Int)}, WaysV H vs ws → DpAll K H vs (ws.map wayD)
  | _, _, .nil => .nil
  | _, _, .cons ⟨t, e, h⟩ r => by
    subst e
    exact .cons (.tup (SqT.of h) (dpInts _)) (WaysV.dp r)
theorem shaped_ways (ws : List (List Int)) : SeqAt.shaped (.list (ws.map wayD)) = true := shaped_lst fun d hd => by
  obtain ⟨w, _, rfl⟩ := List.mem_map.mp hd
  have h := shaped_tup (k := 0) (ds := w.map PyData.int) fun d hd => by
    obtain ⟨i, _, rfl⟩ := List.mem_map.mp hd
    exact ⟨rfl, Nat.zero_le _⟩
  exact ⟨h.1, Nat.le_trans h.2 (by decide)⟩
theorem sorted_eq : ∀ {l m : List Int}, l.Perm m → l.Pairwise (· ≤ ·) → m.Pairwise (· ≤ ·) → l = m
  | [], m, p, _, _ => p.nil_eq
  | x :: l, [], p, _, _ => by have := p.length_eq; simp at this
  | x :: l, y :: m, p, a, b => by
    have e : x = y := by
      rw [List.pairwise_cons] at a b
      have hy : y ∈ x :: l := p.mem_iff.mpr (List.mem_cons_self ..)
      have hx : x ∈ y :: m := p.mem_iff.mp (List.mem_cons_self ..)
      have h1 : x ≤ y := by
        rcases List.mem_cons.mp hy with h | h
        · rw [h]; exact Int.le_refl _
        · exact a.1 y h
      have h2 : y ≤ x := by
        rcases List.mem_cons.mp hx with h | h
        · rw [h]; exact Int.le_refl _
        · exact b.1 x h
      omega
    subst e
    rw [List.pairwise_cons] at a b
    rw [sorted_eq p.cons_inv a.2 b.2]
theorem eqv_self_ints : ∀ w : List Int, PyData.eqvAll (w.map PyData.int) (w.map PyData.int) = true
  | [] => rfl
  | i :: w => by
    show (PyData.eqv (.int i) (.int i) && PyData.eqvAll (w.map PyData.int) (w.map PyData.int)) = true
    rw [eqv_int, decide_eq_true rfl, eqv_self_ints w]
    rfl
/-- None or an int -/
def OI (x : V) : Prop := x = .non ∨ ∃ i, x = .int i
theorem OI.dp {x : V} (h : OI x) : ∃ d, (∀ (K : PySem.W.Frag) (H : Hp), Dp K H x d) ∧ d.canLay0 = true ∧ d.depth ≤ 60 ∧ PyData.eqv d d = true := by
  rcases h with rfl | ⟨i, rfl⟩
  · exact ⟨_, fun _ _ => .non, rfl, Nat.zero_le _, rfl⟩
  · exact ⟨.int i, fun _ _ => .int i, rfl, Nat.zero_le _, by rw [eqv_int, decide_eq_true rfl]⟩
/-- two pairs of the same are equal -/
theorem eq_pair {K : PySem.W.Frag} {H : Hp} {p q : Addr} {x y : V} (hx : OI x) (hy : OI y) (hp : H p = some (.tup [x, y])) (hq : H q = some (.tup [x, y])) : ∃ d e, Dp K H (.ref p) d ∧ Dp K H (.ref q) e ∧ SeqAt.shaped d = true ∧ SeqAt.shaped e = true ∧ PyData.eqv d e = true := by
  obtain ⟨d1, a1, b1, c1, e1⟩ := hx.dp
  obtain ⟨d2, a2, b2, c2, e2⟩ := hy.dp
  have sh : SeqAt.shaped (.tuple [d1, d2]) = true := by
    have h := shaped_tup (k := 60) (ds := [d1, d2]) fun d hd => by
      have : d = d1 ∨ d = d2 := by simpa using hd
      rcases this with rfl | rfl
      · exact ⟨b1, c1⟩
      · exact ⟨b2, c2⟩
    exact shaped_of ⟨h.1, Nat.le_trans h.2 (by decide)⟩
  refine ⟨.tuple [d1, d2], .tuple [d1, d2], .tup (SqT.of hp) (.cons (a1 _ _) (.cons (a2 _ _) .nil)), .tup (SqT.of hq) (.cons (a1 _ _) (.cons (a2 _ _) .nil)), sh, sh, ?_⟩
  show (PyData.eqv d1 d1 && (PyData.eqv d2 d2 && true)) = true
  rw [e1, e2]; rfl
theorem cut_from {xs : List V} {t : Nat} (h : t ≤ xs.length) : cutV xs (some (t : Int)) none = xs.drop t := by
  unfold cutV
  rw [show HT.sIx xs.length 0 (some (t : Int)) = min t xs.length from HT.sIx_nat xs.length 0 t, HT.sIx_none, Nat.min_eq_left h]
  exact List.take_of_length_le (by rw [List.length_drop]; exact Nat.le_refl _)
theorem cut_to {xs : List V} {t : Nat} (h : t ≤ xs.length) : cutV xs none (some (t : Int)) = xs.take t := by
  unfold cutV
  rw [show HT.sIx xs.length xs.length (some (t : Int)) = min t xs.length from HT.sIx_nat xs.length xs.length t, HT.sIx_none, Nat.min_eq_left h]
  rfl
section
variable {K : PySem.W.Frag} {H : Hp} {Q : VK}
theorem sl_from {tr : Addr} {row : List Int} {t : Nat} (hr : H tr = some (.tup (row.map V.int))) (ht : t ≤ row.length) (k : ∀ v H', Same H H' → WayV H' v (row.drop t) → Q v H') : rSlA K (.ref tr) (some (t : Int)) none H Q := by
  have htl : t ≤ (row.map V.int).length := by rw [List.length_map]; exact ht
  refine ⟨tr, _, rfl, SqT.of hr, fun ⟨h1, _⟩ => ?_, fun _ p np => ?_⟩
  · rw [show HT.sIx (row.map V.int).length 0 (some (t : Int)) = min t (row.map V.int).length from HT.sIx_nat _ 0 t, Nat.min_eq_left htl] at h1
    refine k _ _ (Same.refl _) ⟨tr, rfl, ?_⟩
    rw [h1, List.drop_zero]; exact hr
  · refine k _ _ (Same_new np) ⟨p, rfl, ?_⟩
    rw [upd_same, cut_from htl, List.map_drop]
theorem sl_to {tr : Addr} {row : List Int} {t : Nat} (hr : H tr = some (.tup (row.map V.int))) (ht : t ≤ row.length) (k : ∀ v H', Same H H' → WayV H' v (row.take t) → Q v H') : rSlA K (.ref tr) none (some (t : Int)) H Q := by
  have htl : t ≤ (row.map V.int).length := by rw [List.length_map]; exact ht
  refine ⟨tr, _, rfl, SqT.of hr, fun ⟨_, h1⟩ => ?_, fun _ p np => ?_⟩
  · rw [show HT.sIx (row.map V.int).length (row.map V.int).length (some (t : Int)) = min t (row.map V.int).length from HT.sIx_nat _ _ t, Nat.min_eq_left htl, List.length_map] at h1
    refine k _ _ (Same.refl _) ⟨tr, rfl, ?_⟩
    rw [h1, List.take_length]; exact hr
  · refine k _ _ (Same_new np) ⟨p, rfl, ?_⟩
    rw [upd_same, cut_to htl, List.map_take]
theorem cat_way {x y : V} {a b : List Int} (hx : WayV H x a) (hy : WayV H y b) (hl : a.length + b.length ≤ 900) (k : ∀ v H', Same H H' → WayV H' v (a ++ b) → Q v H') : rCatA K x y H Q := by
  obtain ⟨p, rfl, hp⟩ := hx
  obtain ⟨q, rfl, hq⟩ := hy
  refine ⟨p, q, _, _, rfl, rfl, SqT.of hp, SqT.of hq, ?_, fun h => ?_, fun _ h => ?_, fun _ _ r nr => ?_⟩
  · rw [List.length_map, List.length_map]
    exact Nat.le_of_lt (small1000 (by omega))
  · have e : a = [] := List.map_eq_nil_iff.mp h
    subst e
    exact k _ _ (Same.refl _) ⟨q, rfl, hq⟩
  · have e : b = [] := List.map_eq_nil_iff.mp h
    subst e
    exact k _ _ (Same.refl _) ⟨p, rfl, by rw [List.append_nil]; exact hp⟩
  · exact k _ _ (Same_new nr) ⟨r, rfl, by rw [upd_same, List.map_append]⟩
end
theorem next_of {D : Ends} {σ : L2.St} {H : Hp} (h : D.nx σ H) : tNext D σ H := h
theorem seq_ifs {c : TT} {t rest : TS} {D : Ends} {σ : L2.St} {H : Hp} (R : Hp → Prop) (hc : ∀ Q : Bool → Hp → Prop, (∀ H1, R H1 → Q false H1) → c σ H Q) (hn : ∀ H1, R H1 → rest D σ H1) : tSeq (tIfS c t tNext) rest D σ H := hc _ fun H1 r => iteF (hn H1 r)
/-- an if statement, its two ways joined behind it -/
theorem seq_ifj {c : TT} {t u rest : TS} {D : Ends} {σ : L2.St} {H : Hp} (R : L2.St → Hp → Prop) (hc : ∀ N : L2.St → Hp → Prop, (∀ σ1 H1, R σ1 H1 → N σ1 H1) → c σ H fun b H1 => if b = true then t { D with nx := N } σ H1 else u { D with nx := N } σ H1) (hn : ∀ σ1 H1, R σ1 H1 → rest D σ1 H1) : tSeq (tIfS c t u) rest D σ H := hc (rest D) hn
theorem asc_at {l : List Int} (h : l.Pairwise (· ≤ ·)) : ∀ (a b : Nat) (x y : Int), a ≤ b → l[a]? = some x → l[b]? = some y → x ≤ y := fun a b x y hab hx hy => by
  obtain ⟨ha, rfl⟩ := List.getElem?_eq_some_iff.mp hx
  obtain ⟨hb, rfl⟩ := List.getElem?_eq_some_iff.mp hy
  by_cases e : a = b
  · subst e; exact Int.le_refl _
  · exact List.pairwise_iff_getElem.mp h a b ha hb (by omega)
theorem range_asc (m : Nat) (c : Int) : ((List.range m).map fun (i : Nat) => c + (i : Int)).Pairwise (· ≤ ·) := by
  rw [List.pairwise_map]
  exact List.pairwise_lt_range.imp fun h => by omega
def IsMin (l : List Int) (m : Int) : Prop := m ∈ l ∧ ∀ x ∈ l, m ≤ x
def IsMax (l : List Int) (m : Int) : Prop := m ∈ l ∧ ∀ x ∈ l, x ≤ m
def FirstAt (l : List Int) (m : Int) (j : Nat) : Prop := l[j]? = some m ∧ ∀ (i : Nat) (z : Int), i < j → l[i]? = some z → z ≠ m
theorem IsMin.uniq {l : List Int} {a b : Int} (h : IsMin l a) (g : IsMin l b) : a = b := Int.le_antisymm (h.2 _ g.1) (g.2 _ h.1)
theorem IsMax.uniq {l : List Int} {a b : Int} (h : IsMax l a) (g : IsMax l b) : a = b := Int.le_antisymm (g.2 _ h.1) (h.2 _ g.1)
/-! ### what the promises tell, held against all rows -/
theorem FirstAt.uniq {l : List Int} {m : Int} {i j : Nat} (h : FirstAt l m i) (g : FirstAt l m j) : i = j := by
  rcases Nat.lt_trichotomy i j with c | c | c
  · exact absurd rfl (g.2 i m c h.1)
  · exact c
  · exact absurd rfl (h.2 j m c g.1)
theorem first_of {m : Int} : ∀ {l : List Int}, m ∈ l → ∃ j, FirstAt l m j
  | x :: l, h => by
    by_cases e : x = m
    · subst e
      exact ⟨0, rfl, fun i z hi => absurd hi (Nat.not_lt_zero i)⟩
    · have h' : m ∈ l := by
        rcases List.mem_cons.mp h with h | h
        · exact absurd h.symm e
        · exact h
      obtain ⟨j, h1, h2⟩ := first_of h'
      refine ⟨j + 1, by simpa using h1, fun i z hi hz => ?_⟩
      cases i with
      | zero =>
        have : x = z := by simpa using hz
        rw [← this]; exact e
      | succ i => exact h2 i z (by omega) (by simpa using hz)
theorem min_of : ∀ {l : List Int}, l ≠ [] → ∃ m, IsMin l m
  | [], h => absurd rfl h
  | [x], _ => ⟨x, by simp, fun y hy => by rw [List.mem_singleton.mp hy]; exact Int.le_refl _⟩
  | x :: y :: l, _ => by
    obtain ⟨m, hm, hl⟩ := min_of (l := y :: l) (by simp)
    by_cases c : m ≤ x
    · refine ⟨m, List.mem_cons_of_mem _ hm, fun z hz => ?_⟩
      rcases List.mem_cons.mp hz with h | h
      · rw [h]; exact c
      · exact hl z h
    · refine ⟨x, List.mem_cons_self .., fun z hz => ?_⟩
      rcases List.mem_cons.mp hz with h | h
      · rw [h]; exact Int.le_refl _
      · have := hl z h; omega
theorem flat_ints (l : List Int) : (l.map V.int).all flatV = true := by
  rw [List.all_map]
  exact List.all_eq_true.mpr fun _ _ => rfl
theorem eqV_int (i j : Int) : eqV (.int i) (.int j) = decide (i = j) := by
  first | rfl | (show (i == j) = decide (i = j); by_cases h : i = j <;> simp [h])
theorem index_of {K : PySem.W.Frag} {H : Hp} {D : Addr} {l : List Int} {m : Int} {j : Nat} {Q : VK} (hD : SqL K H D (l.map V.int)) (f : FirstAt l m j) (q : Q (.int (j : Nat)) H) : rIndex K (.ref D) [.int m] H Q := by
  refine ⟨D, _, .int m, j, .int m, rfl, rfl, hD, rfl, flat_ints l, ?_, ?_, fun i z hi hz => ?_, q⟩
  · rw [List.getElem?_map, f.1]; rfl
  · rw [eqV_int, decide_eq_true rfl]
  · obtain ⟨x, hx, rfl⟩ := map_int_at hz
    rw [eqV_int]
    exact decide_eq_false (f.2 i x hi hx)
theorem sh2 (g R : Int) : SeqAt.shaped (.tuple [.int g, .int R]) = true := shaped_of ⟨rfl, by show max 0 (max 0 0) + 1 ≤ 64; decide⟩
theorem eq2 (g R : Int) : PyData.eqv (.tuple [.int g, .int R]) (.tuple [.int g, .int R]) = true := by
  show (PyData.eqv (.int g) (.int g) && (PyData.eqv (.int R) (.int R) && true)) = true
  rw [eqv_int, eqv_int, decide_eq_true rfl, decide_eq_true rfl]
  rfl
theorem index1 {l : List Int} {m : Int} {j : Nat} (f : FirstAt l m j) : (l.map V.int)[j]? = some (.int m) := by rw [List.getElem?_map, f.1]; rfl
theorem index2 (m : Int) : eqV (.int m) (.int m) = true := by rw [eqV_int, decide_eq_true rfl]
theorem index3 {l : List Int} {m : Int} {j : Nat} (f : FirstAt l m j) : ∀ (i : Nat) (z : V), i < j → (l.map V.int)[i]? = some z → eqV z (.int m) = false := fun i z hi hz => by
  obtain ⟨x, hx, rfl⟩ := map_int_at hz
  rw [eqV_int]
  exact decide_eq_false (f.2 i x hi hx)
theorem st_eq {t : TS} {D : Ends} {σ σ' : L2.St} {H : Hp} (h : σ = σ') (g : t D σ' H) : t D σ H := by rw [h]; exact g
def spLaw (K : PySem.W.Frag) : Sp := fun vs H Q _ => ∃ (a : Addr) (ns : List Int), vs = [.ref a] ∧ SqL K H a (ns.map V.int) ∧ ns.length ≤ 63 ∧ ∀ H', Q (.bl true) H'
theorem blkOk_eq {N : List Str} {sc sc' scope : Scope} {own : List (Str × Nat)} (h : BlkOk N sc' scope own) (e : sc.names = sc'.names) : BlkOk N sc scope own := ⟨h.kind, h.uniq, h.ix, by rw [e]; exact h.free, h.own⟩
def pick (p : Ent → Bool) (f : Ent → Int) (es : List Ent) : List Int := (es.filter p).map f
theorem pick_more {p : Ent → Bool} {f : Ent → Int} {es : List Ent} {i : Nat} {e : Ent} (h : es[i]? = some e) : pick p f (es.take (i + 1)) = pick p f (es.take i) ++ (if p e = true then [f e] else []) := by
  unfold pick
  rw [List.take_add_one, h, List.filter_append, List.map_append]
  by_cases c : p e = true
  · rw [if_pos c]; simp [c]
  · rw [if_neg c]; simp [c]
theorem pick_len {p : Ent → Bool} {f : Ent → Int} {es : List Ent} : (pick p f es).length ≤ es.length := by
  unfold pick
  rw [List.length_map]
  exact List.length_filter_le _ _
section
variable {C : Addr}
/-- a property under its name -/
def Pr (P : Program) (w : World) (K : PySem.W.Frag) (mg : Str → Option Value) (base : Heap) (C : Addr) (f : Str) (k : Nat) (sp : Sp) : Prop := ∃ p g fd, PropOf K C f p g ∧ FnOk P w K mg base CX0 k g fd ["self"] sp ∧ Binds K fd ["self"] []
theorem pe_pr {X : Cx} {f : Str} {k : Nat} {sp : Sp} {e : Expr} {ta : TE} {pos : Pos} (D : Pr X.prog X.w X.K X.mg X.base C f k sp) (c : Cls X.K C) (hr : Room (k + 1) X.A) (he : PE X e ta) (hab : attributeBase e f X.env (eval e X.env) = eval e X.env := by rfl) : PE X (.Attribute e f pos) (tProp C sp [] E0 ta) := by
  obtain ⟨p, g, fd, hp, F, b⟩ := D
  exact pe_prop he c hp F hr b .nil pass0 hab
end
end SR

set_option Elab.async false
set_option linter.all false
set_option maxRecDepth 100000
set_option maxHeartbeats 4000000
/-! Errors whose context is known to be None: words for defs that raise such ones. -/
namespace L2
open PySem PySem.Spec PyProof.Rows
theorem passLN {X : Cx} : Passes (L2N.CX X.prog X.w) X E0 := fun _ _ _ _ _ _ _ ⟨_, _, _, _, _, _, _, _, _, _, _, _, z⟩ => False.elim z
theorem takes0N {X : Cx} : L2N.Takes X (fun _ _ _ _ => False) := fun _ _ ⟨_, _, _, _, _, _, _, _, _, _, _, _, _, _, _, _, z⟩ => False.elim z
section
variable {P : Program} {w : World} {K : PySem.W.Frag} {mg : Str → Option Value} {base : Heap}
theorem Fun.okXN {x qual : Str} {st : Stmt} {f : Addr} {fd : FuncData} {N ps : List Str} {n : Nat} {sp : Sp} (F : Fun K x qual st f fd) (sc : FnScope N ps (defScope st)) (hl : ∀ vs H Q E, sp vs H Q E → vs.length = ps.length)
    (body : ∀ (cdv : Value) (A : Around) (out : List Env) (s : Shared) (H : Hp) (vs : List V) (Q : VK) (E : XK), Room n (A.deeper (envOfC qual (defScope st) s.heap.objs.size f cdv)) → sp vs H Q E →
      ∃ tm, PSs (cxOf (L2N.CX P w) P w K mg base N qual (defScope st) f cdv A out s H E) (defBody st) tm ∧ tm { nx := fun _ H' => Q .non H', rt := Q } (start N vs) H) : FnOk P w K mg base (L2N.CX P w) (n + 1) f fd ps sp := by
  obtain ⟨o1, d1, kd, dc, pr, an, cdv, ty, sl, rfl, lk, cd⟩ := F.ex
  exact fn_of lk cd sc hl fun A out s H vs Q E hr h => body cdv A out s H vs Q E hr h
end
/-- an error of a class over ValueError, its own __init__ walked: its context is None -/
theorem pmk_oexN {X : Cx} {CX : CXT} {x : Str} {C fI : Addr} {k : Nat} {fd : FuncData} {ps : List Str} {sp : Sp} {e : Expr} {es : List Expr} {ta : TA} {p pos : Pos} (T : OexC X.K C) (iC : PySem.W.findIn X.K (.ref C) "__init__" = some (some (.ref fI)))
    (tI : PySem.W.typeIn X.K (.ref fI) = some (.type "function")) (F1 : FnOk X.prog X.w X.K X.mg X.base CX k fI fd ps sp) (room : Room (k + 1) X.A) (hb : Binds X.K fd ps []) (hx : Passes CX X (fun _ _ _ => False)) (hg : Gl X x) (hm : X.mg x = some (.ref C)) (ha : PA X (e :: es) ta)
    (hdb : (x == ("__debug__" : Str)) = false := by decide) (he : starEach (e :: es) X.env = (false, eval e X.env) :: starEach es X.env := by rfl) (hpl : (backTo pos (starEach es X.env)).any (·.1) = false := by rfl) :
    L2N.PMk X (.Call (.Name x p) (e :: es) [] pos) (tMkO C sp [] ta) := by
  intro pins s σ H Q I h
  obtain ⟨nm, q0, N0, b0, bm, sn, sub, ab, col, dd, k0, k1, k2, k3, k5, oC, hbm⟩ := T.cls
  refine wpAny_Call_Name_kw (ld_glob I hg hm ?_ hdb)
  refine PySem.W.callWith_K (h₀ := X.base) I.ok.mod.kin T.kC (thn (ha.run pos pins s σ H _ I h) fun as sA ⟨ws, HA, IA, rA, lA, qA⟩ => ⟨IA.kIn, ?_⟩) he hpl
  show wpAny _ _ (call (.ref C) as) _ _ _
  obtain ⟨hp, g, dr, tk, os⟩ := sA
  have le : hp.objs.size ≤ hp.objs.size + 1 := Nat.le_succ _
  have na : HA (hp.objs.size + 1) = none := IA.hok.fresh le
  have qB := qA (hp.objs.size + 1) na
  rw [List.append_nil] at qB
  obtain ⟨hp2, e2⟩ : ∃ hp2, hp2 = (hp.push (PySem.W.kdv_tup as)).push (PySem.HandSPX.excO C hp.objs.size) := ⟨_, rfl⟩
  have stay : ∀ b o, hp.get? b = some o → hp2.get? b = some o := fun b o z => by rw [e2]; exact Heap.get?_push_of_some _ (Heap.get?_push_of_some _ z)
  have at2 : hp2.get? (hp.objs.size + 1) = some (PySem.HandSPX.excO C hp.objs.size) := by rw [e2]; heap_get
  have IB : Inv X pins σ (upd HA (hp.objs.size + 1) (exo (hp.objs.size + 1) C none)) ⟨hp2, g, dr, tk, os⟩ := IA.laid (t' := tk) (a := hp.objs.size + 1) (o := exo (hp.objs.size + 1) C none) (h' := hp2) stay le (exo_ok at2)
  have rB : Vals (V.ref (hp.objs.size + 1) :: ws) (Value.ref (hp.objs.size + 1) :: as) := .cons rfl rA
  have ln : (Value.ref (hp.objs.size + 1) :: as).length = ps.length := by rw [← rB.length]; exact F1.len _ _ _ _ qB
  have small : as.length ≤ sizeLine := by
    rw [← Paired.length rA, sizeLine_eq]
    omega
  have bn := hb ⟨hp2, g, dr, tk, os⟩ (Value.ref (hp.objs.size + 1) :: as) IB.kIn (by rw [List.append_nil]; exact ln)
  rw [List.append_nil] at bn
  have go := F1.run _ X.stack _ _ ⟨Value.ref (hp.objs.size + 1) :: as, []⟩ (Value.ref (hp.objs.size + 1) :: as) _ _ (fun _ _ _ => False) (room.make C as []) (IB.env0.make C as []) bn rB qB
  rw [e2] at go
  refine wpAny_call (PySem.HandSPX.call_own F.excBase_ValueError (fun Y => PySem.HandSPX.refsVE_contains Y bm hbm) (IA.kIn _ _ oC) (PySem.W.looks_findIn IA.kIn iC) (fun self => PySem.W.bind_fn IA.kIn self tI) small (codeAny_mono go fun r s' hq => ?_))
  cases r with
  | error er =>
    rw [e2] at IB
    exact hx pins σ _ _ er s' IB hq
  | ok fl =>
    cases fl with
    | ret u =>
      obtain ⟨v, H2, os2, bare2, un2, hok2, rv, ev, d, fs, ea, ed, hd1, q2⟩ := hq
      subst ev
      obtain ⟨h2, g2, d2, t2, os'⟩ := s'
      rw [e2] at stay
      obtain ⟨tA, G, JA, kA, gA, oA, nA⟩ := mk_end0 (d2 := d2) (t2 := t2) IA le stay un2 hok2 os2 bare2 ea ed hd1
      exact ⟨rv, _, _, _, ⟨G, g2, d2, t2, os'⟩, _, .ref C, some d, rfl, JA, kA, gA, oA, ⟨rfl, rfl, fun vs z => by cases z; rfl⟩, rfl, rfl, nA, rfl, bare2, raises_own T.exC T.tyC, q2⟩
    | next => exact False.elim hq
    | brk => exact False.elim hq
    | cont => exact False.elim hq
end L2

set_option Elab.async false
set_option linter.all false
set_option maxRecDepth 100000
set_option maxHeartbeats 4000000
/-! Own error classes without fields, whose __init__ takes nothing but self and does nothing: made by X(). -/
namespace SR
open PySem PySem.W PySem.Calls PyProof.Rows PySem.HandSPX
def nzA (p1 : Pos) : Arguments := { posonlyargs := [], args := [{ arg := "self", annotation := none, pos := p1 }], vararg := none, kwonlyargs := [], kw_defaults := [], kwarg := none, defaults := [] }
def nzB (q1 : Pos) : List Stmt := [.Pass q1]
def nzS : Scope := { kind := .function, names := [(PySem.Str.ofString "self", .local)], isGenerator := false, isCoroutine := false, more := [] }
/-- what the top says of such a class x, at C, its __init__ at fI -/
structure NzTxt (K : Frag) (mg : Str → Option Value) (x : Str) (C fI : Addr) : Prop where
  gC : mg x = some (.ref C)
  cls : ∃ nm q N bs bm sn sub ab col dd k0 k1 k2 k3 k5, K.lookup C = some (excClassObj nm q C N bs bm true sn sub ab col dd k0 k1 k2 k3 k5 "ValueError.__new__") ∧ refsVE bm = true
  iC : findIn K (.ref C) "__init__" = some (some (.ref fI))
  tC : typeIn K (.ref fI) = some (.type "function")
  kC : keepIn K (.ref C) = true
  exC : subIn K (.ref C) (.type "BaseException") = some true
  tyC : typeIn K (.ref C) = some (.type "type")
  fn : ∃ (oc : Value) (od : Option Addr) (doc pm : Value) (an : Option Addr) (kV cdv ct : Value) (osl : Array (Option Value)) (qn : Str) (p1 q1 : Pos),
    K.lookup fI = some ⟨oc, od, .func (fnOf "__init__" qn (nzA p1) (nzB q1) nzS .none kV doc pm an cdv ct), osl⟩ ∧ codeIn K cdv qn = true
theorem nz_size : ([] : List Value).length ≤ sizeLine := by
  rw [sizeLine_eq]
  exact (by decide : 0 ≤ 16777216)
section
variable {prog : Program} {w : World} {A : Around} {E : Value → Shared → Prop} {R : Result → Shared → Prop} {s : Shared} {K : Frag} {mg : Str → Option Value} {x : Str} {C fI : Addr}
theorem nz_init (T : NzTxt K mg x C fI) {a : Addr} (X : K.In s.heap) (hlim : s.heap.NoLimit) (hroom : A.depth < recursionLimit)
    (hq : ∀ h' tk, (∀ b o, s.heap.get? b = some o → h'.get? b = some o) → R (.ok (.ret .none)) { s with heap := h', toks := tk }) :
    codeAny (model prog w) A (.call (.ref fI) ⟨[.ref a], []⟩) R s := by
  obtain ⟨oc, od, doc, pm, an, kV, cdv, ct, osl, qn, p1, q1, ho, hcd⟩ := T.fn
  refine Att.call_fn (binds := [("self", .ref a)]) X hlim ho hcd hroom (BindsTo.of_eq (by first | rfl | with_unfolding_all rfl)) (by first | rfl | decide | with_unfolding_all rfl) (fun s₁ IC => ?_) rfl rfl rfl
  obtain ⟨h₁, tk₁, rfl⟩ := IC.toInCall.same
  have k : ∀ b o, s.heap.get? b = some o → h₁.get? b = some o := IC.toInCall.keep
  show wpAny _ _ (execs _ _) _ _ _
  refine wpAny_execs_cons ?_
  refine wpAny_Pass ?_
  show wpAny _ _ (execs _ _) _ _ _
  exact wpAny_execs_nil (hq h₁ tk₁ k)
theorem nz_made (T : NzTxt K mg x C fI) (X : K.In s.heap) (hlim : s.heap.NoLimit) (hroom : A.depth + 1 < recursionLimit)
    (hq : ∀ h' tk e, s.heap.objs.size ≤ e → s.heap.MadeExcOf h' e (.ref C) [] → R (.ok (.ret (.ref e))) { s with heap := h', toks := tk }) :
    codeAny (model prog w) A (.call (.ref C) ⟨[], []⟩) R s := by
  obtain ⟨nm, q, N, bs, bm, sn, sub, ab, col, dd, k0, k1, k2, k3, k5, hC, hbm⟩ := T.cls
  obtain ⟨hp, g, dr, tk, os⟩ := s
  have k : ∀ b o, hp.get? b = some o → ((hp.push (kdv_tup [])).push (excO C hp.objs.size)).get? b = some o := fun b o e => Heap.get?_push_of_some _ (Heap.get?_push_of_some _ e)
  have hget : ((hp.push (kdv_tup [])).push (excO C hp.objs.size)).get? (hp.objs.size + 1) = some (excO C hp.objs.size) := by heap_get
  have hget0 : ((hp.push (kdv_tup [])).push (excO C hp.objs.size)).get? hp.objs.size = some (kdv_tup []) := by heap_get
  have hnx : ∀ z, hp.objs.size ≤ z → hp.get? z = none := fun z hz => by
    cases e : hp.get? z with
    | none => rfl
    | some o => exact absurd (Heap.lt_size e) (Nat.not_lt.mpr hz)
  refine call_own F.excBase_ValueError (fun X => refsVE_contains X bm hbm) (X _ _ hC) (looks_findIn X T.iC) (fun self => bind_fn X self T.tC) nz_size ?_
  refine nz_init (s := ⟨(hp.push (kdv_tup [])).push (excO C hp.objs.size), g, dr, tk, os⟩) T (X.keeps k) (hlim.keeps k) ?_ fun h' tk' k' => ?_
  · show A.depth + 1 < recursionLimit
    exact hroom
  · exact ⟨rfl, hq h' tk' (hp.objs.size + 1) (Nat.le_succ _) ⟨fun b o e => k' b o (k b o e), hnx _ (Nat.le_succ _), hp.objs.size, k' _ _ hget, hnx _ (Nat.le_refl _), k' _ _ hget0⟩⟩
end
end SR
namespace SR
open PySem PySem.Spec PyProof.Rows L2
section
variable {X : Cx} {x : Str} {C fI : Addr}
theorem pmk_nz {p pos : Pos} {k : Nat} (T : NzTxt X.K X.mg x C fI) (hr : Room k X.A) (hk : 1 ≤ k) (hg : Gl X x) (hdb : (x == ("__debug__" : Str)) = false := by decide) :
    L2N.PMk X (.Call (.Name x p) [] [] pos) (fun _ H Q => Q (.ref C) none H) := by
  intro pins s σ H Q I q
  refine wpAny_Call_Name_kw (ld_glob I hg T.gC ?_ hdb)
  refine PySem.W.callWith_K0 I.kIn T.kC ?_
  refine wpAny_call (nz_made T I.kIn I.nolimit (by have := hr.dp; omega) fun h' tk' e he M => ?_)
  exact L2N.mk_of (s := ⟨s.heap, s.gens, s.drawn, tk', s.os⟩) (I.tok tk') ⟨M.keeps, M.new, M.there⟩ (raises_own T.exC T.tyC) q (I.hok.fresh he)
end
section
variable {P : Program} {w : World} {K : PySem.W.Frag} {mg : Str → Option Value} {base : Heap} {C N M fI : Addr}
/-- as Dn, but errors may leave it -/
def DnX (P : Program) (w : World) (K : PySem.W.Frag) (mg : Str → Option Value) (base : Heap) (x : Str) (ps : List Str) (k : Nat) (sp : Sp) : Prop :=
  ∃ f fd, FnOk P w K mg base (L2N.CX P w) k f fd ps sp ∧ mg x = some (.ref f) ∧ PySem.W.keepIn K (.ref f) = true ∧ Binds K fd ps []
theorem Fd.dnx {x qual : Str} {st : Stmt} {ps : List Str} {f : Addr} {fd : FuncData} {k : Nat} {sp : Sp} (d : Fd K mg x qual st ps f fd) (G : FnOk P w K mg base (L2N.CX P w) k f fd ps sp) : DnX P w K mg base x ps k sp := ⟨f, fd, G, d.g, d.F.kp, d.b⟩
/-- called where no error may leave -/
theorem pe_dn0 {X : Cx} {x : Str} {ps : List Str} {k : Nat} {sp : Sp} {e : Expr} {es : List Expr} {t : TA} {p pos : Pos} (D : DnX X.prog X.w X.K X.mg X.base x ps k sp) (hr : Room k X.A) (ha : PA X (e :: es) t) (hg : Gl X x := by rfl)
    (hdb : (x == ("__debug__" : Str)) = false := by decide) (he : starEach (e :: es) X.env = (false, eval e X.env) :: starEach es X.env := by rfl) (hpl : (backTo pos (starEach es X.env)).any (·.1) = false := by rfl) :
    PE X (.Call (.Name x p) (e :: es) [] pos) (tCall sp [] E0 t) := by
  obtain ⟨f, fd, F, hm, hk, hb⟩ := D
  exact pe_call F hr hg hm hk hb .nil passLN ha hdb he hpl
/-- called where errors are passed on -/
theorem pe_dnX {X : Cx} {W : WX} {x : Str} {ps : List Str} {k : Nat} {sp : Sp} {e : Expr} {es : List Expr} {t : TA} {p pos : Pos} (D : DnX X.prog X.w X.K X.mg X.base x ps k sp) (hr : Room k X.A) (tk : L2N.Takes X W) (ha : PA X (e :: es) t) (hg : Gl X x := by rfl)
    (hdb : (x == ("__debug__" : Str)) = false := by decide) (he : starEach (e :: es) X.env = (false, eval e X.env) :: starEach es X.env := by rfl) (hpl : (backTo pos (starEach es X.env)).any (·.1) = false := by rfl) :
    PE X (.Call (.Name x p) (e :: es) [] pos) (tCallS sp (WE W) t) := by
  obtain ⟨f, fd, F, hm, hk, hb⟩ := D
  exact pe_callS F hr hg hm hk hb (fun σ => L2N.passAt tk σ) ha hdb he hpl
end
end SR

set_option Elab.async false
set_option linter.all false
set_option maxRecDepth 100000
set_option maxHeartbeats 4000000
/-! max(xs, default=d), min(xs, default=d) over a list of ints. -/
namespace SR
open PySem PySem.W PySem.Calls PyProof.Rows
theorem upd_get {h : Heap} {a b : Addr} {f : Obj → Obj} {o : Obj} (hne : b ≠ a) (e : h.get? b = some o) : (h.update a f).get? b = some o := by rw [Heap.get?_update_other h f (Ne.symm hne)]; exact e
section
variable {prog : Program} {w : World} {A : Around} {R : Result → Shared → Prop} {I S : Addr} {fp wr : List Addr} {n : Nat} {P : Nat → Value → Prop} {St : Nat → Heap → Prop} {bt : Nat → Nat → Bool} {kw : List (Str × Value)}
theorem mx_loop (W : Walks prog w A.in1 I fp wr n P St) (hcmp : CmpOf prog w A.in1 CmpOp.Gt P bt) (hSf : S ∉ fp) : ∀ (k j : Nat) (s : Shared) (vb : Value) (c : Nat), n - (j + 1) = k → j + 1 ≤ n → St (j + 1) s.heap → P (argBest bt j) vb →
    s.heap.get? S = some { cls := .type "list", data := .seq #[vb, vb] c } →
    (∀ v h' tk, P (argBest bt (n - 1)) v → (∀ b o, b ∉ wr → b ≠ S → s.heap.get? b = some o → h'.get? b = some o) → R (.ok (.ret v)) { s with heap := h', toks := tk }) →
    codeAny (model prog w) A (.builtin "max.loop" { pos := [.ref I, .none, .ref S], kw := kw }) R s := by
  have hSw : S ∉ wr := fun h => hSf (W.sub S h)
  have hname : toString "max" ++ toString ".loop" = "max.loop" := by decide
  intro k
  induction k with
  | zero =>
    intro j s vb c hk hj hst hPb hS hR
    have hin : j + 1 = n := by omega
    refine codeAny_builtin F.entry_max_loop ?_
    rw [Around.under_plainId F.plain_max_loop]
    refine wpAny_bind (wpAny_seqItems hS rfl ?_)
    refine wpAny_bind (wpAny_tryCatch (W.done s _ _ (hin ▸ hst) fun h' tk keep => ?_))
    refine wpAny_bind (wpAny_updateSeq (keep S _ hSw hS) rfl ?_)
    refine wpAny_bind (wpAny_letGo ?_)
    refine wpAny_pure (hR vb _ tk ?_ fun b o hb hbS e => ?_)
    · rw [← hin]; exact hPb
    · exact upd_get hbS (keep b o hb e)
  | succ k ih =>
    intro j s vb c hk hj hst hPb hS hR
    have hlt : j + 1 < n := by omega
    refine codeAny_builtin F.entry_max_loop ?_
    rw [Around.under_plainId F.plain_max_loop]
    refine wpAny_bind (wpAny_seqItems hS rfl ?_)
    refine wpAny_bind (wpAny_tryCatch (W.item (j + 1) s _ _ hlt hst fun v h' tk hv hst' keep => ?_))
    refine wpAny_bind (wpAny_pure ?_)
    refine wpAny_bind (wpAny_tryCatch (wpAny_holding (wpAny_bind (hcmp (j + 1) (argBest bt j) v vb _ _ _ hv hPb ?_))))
    refine wpAny_bind (wpAny_holding (wpAny_truthy_bool ?_))
    refine wpAny_bind (wpAny_letGo ?_)
    refine wpAny_pure ?_
    have hS' := keep S _ hSw hS
    have eb : argBest bt (j + 1) = if bt (j + 1) (argBest bt j) = true then j + 1 else argBest bt j := rfl
    by_cases hb : bt (j + 1) (argBest bt j) = true
    · rw [if_pos hb] at eb ⊢
      refine wpAny_bind (wpAny_updateSeq hS' rfl ?_)
      refine wpAny_bind (wpAny_letGo ?_)
      rw [hname]
      refine wpAny_pure ⟨plainId_quiet F.plain_max_loop _, ?_⟩
      refine ih (j + 1) _ v c (by omega) (by omega) ?_ (by rw [eb]; exact hv) ?_ ?_
      · exact W.frame _ _ _ hst' fun b hb2 o e => upd_get (fun z => hSf (by rw [← z]; exact hb2)) e
      · exact Heap.get?_update_self _ hS' rfl
      · intro v2 h2 tk2 hv2 k2
        exact hR v2 h2 tk2 hv2 fun b o hbw hbS e => k2 b o hbw hbS (upd_get hbS (keep b o hbw e))
    · rw [if_neg hb] at eb ⊢
      refine wpAny_bind (wpAny_letGo ?_)
      rw [hname]
      refine wpAny_pure ⟨plainId_quiet F.plain_max_loop _, ?_⟩
      refine ih (j + 1) _ vb c (by omega) (by omega) hst' (by rw [eb]; exact hPb) hS' ?_
      intro v2 h2 tk2 hv2 k2
      exact hR v2 h2 tk2 hv2 fun b o hbw hbS e => k2 b o hbw hbS (keep b o hbw e)
/-- the first item -/
theorem mx_first (W : Walks prog w A.in1 I fp wr n P St) (hcmp : CmpOf prog w A.in1 CmpOp.Gt P bt) (hSf : S ∉ fp) (hn : 0 < n) {s : Shared} {c : Nat} (hst : St 0 s.heap)
    (hS : s.heap.get? S = some { cls := .type "list", data := .seq #[] c })
    (hR : ∀ v h' tk, P (argBest bt (n - 1)) v → (∀ b o, b ∉ wr → b ≠ S → s.heap.get? b = some o → h'.get? b = some o) → R (.ok (.ret v)) { s with heap := h', toks := tk }) :
    codeAny (model prog w) A (.builtin "max.loop" { pos := [.ref I, .none, .ref S], kw := kw }) R s := by
  have hSw : S ∉ wr := fun h => hSf (W.sub S h)
  have hname : toString "max" ++ toString ".loop" = "max.loop" := by decide
  refine codeAny_builtin F.entry_max_loop ?_
  rw [Around.under_plainId F.plain_max_loop]
  refine wpAny_bind (wpAny_seqItems hS rfl ?_)
  refine wpAny_bind (wpAny_tryCatch (W.item 0 s _ _ hn hst fun v h' tk hv hst' keep => ?_))
  refine wpAny_bind (wpAny_pure ?_)
  have hS' := keep S _ hSw hS
  refine wpAny_bind (wpAny_updateSeq hS' rfl ?_)
  rw [hname]
  refine wpAny_pure ⟨plainId_quiet F.plain_max_loop _, ?_⟩
  have hS2 := Heap.get?_update_self (Obj.mapSeq fun _ => #[v, v]) hS' rfl
  refine mx_loop W hcmp hSf _ 0 _ v _ rfl (by omega) ?_ hv hS2 ?_
  · exact W.frame _ _ _ hst' fun b hb2 o e => upd_get (fun z => hSf (by rw [← z]; exact hb2)) e
  · intro v2 h2 tk2 hv2 k2
    exact hR v2 h2 tk2 hv2 fun b o hbw hbS e => k2 b o hbw hbS (upd_get hbS (keep b o hbw e))
/-- no item: the default -/
theorem mx_none (W : Walks prog w A.in1 I fp wr 0 P St) (hSf : S ∉ fp) {s : Shared} {c : Nat} {d : Value} {x : Str} (hst : St 0 s.heap)
    (hS : s.heap.get? S = some { cls := .type "list", data := .seq #[] c })
    (hR : ∀ h' tk, (∀ b o, b ∉ wr → b ≠ S → s.heap.get? b = some o → h'.get? b = some o) → R (.ok (.ret d)) { s with heap := h', toks := tk }) :
    codeAny (model prog w) A (.builtin "max.loop" { pos := [.ref I, .none, .ref S], kw := [(x, d)] }) R s := by
  refine codeAny_builtin F.entry_max_loop ?_
  rw [Around.under_plainId F.plain_max_loop]
  refine wpAny_bind (wpAny_seqItems hS rfl ?_)
  refine wpAny_bind (wpAny_tryCatch (W.done s _ _ hst fun h' tk keep => ?_))
  refine wpAny_bind (wpAny_rule ?_)
  exact wpAny_pure (hR h' tk fun b o hb _ e => keep b o hb e)
end
theorem ints_at : ∀ {its : List Value} {ns : List Int} {i : Nat} {v : Value}, IntsAre its ns → its[i]? = some v → ∃ t, v = .int (ns.getD i 0) t
  | _, _, _, _, .nil, e => by simp at e
  | _, _, 0, _, .cons n t _, e => ⟨t, by simpa using e.symm⟩
  | _, _, i + 1, _, .cons n t h, e => by
    obtain ⟨t', e'⟩ := ints_at (i := i) h (by simpa using e)
    exact ⟨t', by simpa using e'⟩
theorem getD_in {l : List Int} {i : Nat} (h : i < l.length) : l.getD i 0 ∈ l := by
  rw [List.getD_eq_getElem?_getD, List.getElem?_eq_getElem h]
  exact List.getElem_mem _
/-- max(l, default=d) -/
theorem max_dflt {prog : Program} {w : World} {A : Around} {E : Value → Shared → Prop} {s : Shared} {l : Addr} {its : List Value} {ns : List Int} {d : Value} {Q : Value → Shared → Prop} (hh : A.handled = none) (hl : s.heap.IsList l its.toArray) (hi : IntsAre its ns)
    (h0 : ns = [] → ∀ (h' : Heap) (tk : Nat), (∀ b o, s.heap.get? b = some o → h'.get? b = some o) → Q d { s with heap := h', toks := tk })
    (h : ∀ (h' : Heap) (tk : Nat) (m : Int) (t' : Tok), (∀ b o, s.heap.get? b = some o → h'.get? b = some o) → m ∈ ns → (∀ a ∈ ns, a ≤ m) → Q (.int m t') { s with heap := h', toks := tk }) :
    wpAny (model prog w) A (call (.builtin "max") [.ref l] [("default", d)]) Q E s := by
  have hname : toString "max" ++ toString ".loop" = "max.loop" := by decide
  have hlen : its.length = ns.length := hi.length
  obtain ⟨ol, hol, hoc, hod⟩ := id hl
  have hll := Heap.lt_size hol
  refine kmk_tree F.kind_max F.plain_max F.entry_max rfl ?_
  refine wpAny_bind (wpAny_of_eq (show _ = pure [none, some d] from rfl) ?_)
  refine wpAny_bind (wpAny_pure ?_)
  refine wpAny_bind (wpAny_pyIter_list hl ?_)
  refine wpAny_bind (wpAny_newList ?_)
  rw [hname]
  refine wpAny_pure ⟨plainId_quiet F.plain_max_loop _, ?_⟩
  have k1 : ∀ b o, s.heap.get? b = some o → ((s.heap.push { cls := .type "list_iterator", data := .fields #[.ref l, .int 0 0] }).push { cls := .type "list", data := .seq #[] }).get? b = some o := fun b o e => Heap.get?_push_of_some _ (Heap.get?_push_of_some _ e)
  have gI : ((s.heap.push { cls := .type "list_iterator", data := .fields #[.ref l, .int 0 0] }).push { cls := .type "list", data := .seq #[] }).get? s.heap.objs.size = some { cls := .type "list_iterator", data := .fields #[.ref l, .int 0 0] } := by heap_get
  have gS : ((s.heap.push { cls := .type "list_iterator", data := .fields #[.ref l, .int 0 0] }).push { cls := .type "list", data := .seq #[] }).get? (s.heap.push { cls := .type "list_iterator", data := .fields #[.ref l, .int 0 0] }).objs.size = some { cls := .type "list", data := .seq #[] } := by heap_get
  have hS : (s.heap.push { cls := .type "list_iterator", data := .fields #[.ref l, .int 0 0] }).objs.size = s.heap.objs.size + 1 := Heap.size_push ..
  have W := Walks.list (prog := prog) (w := w) (A := A.in1) hh s.heap.objs.size l (Nat.ne_of_lt hll) its.toArray
  have hSf : (s.heap.push { cls := .type "list_iterator", data := .fields #[.ref l, .int 0 0] }).objs.size ∉ [s.heap.objs.size, l] := by
    rw [hS]
    intro hm
    rcases List.mem_cons.mp hm with e | e
    · exact Nat.succ_ne_self _ e
    · have e2 : s.heap.objs.size + 1 = l := List.mem_singleton.mp e
      exact absurd hll (by rw [← e2]; exact Nat.not_lt.mpr (Nat.le_succ _))
  have fresh : ∀ b o, s.heap.get? b = some o → b ∉ [s.heap.objs.size] ∧ b ≠ (s.heap.push { cls := .type "list_iterator", data := .fields #[.ref l, .int 0 0] }).objs.size := fun b o e => by
    have hb : b < s.heap.objs.size := Heap.lt_size e
    rw [hS]
    exact ⟨fun hm => Nat.ne_of_lt hb (List.mem_singleton.mp hm), Nat.ne_of_lt (Nat.lt_succ_of_lt hb)⟩
  have st0 : Heap.IsListIter ((s.heap.push { cls := .type "list_iterator", data := .fields #[.ref l, .int 0 0] }).push { cls := .type "list", data := .seq #[] }) s.heap.objs.size l 0 ∧ Heap.IsList ((s.heap.push { cls := .type "list_iterator", data := .fields #[.ref l, .int 0 0] }).push { cls := .type "list", data := .seq #[] }) l its.toArray := ⟨⟨_, gI, rfl, rfl⟩, ⟨ol, k1 _ _ hol, hoc, hod⟩⟩
  cases ns with
  | nil =>
    have e0 : its = [] := List.length_eq_zero_iff.mp hlen
    subst e0
    refine mx_none W hSf st0 gS fun h' tk keep => ?_
    exact h0 rfl h' tk fun b o e => keep b o (fresh b o e).1 (fresh b o e).2 (k1 b o e)
  | cons z zs =>
    have hsz : its.toArray.size = zs.length + 1 := by rw [List.size_toArray, hlen]; rfl
    refine mx_first W (CmpOf.ints_gt (fun i => (z :: zs).getD i 0) fun i v hv => ints_at hi (by simpa using hv)) hSf (by omega) st0 gS fun v h' tk hv keep => ?_
    obtain ⟨t, rfl⟩ := ints_at hi (i := argBest (fun i j => decide ((z :: zs).getD i 0 > (z :: zs).getD j 0)) (its.toArray.size - 1)) (v := v) (by simpa using hv)
    obtain ⟨a1, a2⟩ := argBest_gt (fun i => (z :: zs).getD i 0) (its.toArray.size - 1)
    refine h h' tk _ t (fun b o e => keep b o (fresh b o e).1 (fresh b o e).2 (k1 b o e)) (getD_in (by rw [List.length_cons]; omega)) fun x hx => ?_
    obtain ⟨i, hi', rfl⟩ := List.mem_iff_getElem.mp hx
    have := a2 i (by rw [List.length_cons] at hi'; omega)
    rw [List.getD_eq_getElem?_getD (i := i), List.getElem?_eq_getElem hi'] at this
    exact this
end SR

set_option Elab.async false
set_option linter.all false
set_option maxRecDepth 100000
set_option maxHeartbeats 4000000
namespace SR
open PySem PySem.W PySem.Calls PyProof.Rows
section
variable {prog : Program} {w : World} {A : Around} {R : Result → Shared → Prop} {I S : Addr} {fp wr : List Addr} {n : Nat} {P : Nat → Value → Prop} {St : Nat → Heap → Prop} {bt : Nat → Nat → Bool} {kw : List (Str × Value)}
theorem mn_loop (W : Walks prog w A.in1 I fp wr n P St) (hcmp : CmpOf prog w A.in1 CmpOp.Lt P bt) (hSf : S ∉ fp) : ∀ (k j : Nat) (s : Shared) (vb : Value) (c : Nat), n - (j + 1) = k → j + 1 ≤ n → St (j + 1) s.heap → P (argBest bt j) vb →
    s.heap.get? S = some { cls := .type "list", data := .seq #[vb, vb] c } →
    (∀ v h' tk, P (argBest bt (n - 1)) v → (∀ b o, b ∉ wr → b ≠ S → s.heap.get? b = some o → h'.get? b = some o) → R (.ok (.ret v)) { s with heap := h', toks := tk }) →
    codeAny (model prog w) A (.builtin "min.loop" { pos := [.ref I, .none, .ref S], kw := kw }) R s := by
  have hSw : S ∉ wr := fun h => hSf (W.sub S h)
  have hname : toString "min" ++ toString ".loop" = "min.loop" := by decide
  intro k
  induction k with
  | zero =>
    intro j s vb c hk hj hst hPb hS hR
    have hin : j + 1 = n := by omega
    refine codeAny_builtin F.entry_min_loop ?_
    rw [Around.under_plainId F.plain_min_loop]
    refine wpAny_bind (wpAny_seqItems hS rfl ?_)
    refine wpAny_bind (wpAny_tryCatch (W.done s _ _ (hin ▸ hst) fun h' tk keep => ?_))
    refine wpAny_bind (wpAny_updateSeq (keep S _ hSw hS) rfl ?_)
    refine wpAny_bind (wpAny_letGo ?_)
    refine wpAny_pure (hR vb _ tk ?_ fun b o hb hbS e => ?_)
    · rw [← hin]; exact hPb
    · exact upd_get hbS (keep b o hb e)
  | succ k ih =>
    intro j s vb c hk hj hst hPb hS hR
    have hlt : j + 1 < n := by omega
    refine codeAny_builtin F.entry_min_loop ?_
    rw [Around.under_plainId F.plain_min_loop]
    refine wpAny_bind (wpAny_seqItems hS rfl ?_)
    refine wpAny_bind (wpAny_tryCatch (W.item (j + 1) s _ _ hlt hst fun v h' tk hv hst' keep => ?_))
    refine wpAny_bind (wpAny_pure ?_)
    refine wpAny_bind (wpAny_tryCatch (wpAny_holding (wpAny_bind (hcmp (j + 1) (argBest bt j) v vb _ _ _ hv hPb ?_))))
    refine wpAny_bind (wpAny_holding (wpAny_truthy_bool ?_))
    refine wpAny_bind (wpAny_letGo ?_)
    refine wpAny_pure ?_
    have hS' := keep S _ hSw hS
    have eb : argBest bt (j + 1) = if bt (j + 1) (argBest bt j) = true then j + 1 else argBest bt j := rfl
    by_cases hb : bt (j + 1) (argBest bt j) = true
    · rw [if_pos hb] at eb ⊢
      refine wpAny_bind (wpAny_updateSeq hS' rfl ?_)
      refine wpAny_bind (wpAny_letGo ?_)
      rw [hname]
      refine wpAny_pure ⟨plainId_quiet F.plain_min_loop _, ?_⟩
      refine ih (j + 1) _ v c (by omega) (by omega) ?_ (by rw [eb]; exact hv) ?_ ?_
      · exact W.frame _ _ _ hst' fun b hb2 o e => upd_get (fun z => hSf (by rw [← z]; exact hb2)) e
      · exact Heap.get?_update_self _ hS' rfl
      · intro v2 h2 tk2 hv2 k2
        exact hR v2 h2 tk2 hv2 fun b o hbw hbS e => k2 b o hbw hbS (upd_get hbS (keep b o hbw e))
    · rw [if_neg hb] at eb ⊢
      refine wpAny_bind (wpAny_letGo ?_)
      rw [hname]
      refine wpAny_pure ⟨plainId_quiet F.plain_min_loop _, ?_⟩
      refine ih (j + 1) _ vb c (by omega) (by omega) hst' (by rw [eb]; exact hPb) hS' ?_
      intro v2 h2 tk2 hv2 k2
      exact hR v2 h2 tk2 hv2 fun b o hbw hbS e => k2 b o hbw hbS (keep b o hbw e)
/-- the first item -/
theorem mn_first (W : Walks prog w A.in1 I fp wr n P St) (hcmp : CmpOf prog w A.in1 CmpOp.Lt P bt) (hSf : S ∉ fp) (hn : 0 < n) {s : Shared} {c : Nat} (hst : St 0 s.heap)
    (hS : s.heap.get? S = some { cls := .type "list", data := .seq #[] c })
    (hR : ∀ v h' tk, P (argBest bt (n - 1)) v → (∀ b o, b ∉ wr → b ≠ S → s.heap.get? b = some o → h'.get? b = some o) → R (.ok (.ret v)) { s with heap := h', toks := tk }) :
    codeAny (model prog w) A (.builtin "min.loop" { pos := [.ref I, .none, .ref S], kw := kw }) R s := by
  have hSw : S ∉ wr := fun h => hSf (W.sub S h)
  have hname : toString "min" ++ toString ".loop" = "min.loop" := by decide
  refine codeAny_builtin F.entry_min_loop ?_
  rw [Around.under_plainId F.plain_min_loop]
  refine wpAny_bind (wpAny_seqItems hS rfl ?_)
  refine wpAny_bind (wpAny_tryCatch (W.item 0 s _ _ hn hst fun v h' tk hv hst' keep => ?_))
  refine wpAny_bind (wpAny_pure ?_)
  have hS' := keep S _ hSw hS
  refine wpAny_bind (wpAny_updateSeq hS' rfl ?_)
  rw [hname]
  refine wpAny_pure ⟨plainId_quiet F.plain_min_loop _, ?_⟩
  have hS2 := Heap.get?_update_self (Obj.mapSeq fun _ => #[v, v]) hS' rfl
  refine mn_loop W hcmp hSf _ 0 _ v _ rfl (by omega) ?_ hv hS2 ?_
  · exact W.frame _ _ _ hst' fun b hb2 o e => upd_get (fun z => hSf (by rw [← z]; exact hb2)) e
  · intro v2 h2 tk2 hv2 k2
    exact hR v2 h2 tk2 hv2 fun b o hbw hbS e => k2 b o hbw hbS (upd_get hbS (keep b o hbw e))
/-- no item: the default -/
theorem mn_none (W : Walks prog w A.in1 I fp wr 0 P St) (hSf : S ∉ fp) {s : Shared} {c : Nat} {d : Value} {x : Str} (hst : St 0 s.heap)
    (hS : s.heap.get? S = some { cls := .type "list", data := .seq #[] c })
    (hR : ∀ h' tk, (∀ b o, b ∉ wr → b ≠ S → s.heap.get? b = some o → h'.get? b = some o) → R (.ok (.ret d)) { s with heap := h', toks := tk }) :
    codeAny (model prog w) A (.builtin "min.loop" { pos := [.ref I, .none, .ref S], kw := [(x, d)] }) R s := by
  refine codeAny_builtin F.entry_min_loop ?_
  rw [Around.under_plainId F.plain_min_loop]
  refine wpAny_bind (wpAny_seqItems hS rfl ?_)
  refine wpAny_bind (wpAny_tryCatch (W.done s _ _ hst fun h' tk keep => ?_))
  refine wpAny_bind (wpAny_rule ?_)
  exact wpAny_pure (hR h' tk fun b o hb _ e => keep b o hb e)
end
/-- min(l, default=d) -/
theorem min_dflt {prog : Program} {w : World} {A : Around} {E : Value → Shared → Prop} {s : Shared} {l : Addr} {its : List Value} {ns : List Int} {d : Value} {Q : Value → Shared → Prop} (hh : A.handled = none) (hl : s.heap.IsList l its.toArray) (hi : IntsAre its ns)
    (h0 : ns = [] → ∀ (h' : Heap) (tk : Nat), (∀ b o, s.heap.get? b = some o → h'.get? b = some o) → Q d { s with heap := h', toks := tk })
    (h : ∀ (h' : Heap) (tk : Nat) (m : Int) (t' : Tok), (∀ b o, s.heap.get? b = some o → h'.get? b = some o) → m ∈ ns → (∀ a ∈ ns, m ≤ a) → Q (.int m t') { s with heap := h', toks := tk }) :
    wpAny (model prog w) A (call (.builtin "min") [.ref l] [("default", d)]) Q E s := by
  have hname : toString "min" ++ toString ".loop" = "min.loop" := by decide
  have hlen : its.length = ns.length := hi.length
  obtain ⟨ol, hol, hoc, hod⟩ := id hl
  have hll := Heap.lt_size hol
  refine kmk_tree F.kind_min F.plain_min F.entry_min rfl ?_
  refine wpAny_bind (wpAny_of_eq (show _ = pure [none, some d] from rfl) ?_)
  refine wpAny_bind (wpAny_pure ?_)
  refine wpAny_bind (wpAny_pyIter_list hl ?_)
  refine wpAny_bind (wpAny_newList ?_)
  rw [hname]
  refine wpAny_pure ⟨plainId_quiet F.plain_min_loop _, ?_⟩
  have k1 : ∀ b o, s.heap.get? b = some o → ((s.heap.push { cls := .type "list_iterator", data := .fields #[.ref l, .int 0 0] }).push { cls := .type "list", data := .seq #[] }).get? b = some o := fun b o e => Heap.get?_push_of_some _ (Heap.get?_push_of_some _ e)
  have gI : ((s.heap.push { cls := .type "list_iterator", data := .fields #[.ref l, .int 0 0] }).push { cls := .type "list", data := .seq #[] }).get? s.heap.objs.size = some { cls := .type "list_iterator", data := .fields #[.ref l, .int 0 0] } := by heap_get
  have gS : ((s.heap.push { cls := .type "list_iterator", data := .fields #[.ref l, .int 0 0] }).push { cls := .type "list", data := .seq #[] }).get? (s.heap.push { cls := .type "list_iterator", data := .fields #[.ref l, .int 0 0] }).objs.size = some { cls := .type "list", data := .seq #[] } := by heap_get
  have hS : (s.heap.push { cls := .type "list_iterator", data := .fields #[.ref l, .int 0 0] }).objs.size = s.heap.objs.size + 1 := Heap.size_push ..
  have W := Walks.list (prog := prog) (w := w) (A := A.in1) hh s.heap.objs.size l (Nat.ne_of_lt hll) its.toArray
  have hSf : (s.heap.push { cls := .type "list_iterator", data := .fields #[.ref l, .int 0 0] }).objs.size ∉ [s.heap.objs.size, l] := by
    rw [hS]
    intro hm
    rcases List.mem_cons.mp hm with e | e
    · exact Nat.succ_ne_self _ e
    · have e2 : s.heap.objs.size + 1 = l := List.mem_singleton.mp e
      exact absurd hll (by rw [← e2]; exact Nat.not_lt.mpr (Nat.le_succ _))
  have fresh : ∀ b o, s.heap.get? b = some o → b ∉ [s.heap.objs.size] ∧ b ≠ (s.heap.push { cls := .type "list_iterator", data := .fields #[.ref l, .int 0 0] }).objs.size := fun b o e => by
    have hb : b < s.heap.objs.size := Heap.lt_size e
    rw [hS]
    exact ⟨fun hm => Nat.ne_of_lt hb (List.mem_singleton.mp hm), Nat.ne_of_lt (Nat.lt_succ_of_lt hb)⟩
  have st0 : Heap.IsListIter ((s.heap.push { cls := .type "list_iterator", data := .fields #[.ref l, .int 0 0] }).push { cls := .type "list", data := .seq #[] }) s.heap.objs.size l 0 ∧ Heap.IsList ((s.heap.push { cls := .type "list_iterator", data := .fields #[.ref l, .int 0 0] }).push { cls := .type "list", data := .seq #[] }) l its.toArray := ⟨⟨_, gI, rfl, rfl⟩, ⟨ol, k1 _ _ hol, hoc, hod⟩⟩
  cases ns with
  | nil =>
    have e0 : its = [] := List.length_eq_zero_iff.mp hlen
    subst e0
    refine mn_none W hSf st0 gS fun h' tk keep => ?_
    exact h0 rfl h' tk fun b o e => keep b o (fresh b o e).1 (fresh b o e).2 (k1 b o e)
  | cons z zs =>
    have hsz : its.toArray.size = zs.length + 1 := by rw [List.size_toArray, hlen]; rfl
    refine mn_first W (CmpOf.ints_lt (fun i => (z :: zs).getD i 0) fun i v hv => ints_at hi (by simpa using hv)) hSf (by omega) st0 gS fun v h' tk hv keep => ?_
    obtain ⟨t, rfl⟩ := ints_at hi (i := argBest (fun i j => decide ((z :: zs).getD i 0 < (z :: zs).getD j 0)) (its.toArray.size - 1)) (v := v) (by simpa using hv)
    obtain ⟨a1, a2⟩ := argBest_lt (fun i => (z :: zs).getD i 0) (its.toArray.size - 1)
    refine h h' tk _ t (fun b o e => keep b o (fresh b o e).1 (fresh b o e).2 (k1 b o e)) (getD_in (by rw [List.length_cons]; omega)) fun x hx => ?_
    obtain ⟨i, hi', rfl⟩ := List.mem_iff_getElem.mp hx
    have := a2 i (by rw [List.length_cons] at hi'; omega)
    rw [List.getD_eq_getElem?_getD (i := i), List.getElem?_eq_getElem hi'] at this
    exact this
end SR
namespace SR
open PySem PySem.Spec PyProof.Rows L2
/-- the greatest, the least number of a list, d if there is none -/
def OptMax (l : List Int) (d x : V) : Prop := (l = [] ∧ x = d) ∨ ∃ m, x = .int m ∧ m ∈ l ∧ ∀ a ∈ l, a ≤ m
def OptMin (l : List Int) (d x : V) : Prop := (l = [] ∧ x = d) ∨ ∃ m, x = .int m ∧ m ∈ l ∧ ∀ a ∈ l, m ≤ a
def rMaxD (K : PySem.W.Frag) : List V → List V → Hp → VK → Prop := fun vs zs H Q => ∃ (a : Addr) (ns : List Int) (d : V), vs = [.ref a] ∧ zs = [d] ∧ SqL K H a (ns.map V.int) ∧ ∀ x, OptMax ns d x → Q x H
def rMinD (K : PySem.W.Frag) : List V → List V → Hp → VK → Prop := fun vs zs H Q => ∃ (a : Addr) (ns : List Int) (d : V), vs = [.ref a] ∧ zs = [d] ∧ SqL K H a (ns.map V.int) ∧ ∀ x, OptMin ns d x → Q x H
theorem cr_maxD {X : Cx} (hc : X.calm = true) : CallRK X (.builtin "max") ["default"] (rMaxD X.K) := by
  intro pins s σ H xs zs us ws Q I r1 r2 h
  obtain ⟨a, ns, d, rfl, rfl, hs, h1⟩ := h
  obtain ⟨its, rv, hl, _⟩ := I.list hs
  rw [Vals.ref1 r1]
  cases r2 with
  | cons rd rn =>
    rename_i d' ws'
    cases rn
    show wpAny _ _ (call (.builtin "max") [.ref a] [("default", d')]) _ _ _
    refine max_dflt (I.ok.hd hc) hl.isList (Vals.ints rv) (fun e h' tk k => ?_) (fun h' tk m t' k hm hle => ?_)
    · exact ⟨d, H, I.kept k, rd, h1 _ (.inl ⟨e, rfl⟩)⟩
    · exact ⟨.int m, H, I.kept k, ⟨t', rfl⟩, h1 _ (.inr ⟨m, rfl, hm, hle⟩)⟩
theorem cr_minD {X : Cx} (hc : X.calm = true) : CallRK X (.builtin "min") ["default"] (rMinD X.K) := by
  intro pins s σ H xs zs us ws Q I r1 r2 h
  obtain ⟨a, ns, d, rfl, rfl, hs, h1⟩ := h
  obtain ⟨its, rv, hl, _⟩ := I.list hs
  rw [Vals.ref1 r1]
  cases r2 with
  | cons rd rn =>
    rename_i d' ws'
    cases rn
    show wpAny _ _ (call (.builtin "min") [.ref a] [("default", d')]) _ _ _
    refine min_dflt (I.ok.hd hc) hl.isList (Vals.ints rv) (fun e h' tk k => ?_) (fun h' tk m t' k hm hle => ?_)
    · exact ⟨d, H, I.kept k, rd, h1 _ (.inl ⟨e, rfl⟩)⟩
    · exact ⟨.int m, H, I.kept k, ⟨t', rfl⟩, h1 _ (.inr ⟨m, rfl, hm, hle⟩)⟩
end SR

set_option Elab.async false
set_option linter.all false
set_option maxRecDepth 100000
set_option maxHeartbeats 4000000
/-! sorted(t), t a tuple of ints. -/
namespace SR
open PySem PySem.W PySem.Calls PyProof.Rows
theorem collect_tup {prog : Program} {w : World} {A : Around} {E : Value → Shared → Prop} {s : Shared} {l : Addr} {vs : List Value} {Q : List Value → Shared → Prop} (hl : IsTup s.heap l vs.toArray) (hz : vs.length ≤ sizeLine)
    (h : Q vs { s with heap := (s.heap.push { cls := .type "list", data := .seq #[] }).update s.heap.objs.size (Obj.mapSeq fun x => x ++ vs.toArray) }) : wpAny (model prog w) A (collect (.ref l)) Q E s := by
  obtain ⟨ol, hol, hoc, nn, hod⟩ := hl
  have gS : (s.heap.push { cls := .type "list", data := .seq #[] }).get? s.heap.objs.size = some { cls := .type "list", data := .seq #[] } := Heap.get?_push_size _ rfl
  have gS2 := Heap.get?_update_self (Obj.mapSeq fun x => x ++ vs.toArray) gS rfl
  have ev : (#[] ++ vs.toArray).toList = vs := by simp
  refine wpAny_bind (wpAny_runValue (codeAny_builtin F.entry_proto_collect ?_))
  rw [Around.under_plainId F.plain_proto_collect]
  refine wpAny_bind (wpAny_newObj_type (wpAny_pure ⟨plainId_quiet F.plain_list_iadd _, codeAny_builtin F.entry_list_iadd ?_⟩))
  rw [Around.under_plainId F.plain_list_iadd]
  refine wpAny_mono (wpAny_extend_seq (R := fun r s' => r = .ok (.ret (.ref s.heap.objs.size)) ∧ s' = { s with heap := (s.heap.push { cls := .type "list", data := .seq #[] }).update s.heap.objs.size (Obj.mapSeq fun x => x ++ vs.toArray) }) s.heap.objs.size l (.ref s.heap.objs.size) 0 (.inr rfl) gS (Heap.get?_push_of_some _ hol) hoc hod ⟨rfl, rfl⟩ (by rw [List.size_toArray]; exact hz)) (fun fin s' hf => ?_) (fun e s' he => by cases he.1)
  cases fin with
  | done f =>
    obtain ⟨e1, rfl⟩ := hf
    cases e1
    refine wpAny_bind (wpAny_load gS2 ?_)
    refine wpAny_pure ?_
    rw [ev]
    exact h
  | again c' =>
    refine ⟨hf.1, codeAny_mono hf.2 fun r s'' hr => ?_⟩
    obtain ⟨rfl, rfl⟩ := hr
    refine wpAny_bind (wpAny_load gS2 ?_)
    refine wpAny_pure ?_
    rw [ev]
    exact h
theorem sorted_tup {prog : Program} {w : World} {A : Around} {E : Value → Shared → Prop} {s : Shared} {l : Addr} {vs : List Value} {ns : List Int} {Q : Value → Shared → Prop} (hl : IsTup s.heap l vs.toArray) (hz : vs.length ≤ sizeLine) (hi : IntsAre vs ns)
    (h : ∀ (h' : Heap) (p : Addr) (out : List Value) (ns' : List Int), (∀ b o, s.heap.get? b = some o → h'.get? b = some o) → s.heap.objs.size ≤ p → (∃ e, h'.get? p = some (seqObj "list" out.toArray e)) → IntsAre out ns' → ns'.Perm ns → ns'.Pairwise (· ≤ ·) → Q (.ref p) { s with heap := h' }) :
    wpAny (model prog w) A (call (.builtin "sorted") [.ref l]) Q E s := by
  refine call_function_entry kind_sorted plain_sorted entry_sorted (args_sorted1 (.ref l)) ?_
  refine wpAny_bind (wpAny_pure ?_)
  refine wpAny_bind (collect_tup hl hz ?_)
  obtain ⟨h1, e1⟩ : ∃ h1, h1 = (s.heap.push { cls := .type "list", data := .seq #[] }).update s.heap.objs.size (Obj.mapSeq fun x => x ++ vs.toArray) := ⟨_, rfl⟩
  have hsz : h1.objs.size = s.heap.objs.size + 1 := by rw [e1, Heap.size_update, Heap.size_push]
  have keep : ∀ b o, s.heap.get? b = some o → h1.get? b = some o := fun b o e => by
    rw [e1]
    exact upd_get (Nat.ne_of_lt (Heap.lt_size e)) (Heap.get?_push_of_some _ e)
  rw [← e1]
  refine wpAny_bind (wpAny_newList ?_ (by simpa using hz))
  have hoL : (h1.push { cls := .type "list", data := .seq (vs.toArray.toList).toArray }).get? h1.objs.size = some (seqObj "list" vs.toArray 0) := Heap.get?_push_size _ rfl
  refine wpAny_bind (wpAny_holding ?_)
  refine wpAny_call_entry slot_list_sort ⟨_, hoL, rfl⟩ entry_list_sort ?_ (args_list_sort _)
  refine SrtO.list_sort_ord SrtO.swo_int hoL hz (fun h2 => SrtO.ints_sortable hi h2) fun out hs hb => ⟨.none, rfl, wpAny_pure ⟨_, rfl, ?_⟩⟩
  obtain ⟨k1, k2, k3⟩ := SrtO.ints_out hi hs hb
  have hle : s.heap.objs.size ≤ h1.objs.size := by rw [hsz]; exact Nat.le_succ _
  refine h _ _ out _ (fun b o e => ?_) hle (sortedHeap_at hoL) k1 k2 k3
  have hb1 := keep b o e
  have hlt := Heap.lt_size hb1
  rw [sortedHeap_old (Nat.ne_of_lt hlt) (by rw [Heap.size_push]; exact Nat.lt_succ_of_lt hlt)]
  exact Heap.get?_push_of_some _ hb1
end SR
namespace SR
open PySem PySem.Spec PyProof.Rows L2
def rSortedT (K : PySem.W.Frag) : List V → Hp → VK → Prop := fun vs H Q => ∃ (a : Addr) (ns : List Int), vs = [.ref a] ∧ SqT K H a (ns.map V.int) ∧ ∀ (ns' : List Int) (p : Addr), ns'.Perm ns → ns'.Pairwise (· ≤ ·) → H p = none → Q (.ref p) (upd H p (.lst (ns'.map V.int)))
theorem cr_sortedT {X : Cx} : CallR X (.builtin "sorted") (rSortedT X.K) := by
  intro pins s σ H xs us Q I r h
  obtain ⟨a, ns, rfl, hs, q⟩ := h
  obtain ⟨its, rv, ht, hz⟩ := I.tuple hs
  rw [Vals.ref1 r]
  refine sorted_tup ht (by rw [← Vals.length rv]; exact hz) (Vals.ints rv) fun h' p out ns' keep hp ⟨e, he⟩ hi perm asc => ?_
  have hlen : (ns'.map V.int).length ≤ sizeLine := by
    rw [List.length_map] at hz ⊢
    rw [perm.length_eq]
    exact hz
  exact ⟨.ref p, upd H p (.lst (ns'.map V.int)), Inv.laid I keep hp ⟨hlen, out, e, vals_of_ints hi, he⟩, rfl, q ns' p perm asc (I.hok.fresh hp)⟩
end SR

set_option Elab.async false
set_option linter.all false
set_option maxRecDepth 100000
set_option maxHeartbeats 4000000
namespace SR
open PySem PySem.Spec PyProof.Rows L2
/-! The law's source of draws: a list of a state, the cells and a place. -/
/-- at p the source, its cells at c -/
def DrawAt (H : Hp) (p c : Addr) : Prop := ∃ (s i : Int) (cs : List Int), H p = some (.lst [.int s, .ref c, .int i]) ∧ H c = some (.lst (cs.map V.int)) ∧ 0 ≤ s ∧ s < 2147483647 ∧ 0 ≤ i ∧ cs.length ≤ 63
theorem DrawAt.ne {H : Hp} {p c : Addr} (d : DrawAt H p c) : p ≠ c := by
  obtain ⟨s, i, cs, h1, h2, _⟩ := d
  refine ne_of h1 h2 fun z => ?_
  have e : ([V.int s, V.ref c, V.int i] : List V) = cs.map V.int := by injection z
  match cs, e with
  | x :: y :: r, e => simp at e
theorem DrawAt.mono {H H' : Hp} (s : Same H H') {p c : Addr} (d : DrawAt H p c) : DrawAt H' p c := let ⟨s', i, cs, h1, h2, r⟩ := d; ⟨s', i, cs, s _ _ h1, s _ _ h2, r⟩
/-- all but the source stands -/
def SameD (p c : Addr) (H H' : Hp) : Prop := ∀ a o, H a = some o → a ≠ p → a ≠ c → H' a = some o
theorem SameD.refl {p c : Addr} (H : Hp) : SameD p c H H := fun _ _ h _ _ => h
theorem SameD.trans {p c : Addr} {H H1 H2 : Hp} (a : SameD p c H H1) (b : SameD p c H1 H2) : SameD p c H H2 := fun x o h h1 h2 => b x o (a x o h h1 h2) h1 h2
theorem sameD_of {p c : Addr} {H H' : Hp} (s : Same H H') : SameD p c H H' := fun a o h _ _ => s a o h
/-- what is no list stands -/
theorem SameD.keep {p c : Addr} {H H' : Hp} (s : SameD p c H H') (d : DrawAt H p c) {a : Addr} {o : HO} (h : H a = some o) (hn : ∀ xs, o ≠ .lst xs) : H' a = some o := by
  obtain ⟨s', i, cs, h1, h2, _⟩ := d
  exact s a o h (ne_of h h1 (hn _)) (ne_of h h2 (hn _))
theorem SameD.ent {p c : Addr} {H H' : Hp} (s : SameD p c H H') (d : DrawAt H p c) {v : V} {e : Ent} (h : EntV H v e) : EntV H' v e := let ⟨t, a, b⟩ := h; ⟨t, a, s.keep d b (fun xs => by intro z; cases z)⟩
theorem SameD.ents {p c : Addr} {H H' : Hp} (s : SameD p c H H') (d : DrawAt H p c) {vs : List V} {es : List Ent} (h : EntsV H vs es) : EntsV H' vs es := Paired.mapP h fun _ _ x => s.ent d x
theorem SameD.tup {p c : Addr} {H H' : Hp} (s : SameD p c H H') (d : DrawAt H p c) {v : V} {es : List Ent} (h : TupV H v es) : TupV H' v es := let ⟨a, vs, e, b, k⟩ := h; ⟨a, vs, e, s.keep d b (fun xs => by intro z; cases z), s.ents d k⟩
theorem SameD.sum {p c : Addr} {H H' : Hp} (s : SameD p c H H') (d : DrawAt H p c) {C : Addr} {v : V} {n : Int} {es : List Ent} (h : SumV C H v n es) : SumV C H' v n es := let ⟨q, dx, u, e, b, k⟩ := h; ⟨q, dx, u, e, s.keep d b (fun xs => by intro z; cases z), s.tup d k⟩
/-- a new thing that the old heap did not know may have changed -/
theorem SameD.mut {p c : Addr} {H H1 : Hp} {q : Addr} {o : HO} (s : SameD p c H H1) (h : H q = none) : SameD p c H (upd H1 q o) := fun b u e h1 h2 => by rw [upd_ne (ne_of_none e h)]; exact s b u e h1 h2
theorem SameD.free {p c : Addr} {H H' : Hp} (s : SameD p c H H') (d : DrawAt H p c) (d' : DrawAt H' p c) {q : Addr} (h : H' q = none) : H q = none := by
  cases e : H q with
  | none => rfl
  | some o =>
    obtain ⟨s', i, cs, h1, h2, _⟩ := d'
    have a1 : q ≠ p := fun z => by subst z; rw [h1] at h; cases h
    have a2 : q ≠ c := fun z => by subst z; rw [h2] at h; cases h
    rw [s q o e a1 a2] at h
    cases h
/-- an item of a written list of three, four, at a drawn place -/
theorem at3 {P : V → Prop} {a b c : V} {r : Int} (h0 : 0 ≤ r) (h1 : r < 3) (pa : P a) (pb : P b) (pc : P c) : ∃ v, atI [a, b, c] r = some v ∧ P v := by
  have h : r = 0 ∨ r = 1 ∨ r = 2 := by omega
  rcases h with rfl | rfl | rfl
  · exact ⟨a, rfl, pa⟩
  · exact ⟨b, rfl, pb⟩
  · exact ⟨c, rfl, pc⟩
theorem at4 {P : V → Prop} {a b c d : V} {r : Int} (h0 : 0 ≤ r) (h1 : r < 4) (pa : P a) (pb : P b) (pc : P c) (pd : P d) : ∃ v, atI [a, b, c, d] r = some v ∧ P v := by
  have h : r = 0 ∨ r = 1 ∨ r = 2 ∨ r = 3 := by omega
  rcases h with rfl | rfl | rfl | rfl
  · exact ⟨a, rfl, pa⟩
  · exact ⟨b, rfl, pb⟩
  · exact ⟨c, rfl, pc⟩
  · exact ⟨d, rfl, pd⟩
/-- a new address is not the source's -/
theorem DrawAt.fresh {H : Hp} {p c z : Addr} (d : DrawAt H p c) (nz : H z = none) : z ≠ p ∧ z ≠ c := by
  obtain ⟨_, _, _, h1, h2, _⟩ := d
  exact ⟨fun e => (nomatch (e ▸ nz).symm.trans h1), fun e => (nomatch (e ▸ nz).symm.trans h2)⟩
/-- what was new when the source stood stays through a draw -/
theorem SameD.at {p c z : Addr} {H H' : Hp} {o : HO} (s : SameD p c H H') (h : H z = some o) (n : z ≠ p ∧ z ≠ c) : H' z = some o := s z o h n.1 n.2
theorem SameD.way {p c : Addr} {H H' : Hp} (s : SameD p c H H') (d : DrawAt H p c) {v : V} {w : List Int} (h : WayV H v w) : WayV H' v w := let ⟨t, a, b⟩ := h; ⟨t, a, s.keep d b (fun xs => by intro z; cases z)⟩
/-- an item of a written list of ints at a drawn place -/
theorem at_ints (l : List Int) {r : Int} (h0 : 0 ≤ r) (h1 : r < l.length) : ∃ b, atI (l.map V.int) r = some (.int b) ∧ b ∈ l := by
  have hl : r.toNat < l.length := by omega
  refine ⟨l[r.toNat], ?_, List.getElem_mem hl⟩
  refine at_of (j := r.toNat) (by omega) ?_
  rw [List.getElem?_map, List.getElem?_eq_getElem hl]
  rfl
theorem nb {b : Int} (h0 : 0 ≤ b) (h : b ≤ 10 ^ 30) : b.natAbs < 2 ^ 200 := Nat.lt_of_le_of_lt (m := 10 ^ 30) (by omega) (by decide)
end SR


set_option maxRecDepth 100000
/-! The text by places. -/
namespace SR
open PySem L2
def topS (i : Nat) : Stmt := PySem.Challenge.pw_shortranks_k17_further_questions_refused.main.body.getD i (.Pass ⟨0, 0, 0, 0⟩)
abbrev s_is_integer : Stmt := topS 2
abbrev s_is_between : Stmt := topS 3
abbrev s_RankError : Stmt := topS 5
abbrev s_RankError_init : Stmt := inClass (topS 5) 0
abbrev s_BadCount : Stmt := topS 6
abbrev s_BadEntries : Stmt := topS 7
abbrev s_BadEntries_init : Stmt := inClass (topS 7) 0
abbrev s_BadSummary : Stmt := topS 8
abbrev s_NoRow : Stmt := topS 9
abbrev s_BadValue : Stmt := topS 10
abbrev s_BadRow : Stmt := topS 11
abbrev s_TooLong : Stmt := topS 12
abbrev s_BadTold : Stmt := topS 13
abbrev s_BadTold_init : Stmt := inClass (topS 13) 0
abbrev s_Summary : Stmt := topS 18
abbrev s_Summary_init : Stmt := inClass (topS 18) 0
abbrev s_Summary_many : Stmt := inClass (topS 18) 1
abbrev s_Summary_entries : Stmt := inClass (topS 18) 2
abbrev s_Summary_len : Stmt := inClass (topS 18) 3
abbrev s_Summary_eq : Stmt := inClass (topS 18) 4
abbrev s_tightened : Stmt := topS 19
abbrev s_check_summary : Stmt := topS 20
abbrev s_is_value : Stmt := topS 21
abbrev s_check_value : Stmt := topS 22
abbrev s_surely_tightened : Stmt := topS 23
abbrev s__check_entries : Stmt := topS 24
abbrev s__is_entry : Stmt := topS 25
abbrev s__least_ranks : Stmt := topS 26
abbrev s__greatest_ranks : Stmt := topS 27
abbrev s_leaves : Stmt := topS 30
abbrev s_row_for : Stmt := topS 31
abbrev s_surely_short : Stmt := topS 32
abbrev s_check_short : Stmt := topS 33
abbrev s_filled : Stmt := topS 34
abbrev s__check_row : Stmt := topS 35
abbrev s__have_places : Stmt := topS 36
abbrev s_row_with : Stmt := topS 39
abbrev s_can_have : Stmt := topS 40
abbrev s__check_told : Stmt := topS 41
abbrev s__is_told : Stmt := topS 42
abbrev s__narrowed : Stmt := topS 43
abbrev s__can_stand : Stmt := topS 44
abbrev s_count_rows : Stmt := topS 46
abbrev s__with_others : Stmt := topS 47
abbrev s__choices : Stmt := topS 48
abbrev s__with_kept : Stmt := topS 49
abbrev s__last_place : Stmt := topS 50
abbrev s_within : Stmt := topS 52
abbrev s_lacking_row : Stmt := topS 53
abbrev s__telling_rows : Stmt := topS 54
abbrev s__first_ranks : Stmt := topS 55
abbrev s__row_with_few : Stmt := topS 56
abbrev s__law_mix : Stmt := topS 58
abbrev s__law_next : Stmt := topS 59
abbrev s__law_ask : Stmt := topS 60
abbrev s__law_thing_at : Stmt := topS 61
abbrev s__law_told : Stmt := topS 62
abbrev s__law_good_one : Stmt := topS 63
abbrev s__law_bad_one : Stmt := topS 64
abbrev s_law : Stmt := topS 65
end SR

set_option Elab.async false
set_option linter.all false
set_option maxRecDepth 100000
set_option maxHeartbeats 4000000
/-! A set comprehension of integers. -/
namespace SR
open PySem PySem.Spec PyProof.Rows L2
abbrev NoI : Int → Bool := fun _ => false
/-- {elt for tg in iter if ..}, elt an integer; the set lies at D -/
def tScI (w : World) (wi : TI) (g : TG) (tt : TT) (te : TE) (vs : List Nat) : TE := fun σ H Q => wi σ H fun J H1 => ∀ D, H1 D = none →
  ∃ W : Nat → Nat → Hp → Prop, (∃ m, W 0 m (upd H1 D (SetO w D NoI 0))) ∧ ∀ i m H2, W i m H2 → (J.stop i H2 ∧ Q (.ref D) H2) ∨
    (J.go i H2 ∧ ∃ N : Hp → Prop, (∀ H', N H' → ∃ m', m' < m ∧ W (i + 1) m' H') ∧ ∀ x H', J.yld i H2 x H' → g x (wipe σ vs) H' fun σ2 H3 => wipe σ2 vs = wipe σ vs ∧
      tt σ2 H3 fun b H4 => if b = true then te σ2 H4 fun y H5 => rSAdd w (.ref D) [y] H5 fun _ H6 => N H6 else N H4)
section
variable {X : Cx} {elt tg it : Expr} {ifs : List Expr} {sc : Scope} {own : List (PySem.Str × Nat)} {pos : Pos} {wi : TI} {g : TG} {tt : TT} {te : TE}
theorem pe_scI (calm : X.calm = true) (nd : X.N.Nodup) (hi : PI X tg it wi) (ok : BlkOk X.N X.env.scope sc own)
    (hg : ∀ (z : Shared) (G : Hp) (c : Addr) (cl : List (PySem.Str × Addr)) (fp : List Addr), PG (X.blk z G sc (compEnvC sc cl c X.env) fp) tg g)
    (ht : ∀ (z : Shared) (G : Hp) (c : Addr) (cl : List (PySem.Str × Addr)) (fp : List Addr), PTs (X.blk z G sc (compEnvC sc cl c X.env) fp) ifs tt)
    (he : ∀ (z : Shared) (G : Hp) (c : Addr) (cl : List (PySem.Str × Addr)) (fp : List Addr), PE (X.blk z G sc (compEnvC sc cl c X.env) fp) elt te) (hs : ∀ x, foldedSetIterable it X.env x = pure x := by intro _; rfl) :
    PE X (.SetComp elt [⟨tg, it, ifs, 0⟩] sc pos) (tScI X.w wi g tt te (own.map (·.2))) := by
  refine ⟨fun pins s σ H Q I h => ?_⟩
  rw [PpSet.eval_SetComp]
  have cells : ∀ y ∈ sc.names, y.2 = .free → ∃ c, X.env.cells.lookup y.1 = some c := fun y hy e => (ok.free y hy e).elim (fun k => I.ok.has _ (.inl k)) (fun k => I.ok.has _ (.inr k))
  refine wpAny_comprehension_free rfl hs (closure_ok cells) ok.kind (fun y hy e => by rw [ok.uniq y hy, e]) (thn (hi.run pins s σ H _ I h) fun xv sa hx => thn hx fun itv sb hb => ?_)
  obtain ⟨a, fp, tn, J, Hb, rfl, Ib, T, stb, fb, q⟩ := hb
  refine PpSet.newSet_ok (newEnv_comp ?_)
  have nD : Hb sb.heap.objs.size = none := Ib.hok.fresh (Nat.le_refl _)
  obtain ⟨W, ⟨m0, w0⟩, turn⟩ := q _ nD
  obtain ⟨D, eD⟩ : ∃ D, D = sb.heap.objs.size := ⟨_, rfl⟩
  rw [← eD] at nD w0 turn ⊢
  obtain ⟨s3, e3⟩ : ∃ s3 : Shared, s3 = { sb with heap := sb.heap.push { cls := .type "set", dict := none, data := .set #[] 0 (.fresh 0 0 (!X.w.params.followText "set-order")) } } := ⟨_, rfl⟩
  obtain ⟨G, eG⟩ : ∃ G, G = upd Hb D (SetO X.w D NoI 0) := ⟨_, rfl⟩
  have I3 : Inv X pins σ G s3 := by
    rw [e3, eG]
    refine Ib.laid (t' := sb.toks) (fun b o e => Heap.get?_push_of_some _ e) (Nat.le_of_eq eD.symm) ?_
    rw [eD]
    exact setO_new (setR_fresh X.w)
  have kp : ∀ b o, sb.heap.get? b = some o → s3.heap.get? b = some o := fun b o e => by rw [e3]; exact Heap.get?_push_of_some _ e
  have sz : s3.heap.objs.size = sb.heap.objs.size + 1 := by rw [e3]; exact Heap.size_push ..
  have f3 : ∀ b ∈ fp, FpOk X pins G b ∧ b < s3.heap.objs.size := fun b hb => by
    obtain ⟨o, e, _⟩ := T.obj _ _ stb b hb
    have lt := Heap.lt_size e
    refine ⟨⟨?_, (fb b hb).2⟩, by rw [sz]; exact Nat.lt_succ_of_lt lt⟩
    rw [eG, upd_ne (by rw [eD]; exact Nat.ne_of_lt lt)]
    exact (fb b hb).1
  have st3 : tn 0 s3.heap := T.keep _ _ _ stb fun b _ o e => kp b o e
  have I4 := block_start I3 ok nd f3
  have hCe := fun (cl : List (PySem.Str × Addr)) => hg s3 G s3.heap.objs.size cl fp
  obtain ⟨ce, ece⟩ : ∃ ce, ce = compEnvC sc (cellsFrom (s3.heap.objs.size + 1) sc.names (cloFrom X.env.cells sc.names [])) s3.heap.objs.size X.env := ⟨_, rfl⟩
  have pg : PG (X.blk s3 G sc ce fp) tg g := by rw [ece]; exact hg ..
  have pt : PTs (X.blk s3 G sc ce fp) ifs tt := by rw [ece]; exact ht ..
  have pe : PE (X.blk s3 G sc ce fp) elt te := by rw [ece]; exact he ..
  have cL : ce.locals = s3.heap.objs.size := by rw [ece]; rfl
  rw [← ece] at I4
  obtain ⟨s4, e4⟩ : ∃ s4 : Shared, s4 = { s3 with heap := pushCells (s3.heap.push { cls := .type "dict", data := .dict #[] }) sc.names } := ⟨_, rfl⟩
  rw [← e4] at I4
  have st4 : tn 0 s4.heap := T.keep _ _ _ st3 fun b _ o e => by rw [e4]; exact pushCells_keeps _ _ _ _ (Heap.get?_push_of_some _ e)
  suffices key : codeAny (model X.prog X.w) X.A (.compStart (.SetComp elt [⟨tg, it, ifs, 0⟩] sc pos) 0 (.ref a) (.ref D) ce) (compPost (model X.prog X.w) X.A X.xe none (EP X pins σ Q) (.ref D) s3.heap.objs.size) s4 by
    rw [e4, ece, e3] at key
    exact key
  have nG : ∀ b ∈ fp, G b = none := fun b hb => (f3 b hb).1.1
  rw [← eG] at w0
  have stat : ∀ {τ : L2.St} {H' : Hp} {z : Shared}, Inv (X.blk s3 G sc ce fp) [] τ H' z → (∀ b ∈ fp, H' b = none) → ∀ b ∈ fp, FpOk (X.blk s3 G sc ce fp) [] H' b := fun {τ H' z} I' hn b hb =>
    ⟨hn b hb, (I'.ok.exf b hb).1, I'.ok.exfs b hb, .inl hb, fun x c e => (I'.ok.exf b hb).2 x c e, fun p hp => absurd (show p ∈ ([] : List (Addr × Obj)) ++ [] from hp) (by simp)⟩
  have loop : codeAny (model X.prog X.w) X.A (.compLoop (.SetComp elt [⟨tg, it, ifs, 0⟩] sc pos) 0 (.ref a) (.ref D) ce) (compPost (model X.prog X.w) X.A X.xe none (EP X pins σ Q) (.ref D) s3.heap.objs.size) s4 := by
    refine PpSet.compLoopS_any (fun k z => ∃ i H', Inv (X.blk s3 G sc ce fp) [] (wipe σ (own.map (·.2))) H' z ∧ tn i z.heap ∧ (∀ b ∈ fp, H' b = none) ∧ W i k H') ?_ m0 ⟨0, G, I4, st4, nG, w0⟩
    rintro k s5 ⟨i, H5, I5, st5, n5, w5⟩
    rcases turn i k H5 w5 with ⟨stop, qq⟩ | ⟨go, N, hN, step⟩
    · refine thnF (T.done (X.blk s3 G sc ce fp) rfl rfl rfl calm i [] s5 _ H5 (fun _ _ => False) I5 (stat I5 n5) st5 stop) fun r s6 hr6 => ?_
      obtain ⟨rfl, I6⟩ := hr6
      have I7 : Inv X pins σ H5 s6 := I3.call' (ch := fp) I6.os I6.base I6.hok I6.bare fun b hb => ⟨(f3 b hb).1.2.2.2.1, (f3 b hb).1.2.1, (f3 b hb).1.2.2.2.2.1, (f3 b hb).1.2.2.2.2.2⟩
      have nC : H5 ce.locals = none := I6.free
      obtain ⟨m, hn, _⟩ := I6.loc
      have hn : s6.heap.Ns ce.locals m := hn
      rw [cL] at nC hn
      refine ⟨m, hn, fun h'' same => ?_⟩
      obtain ⟨p0, p1, p2, p3, p4, p5⟩ := I3.fpOk (Nat.le_refl _) nC
      exact ⟨.ref D, H5, I7.turned (t' := s6.toks) (fun b o hb e => (same.2 b hb).trans e) p0 p1 p3 p4 p5, rfl, qq⟩
    · refine thnF (T.item (X.blk s3 G sc ce fp) rfl rfl rfl calm i [] s5 _ H5 (fun _ _ => False) I5 (stat I5 n5) st5 go) fun r s6 hr6 => ?_
      obtain ⟨u, rfl, h6⟩ := hr6
      refine thnF h6 fun _ s7 hx7 => ?_
      obtain ⟨x, H7, I7, r7, y7, st7, n7⟩ := hx7
      have J7 := I7.pinned (stat I7 n7) (T.obj _ _ st7)
      refine thnF (pg.run _ s7 _ H7 x u _ J7 r7 (step x H7 y7)) fun _ s8 h8 => ?_
      obtain ⟨σ8, H8, I8, w8, q8⟩ := h8
      refine thnF (pt.run _ s8 σ8 H8 _ I8 q8) fun b s9 h9 => ?_
      obtain ⟨H9, I9, q9⟩ := h9
      -- behind the turn
      have fin : ∀ {z : Shared} {H' : Hp}, Inv (X.blk s3 G sc ce fp) ([] ++ pinsAt fp s7.heap) σ8 H' z → N H' → ∃ m, m < k ∧ ∃ i H', Inv (X.blk s3 G sc ce fp) [] (wipe σ (own.map (·.2))) H' z ∧ tn i z.heap ∧ (∀ b ∈ fp, H' b = none) ∧ W i m H' := by
        intro z H' I' nx
        obtain ⟨m', lt, w'⟩ := hN H' nx
        have pin' : ∀ b ∈ fp, ∀ o, s7.heap.get? b = some o → z.heap.get? b = some o ∧ H' b = none := fun b hb o e =>
          have y := I'.pin (b, o) (List.mem_append_right _ (List.mem_append_right _ (mem_pinsAt hb e)))
          ⟨y.1, y.2.1⟩
        refine ⟨m', lt, i + 1, H', (I'.unpinned (pins := [])).weak ?_ (fun j v e => ?_), T.keep _ _ _ st7 fun b hb o e => (pin' b hb o e).1, fun b hb => ?_, w'⟩
        · rw [← w8, wipe_length]
        · rw [← w8] at e
          exact (wipe_some e).1
        · obtain ⟨o, e, _⟩ := T.obj _ _ st7 b hb
          exact (pin' b hb o e).2
      cases b with
      | false => exact fin I9 q9
      | true =>
        rw [if_pos rfl] at q9 ⊢
        refine thnF (pe.run _ s9 σ8 H9 _ I9 q9) fun v s10 h10 => ?_
        obtain ⟨y, H10, I10, r10, q10⟩ := h10
        refine thnF (mt_sadd (X := X.blk s3 G sc ce fp) _ s10 σ8 H10 (.ref D) [y] (.ref D) [v] _ I10 rfl (.cons r10 .nil) q10) fun _ s11 h11 => ?_
        obtain ⟨_, H11, I11, _, nx⟩ := h11
        exact fin I11 nx
  exact PpSet.codeAny_compStart_set loop (T.self X.A 0 _ _ _ st4 loop)
end
/-- over a tuple -/
theorem sc_tupI {w : World} {K : PySem.W.Frag} {a D : Addr} {xs : List V} {g : TG} {tt : TT} {te : TE} {vs : List Nat} {σ : L2.St} {H1 : Hp} {F : Hp → Prop} (Pv : Nat → Hp → Prop) (h0 : Pv 0 (upd H1 D (SetO w D NoI 0)))
    (hl : ∀ i H, i ≤ xs.length → Pv i H → SqT K H a xs)
    (hs : ∀ i x H, xs[i]? = some x → Pv i H → g x (wipe σ vs) H fun σ2 H3 => wipe σ2 vs = wipe σ vs ∧ tt σ2 H3 fun b H4 => if b = true then te σ2 H4 fun y H5 => rSAdd w (.ref D) [y] H5 fun _ H6 => Pv (i + 1) H6 else Pv (i + 1) H4)
    (hd : ∀ H, Pv xs.length H → F H) :
    ∃ W : Nat → Nat → Hp → Prop, (∃ m, W 0 m (upd H1 D (SetO w D NoI 0))) ∧ ∀ i m H2, W i m H2 → ((Itt K a).stop i H2 ∧ F H2) ∨
      ((Itt K a).go i H2 ∧ ∃ N : Hp → Prop, (∀ H', N H' → ∃ m', m' < m ∧ W (i + 1) m' H') ∧ ∀ x H', (Itt K a).yld i H2 x H' → g x (wipe σ vs) H' fun σ2 H3 => wipe σ2 vs = wipe σ vs ∧
        tt σ2 H3 fun b H4 => if b = true then te σ2 H4 fun y H5 => rSAdd w (.ref D) [y] H5 fun _ H6 => N H6 else N H4) := by
  refine ⟨fun i m H => i ≤ xs.length ∧ m = xs.length - i ∧ Pv i H, ⟨_, Nat.zero_le _, rfl, h0⟩, fun i m H hw => ?_⟩
  obtain ⟨hi, rfl, p⟩ := hw
  have sq := hl i H hi p
  rcases Nat.lt_or_ge i xs.length with lt | ge
  · refine .inr ⟨⟨xs, xs[i], sq, List.getElem?_eq_getElem lt⟩, Pv (i + 1), fun H' p' => ⟨_, by omega, lt, rfl, p'⟩, ?_⟩
    rintro x H' ⟨rfl, y⟩
    exact hs i x _ (y xs sq) p
  · obtain rfl : i = xs.length := Nat.le_antisymm hi ge
    exact .inl ⟨⟨xs, sq, Nat.le_refl _⟩, hd H p⟩
end SR

set_option Elab.async false
set_option linter.all false
set_option maxRecDepth 100000
set_option maxHeartbeats 4000000
/-! Parts of a tuple of entries, two put together. -/
namespace SR
open PySem PySem.Spec PyProof.Rows L2
theorem pr_take {A B : Type} {F : A → B → Prop} : ∀ {l : List A} {m : List B} (n : Nat), Paired F l m → Paired F (l.take n) (m.take n)
  | _, _, _, .nil => by simp; exact .nil
  | _, _, 0, .cons r t => by simp; exact .nil
  | _, _, n + 1, .cons r t => by simp; exact .cons r (pr_take n t)
section
variable {K : PySem.W.Frag} {H : Hp} {Q : VK}
theorem sl_fromE {x : V} {es : List Ent} {t : Nat} (hx : TupV H x es) (ht : t ≤ es.length) (k : ∀ v H', Same H H' → TupV H' v (es.drop t) → Q v H') : rSlA K x (some (t : Int)) none H Q := by
  obtain ⟨tr, vs, rfl, hr, he⟩ := hx
  have htl : t ≤ vs.length := by rw [he.len]; exact ht
  refine ⟨tr, _, rfl, SqT.of hr, fun ⟨h1, _⟩ => ?_, fun _ p np => ?_⟩
  · rw [show HT.sIx vs.length 0 (some (t : Int)) = min t vs.length from HT.sIx_nat _ 0 t, Nat.min_eq_left htl] at h1
    refine k _ _ (Same.refl _) ⟨tr, vs, rfl, hr, ?_⟩
    rw [h1, List.drop_zero]; exact he
  · refine k _ _ (Same_new np) ⟨p, vs.drop t, rfl, ?_, EntsV.mono (Same_new np) (pr_drop t he)⟩
    rw [upd_same, cut_from htl]
theorem sl_toE {x : V} {es : List Ent} {t : Nat} (hx : TupV H x es) (ht : t ≤ es.length) (k : ∀ v H', Same H H' → TupV H' v (es.take t) → Q v H') : rSlA K x none (some (t : Int)) H Q := by
  obtain ⟨tr, vs, rfl, hr, he⟩ := hx
  have htl : t ≤ vs.length := by rw [he.len]; exact ht
  refine ⟨tr, _, rfl, SqT.of hr, fun ⟨_, h1⟩ => ?_, fun _ p np => ?_⟩
  · rw [show HT.sIx vs.length vs.length (some (t : Int)) = min t vs.length from HT.sIx_nat _ _ t, Nat.min_eq_left htl] at h1
    refine k _ _ (Same.refl _) ⟨tr, vs, rfl, hr, ?_⟩
    rw [h1, he.len, List.take_length]; exact he
  · refine k _ _ (Same_new np) ⟨p, vs.take t, rfl, ?_, EntsV.mono (Same_new np) (pr_take t he)⟩
    rw [upd_same, cut_to htl]
theorem cat_E {x y : V} {a b : List Ent} (hx : TupV H x a) (hy : TupV H y b) (hl : a.length + b.length ≤ 900) (k : ∀ v H', Same H H' → TupV H' v (a ++ b) → Q v H') : rCatA K x y H Q := by
  obtain ⟨p, xs, rfl, hp, ha⟩ := hx
  obtain ⟨q, ys, rfl, hq, hb⟩ := hy
  have la := ha.len
  have lb := hb.len
  refine ⟨p, q, _, _, rfl, rfl, SqT.of hp, SqT.of hq, ?_, fun h => ?_, fun _ h => ?_, fun _ _ r nr => ?_⟩
  · exact Nat.le_of_lt (small1000 (by omega))
  · have e : a = [] := List.length_eq_zero_iff.mp (by rw [← la, h]; rfl)
    subst e
    exact k _ _ (Same.refl _) ⟨q, ys, rfl, hq, hb⟩
  · have e : b = [] := List.length_eq_zero_iff.mp (by rw [← lb, h]; rfl)
    subst e
    exact k _ _ (Same.refl _) ⟨p, xs, rfl, hp, by rw [List.append_nil]; exact ha⟩
  · exact k _ _ (Same_new nr) ⟨r, xs ++ ys, rfl, upd_same, EntsV.mono (Same_new nr) (pr_app ha hb)⟩
end
/-- entries without one -/
theorem valid_part {n : Int} {es : List Ent} {f : List Ent} (v : Valid n es) (h : f.Sublist es) : Valid n f where
  n1 := v.n1
  n2 := v.n2
  len := Nat.le_trans h.length_le v.len
  ent := fun j hj => by
    have hm : f[j] ∈ es := h.subset (List.getElem_mem hj)
    obtain ⟨i, hi, e⟩ := List.mem_iff_getElem.mp hm
    have e1 : f[j]? = some f[j] := List.getElem?_eq_getElem hj
    have e2 : es[i]? = some f[j] := by rw [List.getElem?_eq_getElem hi, e]
    have := v.ent i hi
    rw [vl_of e2, lo_of e2, hi_of e2] at this
    rw [vl_of e1, lo_of e1, hi_of e1]
    exact this
  asc := fun j hj => by
    have hp : es.Pairwise fun a b => a.1 ≤ b.1 := by
      have all : ∀ d i, i + d < es.length → vl es i ≤ vl es (i + d) := by
        intro d
        induction d with
        | zero => intro i _; exact Int.le_refl _
        | succ d ih => intro i hi; exact Int.le_trans (ih i (by omega)) (v.asc (i + d) (by omega))
      rw [List.pairwise_iff_getElem]
      intro i k hi hk hik
      have := all (k - i) i (by omega)
      rw [show i + (k - i) = k by omega, vl_of (List.getElem?_eq_getElem hi), vl_of (List.getElem?_eq_getElem hk)] at this
      exact this
    have hq := hp.sublist h
    have e1 : f[j]? = some f[j] := List.getElem?_eq_getElem (by omega)
    have e2 : f[j + 1]? = some f[j + 1] := List.getElem?_eq_getElem hj
    rw [vl_of e1, vl_of e2]
    exact List.pairwise_iff_getElem.mp hq j (j + 1) (by omega) hj (by omega)
theorem cut_out {α : Type} (l : List α) (k : Nat) : (l.take k ++ l.drop (k + 1)).Sublist l := by
  have : (l.take k ++ l.drop (k + 1)).Sublist (l.take k ++ l.drop k) := List.Sublist.append (List.Sublist.refl _) (by
    rw [show l.drop (k + 1) = (l.drop k).drop 1 by rw [List.drop_drop]]
    exact List.drop_sublist _ _)
  rw [List.take_append_drop] at this
  exact this
theorem ent_ix {H : Hp} {us : List V} {es : List Ent} (he : EntsV H us es) {j : Nat} (h : j < es.length) : ∃ t, us[j]? = some (.ref t) ∧ H t = some (.tup [.int (vl es j), .int (lo es j), .int (hi es j)]) := by
  obtain ⟨v, hv, t, rfl, ht⟩ := pr_at he (ent_at h)
  exact ⟨t, hv, ht⟩
end SR

set_option Elab.async false
set_option linter.all false
set_option maxRecDepth 100000
set_option maxHeartbeats 4000000
/-! Rows that tell whether each row of one summary leaves another one: plain mathematics. -/
namespace SR
/-- ranks for the entries, those of a value from w on from start on -/
structure Rks (n : Int) (es : List Ent) (w start : Int) (r : Nat → Int) : Prop where
  bnd : ∀ j, j < es.length → tlo es j ≤ r j ∧ r j ≤ thi n es j
  up : ∀ i j, i < j → j < es.length → r i < r j
  st : ∀ j, j < es.length → w ≤ vl es j → start ≤ r j
/-- the rank behind the last number that is at most w, start at least -/
structure Bhd (es : List Ent) (w start : Int) (r : Nat → Int) (B : Int) : Prop where
  ge : start ≤ B
  all : ∀ j, j < es.length → vl es j ≤ w → r j + 1 ≤ B
  is : B = start ∨ ∃ j, j < es.length ∧ vl es j ≤ w ∧ B = r j + 1
/-- the numbers told -/
def NumG (es : List Ent) (w : Int) (r : Nat → Int) (B : Int) (g : Int → Option Int) : Prop :=
  ∀ k b, g k = some b ↔ (∃ j, j < es.length ∧ k = r j ∧ b = vl es j) ∨ (k = B ∧ b = w + 1 ∧ ∀ j, j < es.length → r j ≠ B)
section
variable {n w start B f : Int} {es : List Ent} {r : Nat → Int} {g : Int → Option Int}
theorem Rks.inj (R : Rks n es w start r) {i j : Nat} (hi : i < es.length) (hj : j < es.length) (h : r i < r j) : i < j := by
  rcases Nat.lt_trichotomy i j with c | c | c
  · exact c
  · subst c; omega
  · have := R.up j i c hi; omega
theorem Rks.behind (R : Rks n es w start r) (v : Valid n es) (hB : Bhd es w start r B) {i : Nat} (hi : i < es.length) (h : w < vl es i) : B ≤ r i := by
  rcases hB.is with e | ⟨l, hl, h1, h2⟩
  · have := R.st i hi (by omega); omega
  · have : r l < r i := by
      rcases Nat.lt_trichotomy l i with c | c | c
      · exact R.up l i c hi
      · subst c; omega
      · have := v.asc' (Nat.le_of_lt c) hl; omega
    omega
theorem num_asc (R : Rks n es w start r) (v : Valid n es) (hB : Bhd es w start r B) (hg : NumG es w r B g) (f1 : f ≤ w - 1) (f2 : ∀ j, j < es.length → f ≤ vl es j) : Asc g f where
  lo k b h := by
    rcases (hg k b).mp h with ⟨j, hj, _, rfl⟩ | ⟨_, rfl, _⟩
    · exact f2 j hj
    · omega
  up j k a b hjk h1 h2 := by
    rcases (hg j a).mp h1 with ⟨i, hi, e1, rfl⟩ | ⟨e1, rfl, n1⟩ <;> rcases (hg k b).mp h2 with ⟨l, hl, e2, rfl⟩ | ⟨e2, rfl, n2⟩
    · exact v.asc' (Nat.le_of_lt (R.inj hi hl (by omega))) hl
    · by_cases c : vl es i ≤ w
      · omega
      · have := R.behind v hB hi (by omega); omega
    · by_cases c : vl es l ≤ w
      · have := hB.all l hl c; omega
      · omega
    · omega
theorem num_leaves (R : Rks n es w start r) (hg : NumG es w r B g) : Lvs (fillRow g f n.toNat) es := by
  refine Lvs.of (n := n) r (fun j hj => ⟨(R.bnd j hj).1, (R.bnd j hj).2, ?_⟩) fun j hj => R.up _ _ (by omega) hj
  have h1 := tlo_pos es j
  have h2 := R.bnd j hj
  have h3 := thi_le (n := n) hj
  rw [fillRow_at (by omega) (by omega)]
  exact fillN_some (by omega) ((hg _ _).mpr (.inl ⟨j, hj, rfl, rfl⟩))
/-- the last number told up to m -/
theorem fillN_last (g : Int → Option Int) (f : Int) : ∀ m : Nat, (fillN g f m = f ∧ ∀ x : Int, 1 ≤ x → x ≤ m → g x = none) ∨ ∃ x : Int, 1 ≤ x ∧ x ≤ m ∧ g x = some (fillN g f m) ∧ ∀ y, x < y → y ≤ m → g y = none
  | 0 => .inl ⟨rfl, fun x h1 h2 => by omega⟩
  | m + 1 => by
    cases e : g (1 + (m : Int)) with
    | some a =>
      refine .inr ⟨1 + (m : Int), by omega, by omega, ?_, fun y h1 h2 => by omega⟩
      show g (1 + (m : Int)) = some ((g (1 + (m : Int))).getD _)
      rw [e]; rfl
    | none =>
      have ef : fillN g f (m + 1) = fillN g f m := by
        show (g (1 + (m : Int))).getD (fillN g f m) = _
        rw [e]; rfl
      rw [ef]
      rcases fillN_last g f m with ⟨h1, h2⟩ | ⟨x, h1, h2, h3, h4⟩
      · refine .inl ⟨h1, fun x a b => ?_⟩
        by_cases c : x = 1 + (m : Int)
        · rw [c]; exact e
        · exact h2 x a (by omega)
      · refine .inr ⟨x, h1, by omega, h3, fun y a b => ?_⟩
        by_cases c : y = 1 + (m : Int)
        · rw [c]; exact e
        · exact h4 y a (by omega)
/-- where the telling row has w, each row s has it that leaves the summary, start being behind its lesser numbers -/
theorem narrow {s : List Int} {F : Nat → Int} (R : Rks n es w start r) (v : Valid n es) (hB : Bhd es w start r B) (hg : NumG es w r B g) (f1 : f ≤ w - 1) (f2 : ∀ j, j < es.length → f ≤ vl es j)
    (hs : s.Pairwise (· ≤ ·)) (hl : (s.length : Int) = n) (hF : ∀ j, j < es.length → r j ≤ F j ∧ F j ≤ n ∧ rat s (F j) = vl es j) (n1 : 1 ≤ n) (hst : start = min (cnt s w + 1) n) {k : Int} (k1 : 1 ≤ k) (k2 : k ≤ n)
    (hk : rat (fillRow g f n.toNat) k = w) : rat s k = w := by
  have A := num_asc R v hB hg f1 f2
  have c0 := cnt_le s w
  rw [fillRow_at k1 (by omega)] at hk
  rcases fillN_last g f k.toNat with ⟨h1, _⟩ | ⟨x, x1, x2, h3, h4⟩
  · omega
  rw [hk] at h3
  have hx : ∃ i, i < es.length ∧ x = r i ∧ w = vl es i := by
    rcases (hg x w).mp h3 with h | ⟨_, h, _⟩
    · exact h
    · omega
  obtain ⟨i, hi, ex, ew⟩ := hx
  have si := R.st i hi (by omega)
  -- B is told a number above w
  have hBt : ∃ b, g B = some b ∧ w < b := by
    by_cases c : ∃ j, j < es.length ∧ r j = B
    · obtain ⟨j, hj, e⟩ := c
      refine ⟨vl es j, (hg _ _).mpr (.inl ⟨j, hj, e.symm, rfl⟩), ?_⟩
      by_cases cc : vl es j ≤ w
      · have := hB.all j hj cc; omega
      · omega
    · exact ⟨w + 1, (hg _ _).mpr (.inr ⟨rfl, rfl, fun j hj e => c ⟨j, hj, e⟩⟩), by omega⟩
  obtain ⟨b, hb, hwb⟩ := hBt
  have kB : k < B := by
    apply Classical.byContradiction
    intro c
    by_cases d : x < B
    · have := h4 B d (by omega)
      rw [hb] at this
      cases this
    · by_cases e : x = B
      · rw [e, hb] at h3
        have := Option.some.inj h3
        omega
      · have := A.up B x b w (by omega) hb h3
        omega
  obtain ⟨l, hll, l1, l2⟩ : ∃ l, l < es.length ∧ vl es l ≤ w ∧ B = r l + 1 := by
    rcases hB.is with e | h
    · omega
    · exact h
  have il : i ≤ l := by
    apply Classical.byContradiction
    intro c
    have := R.up l i (by omega) hi
    omega
  have := v.asc' il hll
  have Fl := hF l hll
  have Fi := hF i hi
  have up := rat_asc hs k1 (show k ≤ F l by omega) (by omega)
  have ci := cnt_iff (z := w) hs (F i) (by have := tlo_pos es i; have := R.bnd i hi; omega) (by omega)
  have ck := cnt_iff (z := w) hs k k1 (by omega)
  have dn : ¬ rat s k < w := by
    intro c
    have := ck.mp c
    have : ¬ F i ≤ cnt s w := fun z => by have := ci.mpr z; omega
    omega
  omega
end
/-- held against the places of another summary -/
theorem all_told {n : Int} {es : List Ent} {s : List Int} (v : Valid n es) (hs : s.Pairwise (· ≤ ·)) (hl : (s.length : Int) = n)
    (h : ∀ j, j < es.length → ∃ R : List Int, (∀ k, 1 ≤ k → k ≤ n → rat R k = vl es j → rat s k = vl es j) ∧ Lvs R es) : Lvs s es := by
  have H : ∀ w : Int, ∃ G : Nat → Int, ∀ j, j < es.length → vl es j = w → tlo es j ≤ G j ∧ G j ≤ thi n es j ∧ rat s (G j) = vl es j ∧ (j + 1 < es.length → G j < G (j + 1)) := by
    intro w
    by_cases c : ∃ j, j < es.length ∧ vl es j = w
    · obtain ⟨j, hj, rfl⟩ := c
      obtain ⟨R, h1, h2⟩ := h j hj
      obtain ⟨G, g1, g2⟩ := h2.ranks v
      refine ⟨G, fun i hi e => ?_⟩
      have := g1 i hi
      have t1 := tlo_pos es i
      have t2 := thi_le (n := n) hi
      refine ⟨this.1, this.2.1, ?_, fun hi2 => g2 i hi2⟩
      rw [e]
      exact h1 (G i) (by omega) (by omega) (by rw [this.2.2, e])
    · exact ⟨fun _ => 0, fun j hj e => absurd ⟨j, hj, e⟩ c⟩
  obtain ⟨G, hG⟩ := Classical.axiomOfChoice H
  refine Lvs.of (n := n) (fun j => G (vl es j) j) (fun j hj => ?_) fun j hj => ?_
  · have := hG (vl es j) j hj rfl
    exact ⟨this.1, this.2.1, this.2.2.1⟩
  · have a := hG (vl es j) j (by omega) rfl
    have b := hG (vl es (j + 1)) (j + 1) hj rfl
    by_cases e : vl es j = vl es (j + 1)
    · have q := a.2.2.2 hj
      show G (vl es j) j < G (vl es (j + 1)) (j + 1)
      rw [← e]
      exact q
    · have lt := v.asc' (show j ≤ j + 1 by omega) hj
      apply Classical.byContradiction
      intro c
      have t1 := tlo_pos es (j + 1)
      have t2 := thi_le (n := n) (es := es) (j := j) (by omega)
      have := rat_asc hs (a := G (vl es (j + 1)) (j + 1)) (b := G (vl es j) j) (by omega) (by omega) (by omega)
      omega
/-- the least ranks that may be, those of a value from w on from start on -/
def rkN (ts : List Ent) (w start : Int) : Nat → Int
  | 0 => 0
  | i + 1 => if w ≤ vl ts i then max (max (lo ts i) (rkN ts w start i + 1)) start else max (lo ts i) (rkN ts w start i + 1)
theorem rkN_succ (ts : List Ent) (w start : Int) (i : Nat) : rkN ts w start (i + 1) = if w ≤ vl ts i then max (max (lo ts i) (rkN ts w start i + 1)) start else max (lo ts i) (rkN ts w start i + 1) := rfl
theorem rkN_lt (ts : List Ent) (w start : Int) (i : Nat) : rkN ts w start i < rkN ts w start (i + 1) := by
  rw [rkN_succ]
  split <;> omega
theorem rkN_up (ts : List Ent) (w start : Int) {i : Nat} : ∀ j, i < j → rkN ts w start i < rkN ts w start j
  | 0, h => absurd h (Nat.not_lt_zero _)
  | j + 1, h => by
    have := rkN_lt ts w start j
    by_cases e : i = j
    · rw [e]; exact this
    · have := rkN_up ts w start (i := i) j (by omega); omega
section
variable {n w start : Int} {es : List Ent}
theorem tl_parts {j : Nat} (hj : j < es.length) : vl (tightL n es) j = vl es j ∧ lo (tightL n es) j = tlo es j ∧ hi (tightL n es) j = thi n es j := by
  have h := tight_at (n := n) hj
  exact ⟨by rw [vl_of h], by rw [lo_of h], by rw [hi_of h]⟩
theorem rk_Rks (h : ∀ j, j < es.length → rkN (tightL n es) w start (j + 1) ≤ thi n es j) : Rks n es w start (fun j => rkN (tightL n es) w start (j + 1)) where
  bnd j hj := by
    refine ⟨?_, h j hj⟩
    obtain ⟨p1, p2, p3⟩ := tl_parts (n := n) hj
    show _ ≤ rkN (tightL n es) w start (j + 1)
    rw [rkN_succ, p1, p2]
    split <;> omega
  up i j hij _ := rkN_up _ _ _ _ (by omega)
  st j hj hw := by
    obtain ⟨p1, p2, p3⟩ := tl_parts (n := n) hj
    show start ≤ rkN (tightL n es) w start (j + 1)
    rw [rkN_succ, p1, if_pos hw]
    omega
theorem rk_min {F : Nat → Int} (hb : ∀ j, j < es.length → tlo es j ≤ F j) (hu : ∀ j, j + 1 < es.length → F j < F (j + 1)) (hs : ∀ j, j < es.length → w ≤ vl es j → start ≤ F j) : ∀ j, j < es.length → rkN (tightL n es) w start (j + 1) ≤ F j
  | 0, hj => by
    obtain ⟨p1, p2, p3⟩ := tl_parts (n := n) hj
    have := hb 0 hj
    have t := tlo_pos es 0
    rw [rkN_succ, p1, p2]
    show (if w ≤ vl es 0 then max (max (tlo es 0) (0 + 1)) start else max (tlo es 0) (0 + 1)) ≤ F 0
    split
    · rename_i c
      have := hs 0 hj c; omega
    · omega
  | j + 1, hj => by
    have ih := rk_min hb hu hs j (by omega)
    obtain ⟨p1, p2, p3⟩ := tl_parts (n := n) hj
    have := hb (j + 1) hj
    have := hu j hj
    rw [rkN_succ, p1, p2]
    split
    · rename_i c
      have := hs (j + 1) hj c; omega
    · omega
/-- a row that leaves the summary gives places to the ranks -/
theorem rk_of {s : List Int} (v : Valid n es) (h : Lvs s es) (hs : s.Pairwise (· ≤ ·)) (hl : (s.length : Int) = n) (hst : start = min (cnt s w + 1) n) :
    ∃ F : Nat → Int, ∀ j, j < es.length → rkN (tightL n es) w start (j + 1) ≤ F j ∧ F j ≤ thi n es j ∧ F j ≤ n ∧ rat s (F j) = vl es j := by
  obtain ⟨F, f1, f2⟩ := h.ranks v
  refine ⟨F, fun j hj => ?_⟩
  have a := f1 j hj
  have t := thi_le (n := n) hj
  refine ⟨rk_min (fun j hj => (f1 j hj).1) f2 (fun j hj hw => ?_) j hj, a.2.1, by omega, a.2.2⟩
  have b := f1 j hj
  have t1 := tlo_pos es j
  have t2 := thi_le (n := n) hj
  have c := cnt_iff (z := w) hs (F j) (by omega) (by omega)
  have : ¬ F j ≤ cnt s w := fun z => by have := c.mpr z; omega
  omega
end
/-- the number told at a rank -/
def gZ (rks kv : List Int) (k : Int) : Option Int := ((rks.zip kv).find? fun x => decide (x.1 = k)).map (·.2)
theorem gZ_cons (r v : Int) (rs vs : List Int) (k : Int) : gZ (r :: rs) (v :: vs) k = if r = k then some v else gZ rs vs k := by
  unfold gZ
  rw [List.zip_cons_cons, List.find?_cons]
  by_cases h : r = k
  · simp [h]
  · simp [h]
theorem gZ_iff : ∀ {rks kv : List Int} {k b : Int}, rks.Pairwise (· < ·) → rks.length = kv.length → (gZ rks kv k = some b ↔ ∃ j, j < rks.length ∧ k = rks.getD j 0 ∧ b = kv.getD j 0)
  | [], _, k, b, _, _ => ⟨fun h => (nomatch h), fun ⟨j, hj, _⟩ => absurd hj (Nat.not_lt_zero j)⟩
  | r :: rs, [], _, _, _, h => by simp at h
  | r :: rs, v :: vs, k, b, nd, hl => by
    obtain ⟨n1, n2⟩ := List.pairwise_cons.mp nd
    have ih := gZ_iff (rks := rs) (kv := vs) (k := k) (b := b) n2 (by simpa using hl)
    rw [gZ_cons]
    by_cases h : r = k
    · rw [if_pos h]
      constructor
      · intro e
        injection e with e
        exact ⟨0, by simp, by simp [h], by simp [e]⟩
      · rintro ⟨j, hj, e1, e2⟩
        cases j with
        | zero => simp at e2; rw [e2]
        | succ j =>
          have hj' : j < rs.length := by simpa using hj
          have e1' : k = rs.getD j 0 := by simpa using e1
          rw [List.getD_eq_getElem?_getD, List.getElem?_eq_getElem hj'] at e1'
          have := n1 _ (List.getElem_mem hj')
          simp at e1'
          omega
    · rw [if_neg h, ih]
      constructor
      · rintro ⟨j, hj, e1, e2⟩
        exact ⟨j + 1, by simpa using hj, by simpa using e1, by simpa using e2⟩
      · rintro ⟨j, hj, e1, e2⟩
        cases j with
        | zero => exact absurd (by simpa using e1.symm) h
        | succ j => exact ⟨j, by simpa using hj, by simpa using e1, by simpa using e2⟩
section
variable {ts : List Ent} {rks : List Int} {z start B : Int}
theorem kv_at (j : Nat) : (ts.map (·.1)).getD j 0 = vl ts j := by
  unfold vl
  rw [List.getD_eq_getElem?_getD, List.getD_eq_getElem?_getD, List.getElem?_map]
  cases ts[j]? <;> rfl
theorem num_of (nd : rks.Pairwise (· < ·)) (hl : rks.length = ts.length) : NumG ts z (fun j => rks.getD j 0) B (fun k => (gZ rks (ts.map (·.1)) k).or (if k = B then some (z + 1) else none)) := by
  intro k b
  have H := fun b => gZ_iff (rks := rks) (kv := ts.map (·.1)) (k := k) (b := b) nd (by rw [List.length_map]; exact hl)
  dsimp only
  cases e : gZ rks (ts.map (·.1)) k with
  | some c =>
    obtain ⟨j, hj, e1, e2⟩ := (H c).mp e
    rw [kv_at] at e2
    rw [Option.some_or]
    constructor
    · intro q
      injection q with q
      exact .inl ⟨j, by omega, e1, by rw [← q, e2]⟩
    · rintro (⟨i, hi, a1, a2⟩ | ⟨a1, _, a3⟩)
      · have := (H b).mpr ⟨i, by omega, a1, by rw [kv_at]; exact a2⟩
        rw [e] at this
        exact this
      · exact absurd (e1.symm.trans a1) (a3 j (by omega))
  | none =>
    rw [Option.none_or]
    have no : ∀ j, j < ts.length → k ≠ rks.getD j 0 := fun j hj q => by
      have := (H (vl ts j)).mpr ⟨j, by omega, q, (kv_at j).symm⟩
      rw [e] at this
      cases this
    constructor
    · intro q
      by_cases c : k = B
      · rw [if_pos c] at q
        injection q with q
        exact .inr ⟨c, q.symm, fun j hj e => no j hj (by rw [c, e])⟩
      · rw [if_neg c] at q
        cases q
    · rintro (⟨i, hi, a1, _⟩ | ⟨a1, a2, _⟩)
      · exact absurd a1 (no i hi)
      · rw [if_pos a1, a2]
/-- the ranks behind the numbers that are at most z -/
def bhL (rks kv : List Int) (z : Int) : List Int := ((rks.zip kv).filter fun x => decide (x.2 ≤ z)).map fun x => x.1 + 1
theorem bhd_of (hl : rks.length = ts.length) (hm : B ∈ start :: bhL rks (ts.map (·.1)) z) (hx : ∀ x ∈ start :: bhL rks (ts.map (·.1)) z, x ≤ B) : Bhd ts z start (fun j => rks.getD j 0) B where
  ge := hx _ (List.mem_cons_self ..)
  all j hj hv := by
    refine hx _ (List.mem_cons_of_mem _ (List.mem_map.mpr ⟨(rks.getD j 0, vl ts j), List.mem_filter.mpr ⟨?_, decide_eq_true hv⟩, rfl⟩))
    have h1 : rks[j]? = some (rks.getD j 0) := by
      rw [List.getD_eq_getElem?_getD, List.getElem?_eq_getElem (by omega)]; rfl
    have h2 : (ts.map (·.1))[j]? = some (vl ts j) := by
      rw [List.getElem?_map, ent_at hj]; rfl
    exact List.mem_of_getElem? (List.getElem?_zip_eq_some.mpr ⟨h1, h2⟩)
  is := by
    rcases List.mem_cons.mp hm with e | h
    · exact .inl e
    · obtain ⟨x, hx', e⟩ := List.mem_map.mp h
      obtain ⟨h1, h2⟩ := List.mem_filter.mp hx'
      obtain ⟨j, hj⟩ := List.mem_iff_getElem?.mp h1
      obtain ⟨a1, a2⟩ := List.getElem?_zip_eq_some.mp hj
      have jl : j < ts.length := by
        have := (List.getElem?_eq_some_iff.mp a1).1
        omega
      refine .inr ⟨j, jl, ?_, ?_⟩
      · rw [List.getElem?_map, ent_at jl] at a2
        have e2 : vl ts j = x.2 := by injection a2
        rw [e2]
        exact of_decide_eq_true h2
      · rw [← e, List.getD_eq_getElem?_getD, a1]
        rfl
end
/-- the first i ranks -/
def rkL (ts : List Ent) (z start : Int) (i : Nat) : List Int := (List.range i).map fun j => rkN ts z start (j + 1)
theorem rkL_succ (ts : List Ent) (z start : Int) (i : Nat) : rkL ts z start (i + 1) = rkL ts z start i ++ [rkN ts z start (i + 1)] := by
  unfold rkL
  rw [List.range_succ, List.map_append]
  rfl
theorem rkL_len (ts : List Ent) (z start : Int) (i : Nat) : (rkL ts z start i).length = i := by unfold rkL; rw [List.length_map, List.length_range]
theorem rkL_at {ts : List Ent} {z start : Int} {i j : Nat} (h : j < i) : (rkL ts z start i).getD j 0 = rkN ts z start (j + 1) := by
  unfold rkL
  rw [List.getD_eq_getElem?_getD, List.getElem?_map, List.getElem?_range h]
  rfl
def RkFit (ts : List Ent) (w start : Int) : Prop := ∀ j, j < ts.length → rkN ts w start (j + 1) ≤ hi ts j
/-- a row that tells of w from start on -/
def TellR (n : Int) (ts : List Ent) (w start : Int) (R : List Int) : Prop := ∃ B g f, Bhd ts w start (fun j => (rkL ts w start ts.length).getD j 0) B ∧ NumG ts w (fun j => (rkL ts w start ts.length).getD j 0) B g ∧ f ≤ w - 1 ∧ (∀ j, j < ts.length → f ≤ vl ts j) ∧ R = fillRow g f n.toNat
section
variable {n w start B : Int} {es es2 : List Ent} {g : Int → Option Int} {R : List Int}
theorem fit_conv (h : RkFit (tightL n es) w start) : ∀ j, j < es.length → rkN (tightL n es) w start (j + 1) ≤ thi n es j := fun j hj => by
  have := h j (by rw [tight_len]; exact hj)
  rwa [(tl_parts (n := n) hj).2.2] at this
theorem bhd_conv (h : Bhd (tightL n es) w start (fun j => (rkL (tightL n es) w start (tightL n es).length).getD j 0) B) : Bhd es w start (fun j => rkN (tightL n es) w start (j + 1)) B where
  ge := h.ge
  all j hj hv := by
    have hj' : j < (tightL n es).length := by rw [tight_len]; exact hj
    have := h.all j hj' (by rw [(tl_parts (n := n) hj).1]; exact hv)
    rwa [rkL_at hj'] at this
  is := by
    rcases h.is with e | ⟨j, hj, h1, h2⟩
    · exact .inl e
    · have hj' := hj
      rw [tight_len] at hj'
      rw [rkL_at hj] at h2
      exact .inr ⟨j, hj', by rw [← (tl_parts (n := n) hj').1]; exact h1, h2⟩
theorem num_conv (h : NumG (tightL n es) w (fun j => (rkL (tightL n es) w start (tightL n es).length).getD j 0) B g) : NumG es w (fun j => rkN (tightL n es) w start (j + 1)) B g := by
  intro k b
  rw [h k b]
  constructor
  · rintro (⟨j, hj, h1, h2⟩ | ⟨h1, h2, h3⟩)
    · have hj' := hj
      rw [tight_len] at hj'
      dsimp only at h1
      rw [rkL_at hj] at h1
      exact .inl ⟨j, hj', h1, by rw [h2, (tl_parts (n := n) hj').1]⟩
    · refine .inr ⟨h1, h2, fun j hj => ?_⟩
      have hj' : j < (tightL n es).length := by rw [tight_len]; exact hj
      have := h3 j hj'
      dsimp only at this
      rwa [rkL_at hj'] at this
  · rintro (⟨j, hj, h1, h2⟩ | ⟨h1, h2, h3⟩)
    · have hj' : j < (tightL n es).length := by rw [tight_len]; exact hj
      exact .inl ⟨j, hj', by dsimp only; rw [rkL_at hj']; exact h1, by rw [h2, (tl_parts (n := n) hj).1]⟩
    · refine .inr ⟨h1, h2, fun j hj => ?_⟩
      have hj' := hj
      rw [tight_len] at hj'
      dsimp only
      rw [rkL_at hj]
      exact h3 j hj'
theorem tell_sound (v : Valid n es) (hfit : RkFit (tightL n es) w start) (T : TellR n (tightL n es) w start R) : (R.length : Int) = n ∧ R.Pairwise (· ≤ ·) ∧ Lvs R es := by
  obtain ⟨B, g, f, h1, h2, h3, h4, rfl⟩ := T
  have n1 := v.n1
  have hR := rk_Rks (fit_conv hfit)
  have f2 : ∀ j, j < es.length → f ≤ vl es j := fun j hj => by
    have := h4 j (by rw [tight_len]; exact hj)
    rwa [(tl_parts (n := n) hj).1] at this
  refine ⟨by rw [fillRow_len]; omega, (num_asc hR v (bhd_conv h1) (num_conv h2) h3 f2).row _, num_leaves hR (num_conv h2)⟩
/-- if all that tell leave the other summary, each row does -/
theorem tell_all {s : List Int} (v : Valid n es) (v2 : Valid n es2) (hs : s.Pairwise (· ≤ ·)) (hl : (s.length : Int) = n) (h : Lvs s es)
    (hall : ∀ j, j < es2.length → ∀ start, 1 ≤ start → start ≤ n → RkFit (tightL n es) (vl es2 j) start → ∃ R, TellR n (tightL n es) (vl es2 j) start R ∧ Lvs R es2) : Lvs s es2 := by
  refine all_told v2 hs hl fun j hj => ?_
  have n1 := v.n1
  have c0 := cnt_le s (vl es2 j)
  obtain ⟨start, est⟩ : ∃ start, start = min (cnt s (vl es2 j) + 1) n := ⟨_, rfl⟩
  obtain ⟨F, hF⟩ := rk_of v h hs hl est
  have fit : RkFit (tightL n es) (vl es2 j) start := fun i hi => by
    have hi' := hi
    rw [tight_len] at hi'
    have := hF i hi'
    rw [(tl_parts (n := n) hi').2.2]
    omega
  obtain ⟨R, ⟨B, g, f, h1, h2, h3, h4, rfl⟩, hL⟩ := hall j hj start (by omega) (by omega) fit
  have f2 : ∀ j, j < es.length → f ≤ vl es j := fun j hj => by
    have := h4 j (by rw [tight_len]; exact hj)
    rwa [(tl_parts (n := n) hj).1] at this
  exact ⟨_, fun k k1 k2 hk => narrow (rk_Rks (fit_conv fit)) v (bhd_conv h1) (num_conv h2) h3 f2 hs hl (fun i hi => ⟨(hF i hi).1, (hF i hi).2.2.1, (hF i hi).2.2.2⟩) n1 est k1 k2 hk, hL⟩
end
theorem tlo_tt {n : Int} {es : List Ent} : ∀ j, j < es.length → tlo (tightL n es) j = tlo es j
  | 0, h => by
    rw [tlo_zero, lo_of (tight_at h)]
    have := tlo_pos es 0
    show max (tlo es 0) 1 = tlo es 0
    omega
  | j + 1, h => by
    rw [tlo_succ, tlo_tt j (by omega), lo_of (tight_at h)]
    have := tlo_rise es j
    show max (tlo es (j + 1)) (tlo es j + 1) = tlo es (j + 1)
    omega
theorem thi_tt {n : Int} {es : List Ent} : ∀ (m j : Nat), j < es.length → es.length - 1 - j = m → thi n (tightL n es) j = thi n es j
  | 0, j, h, e => by
    have ej : j = es.length - 1 := by omega
    have h1 := thi_last (n := n) (es := tightL n es) (by rw [tight_len]; omega)
    rw [tight_len, ← ej] at h1
    rw [h1, hi_of (tight_at h)]
    have := thi_le (n := n) h
    show min (thi n es j) n = thi n es j
    omega
  | m + 1, j, h, e => by
    have h1 := thi_step (n := n) (es := tightL n es) (j := j) (by rw [tight_len]; omega)
    rw [h1, thi_tt m (j + 1) (by omega) (by omega), hi_of (tight_at h)]
    have := thi_step (n := n) (es := es) (j := j) (by omega)
    show min (thi n es j) (thi n es (j + 1) - 1) = thi n es j
    omega
theorem fits_tt {n : Int} {es : List Ent} (h : Fits n es) : Fits n (tightL n es) := fun j hj => by
  rw [tight_len] at hj
  rw [tlo_tt j hj, thi_tt _ j hj rfl]
  exact h j hj
theorem lvs_tt {n : Int} {es : List Ent} {R : List Int} (h : Lvs R (tightL n es)) : Lvs R es := by
  obtain ⟨F, f1, f2, _⟩ := Lv.fn h
  rw [tight_len] at f1 f2
  refine Lvs.of (n := n) F (fun j hj => ?_) f2
  obtain ⟨a, b, c⟩ := f1 j hj
  obtain ⟨p1, p2, p3⟩ := tl_parts (n := n) hj
  exact ⟨by rw [← p2]; exact a, by rw [← p3]; exact b, by rw [← p1]; exact c⟩
end SR

set_option Elab.async false
set_option linter.all false
set_option maxRecDepth 100000
set_option maxHeartbeats 4000000
/-! Tuples of which it is known that they have no dict of their own; dict(t) of a tuple of pairs; d.update(e); min(d.values(), default=x). -/
namespace SR
open PySem PySem.Spec PySem.Calls PyProof.Rows L2
/-- a tuple as the law makes it: no dict of its own -/
def PlT (H : Hp) (a : Addr) (xs : List V) : Prop := ∃ o : Obj, H a = some (.frz o (.tup xs)) ∧ o.dict = none
theorem PlT.mono {H H' : Hp} (s : Same H H') {a : Addr} {xs : List V} (h : PlT H a xs) : PlT H' a xs := let ⟨o, e, d⟩ := h; ⟨o, s _ _ e, d⟩
theorem PlT.seq {K : PySem.W.Frag} {H : Hp} {a : Addr} {xs : List V} (h : PlT H a xs) : SqT K H a xs := let ⟨o, e, _⟩ := h; .inl (.inr ⟨o, e⟩)
theorem PlT.new {H : Hp} {p : Addr} {o : Obj} {xs : List V} (d : o.dict = none) : PlT (upd H p (.frz o (.tup xs))) p xs := ⟨o, upd_same, d⟩
def tTupF (t : TA) : TE := fun σ H Q => t σ H fun xs H1 => xs.length ≤ sizeLine ∧ ∀ (p : Addr) (o : Obj), H1 p = none → o.dict = none → Q (.ref p) (upd H1 p (.frz o (.tup xs)))
section
variable {X : Cx} {es : List Expr} {pos : Pos} {t : TA}
theorem pe_tupF {x1} (h : PA X es t) : PE X (.Tuple es x1 pos) (tTupF t) := by
  refine ⟨fun pins s σ H Q I hq => ?_⟩
  refine wpAny_Tuple_spliced (thn (h.run pos pins s σ H _ I hq) fun us s1 ⟨xs, H1, I1, r, z, q⟩ => ⟨by rw [← r.length]; exact z, ?_⟩)
  have hf : H1 s1.heap.objs.size = none := I1.hok.fresh (Nat.le_refl _)
  refine ⟨.ref s1.heap.objs.size, upd H1 s1.heap.objs.size (.frz { cls := .type "tuple", data := .seq us.toArray } (.tup xs)), I1.laid (t' := s1.toks) (fun b u e => Heap.get?_push_of_some _ e) (Nat.le_refl _) ?_, rfl, q _ _ hf rfl⟩
  exact ⟨Heap.get?_push_size _ rfl, z, us, r, ⟨_, Heap.get?_push_size _ rfl, rfl, _, rfl⟩⟩
def rTupF (K : PySem.W.Frag) : List V → Hp → VK → Prop := fun xs H Q => ∃ p ys, xs = [.ref p] ∧ SqL K H p ys ∧ ∀ (l : Addr) (o : Obj), H l = none → o.dict = none → Q (.ref l) (upd H l (.frz o (.tup ys)))
theorem call_tupF : CallR X (.type "tuple") (rTupF X.K) := by
  intro pins s σ H xs us Q I r h
  obtain ⟨p, ys, rfl, hq, q⟩ := h
  obtain ⟨u, rfl, rx⟩ := vals1 r
  cases rx
  obtain ⟨its, r', pl, hz⟩ := I.list hq
  have hlen := r'.length
  refine call_tuple_list pl.isList (fun h' kp => ?_) (by simp only [List.size_toArray] <;> omega)
  have I1 : Inv X pins σ H { s with heap := h' } := I.kept (t' := s.toks) kp
  have I2 : Inv X pins σ (upd H h'.objs.size (.frz { cls := .type "tuple", data := .seq its.toArray } (.tup ys))) { s with heap := h'.push { cls := .type "tuple", data := .seq its.toArray } } :=
    I1.laid (t' := s.toks) (fun b o e => Heap.get?_push_of_some _ e) (Nat.le_refl _) (show ObjOk X.prog X.w _ _ _ (.frz { cls := .type "tuple", data := .seq its.toArray } (.tup ys)) from ⟨Heap.get?_push_size _ rfl, hz, its, r', IsTup.new _ _⟩)
  exact ⟨.ref h'.objs.size, _, I2, rfl, q _ _ (I1.hok.fresh (Nat.le_refl _)) rfl⟩
theorem pairs_of2 {pins : List (Addr × Obj)} {σ : L2.St} {H : Hp} {s : Shared} (I : Inv X pins σ H s) : ∀ {ps : List Addr} {kvs : List (Key × V)}, Paired (fun p kv => SqT X.K H p [kV kv.1, kv.2]) ps kvs →
    ∃ (prs : List (Key × Value)) (vs : List (Value × Value)), KV kvs prs ∧ prs.length = ps.length ∧ vs.length = ps.length ∧
      ∀ (j : Nat) (u v : Value), vs[j]? = some (u, v) → ∃ (k : Key) (b : Addr), prs[j]? = some (k, v) ∧ ps[j]? = some b ∧ IsTup s.heap b #[u, v] ∧ (mixKind X.prog X.w).is k u = true
  | _, _, .nil => ⟨[], [], .nil, rfl, rfl, fun j u v e => by simp at e⟩
  | _, _, .cons (a := p) (b := kv) h t => by
    obtain ⟨prs, vs, r, hl, hl2, hp⟩ := pairs_of2 I t
    obtain ⟨its, rv, ht, _⟩ := I.tuple h
    obtain ⟨u, y, ei, ru, ry⟩ := vals2 rv
    subst ei
    refine ⟨(kv.1, y) :: prs, (u, y) :: vs, .cons ⟨rfl, ry⟩ r, by rw [List.length_cons, List.length_cons, hl], by rw [List.length_cons, List.length_cons, hl2], fun j u' v' e => ?_⟩
    cases j with
    | zero =>
      have e' : (u, y) = (u', v') := Option.some.inj e
      cases e'
      exact ⟨kv.1, p, rfl, rfl, ht, kV_is ru⟩
    | succ j =>
      obtain ⟨k, b, e1, e2, e3, e4⟩ := hp j u' v' (by simpa using e)
      exact ⟨k, b, by simpa using e1, by simpa using e2, e3, e4⟩
/-- dict(t) of a tuple of pairs -/
def rDictT (K : PySem.W.Frag) : List V → Hp → VK → Prop := fun xs H Q => ∃ (a : Addr) (ps : List Addr) (kvs : List (Key × V)), xs = [.ref a] ∧ PlT H a (ps.map V.ref) ∧ Paired (fun p kv => SqT K H p [kV kv.1, kv.2]) ps kvs ∧
    ∀ p, H p = none → Q (.ref p) (upd H p (.dK (mergeK [] kvs)))
theorem call_dictT (hcalm : X.calm = true) : CallR X (.type "dict") (rDictT X.K) := by
  intro pins s σ H xs us Q I r q
  obtain ⟨a, ps, kvs, ex, ⟨o, hfz, hdn⟩, hp, q⟩ := q
  subst ex
  obtain ⟨u, eu, rx⟩ := vals1 r
  subst eu
  cases rx
  obtain ⟨ho, hz, its, rv, o', ho', hc, n, hdat⟩ := I.hok a _ hfz
  rw [ho] at ho'
  cases ho'
  have ei := refs_at rv
  subst ei
  rw [List.length_map] at hz
  obtain ⟨prs, vs, rel, hl, hl2, hpr⟩ := pairs_of2 I hp
  have items : PairItems s.heap (ps.map Value.ref).toArray (fun j => ps.getD j 0) vs := by
    refine ⟨by rw [List.size_toArray, List.length_map, hl2], fun j k v e => ?_⟩
    obtain ⟨key, b, e1, e2, e3, e4⟩ := hpr j k v e
    have eb : ps.getD j 0 = b := by rw [List.getD_eq_getElem?_getD, e2]; rfl
    dsimp only
    rw [eb]
    exact ⟨by simp [e2], .inl e3⟩
  refine PySem.call_dict_pairs (knd := mixKind X.prog X.w) (kvs := prs) (PairArg.tuple a (ps.map Value.ref).toArray (fun j => ps.getD j 0) vs) (I.ok.hd hcalm) ⟨⟨o, n, ho, hc, hdn, hdat⟩, items⟩ ⟨by rw [hl, hl2], fun j key v e => ?_⟩ (by rw [hl2]; exact hz) fun h' tk hd' k => ?_
  · obtain ⟨key', b, e1, e2, e3, e4⟩ := hpr j key v e
    exact ⟨key', e1, e4⟩
  · have hm : (s.heap.objs.size == sysModules) = false := beq_eq_false_iff_ne.mpr (Nat.ne_of_gt I.big)
    have hlen : (mergeK [] kvs).length ≤ sizeLine := by
      refine Nat.le_trans (length_mergeK kvs []) ?_
      rw [List.length_nil, Nat.zero_add, rel.length, hl]
      exact hz
    exact ⟨.ref s.heap.objs.size, upd H s.heap.objs.size (.dK (mergeK [] kvs)), I.laid (t' := tk) (fun b o e => k b o (by simp) e) (Nat.le_refl _) (show ObjOk X.prog X.w _ _ _ (.dK (mergeK [] kvs)) from ⟨hlen, hm, merged [] prs, KV.merge rel .nil, hd'⟩), rfl, q _ (I.hok.fresh (Nat.le_refl _))⟩
end
/-- d.update(e), e a dict -/
def tDUpd (td te : TE) : TE := fun σ H Q => td σ H fun x H1 => ∃ a, x = .ref a ∧ IsD H1 a ∧ te σ H1 fun y H2 => ∃ (b : Addr) (kvs more : List (Key × V)), y = .ref b ∧ b ≠ a ∧ H2 a = some (.dK kvs) ∧ H2 b = some (.dK more) ∧ kvs.length + more.length ≤ sizeLine ∧
  Q .non (upd H2 a (.dK (mergeK kvs more)))
section
variable {X : Cx} {o e : Expr} {td te : TE} {apos cpos : Pos}
theorem pe_dupd (ho : PE X o td) (he : PE X e te) (m : M1 X o "update" apos e cpos) : PE X (.Call (.Attribute o "update" apos) [e] [] cpos) (tDUpd td te) := by
  refine ⟨fun pins s σ H Q I h => ?_⟩
  refine wpAny_Call_method m.base m.few m.line PySem.F.plainAttrs_dict PySem.F.slot_dict_update PySem.F.type_dict_update (thn (ho.run pins s σ H _ I h) fun u s1 ⟨x, H1, I1, rx, a, ex, d, q1⟩ => ?_)
  subst ex
  obtain rfl : u = Value.ref a := rx
  obtain ⟨t1, t2, _⟩ := isD_at I1 d
  refine ⟨t1, t2, ?_⟩
  rw [m.trees]
  refine Calls.callWith_builtin rfl (Calls.evalArgs_plain (Calls.spliced_cons (thn (he.run pins s1 σ H1 _ I1 q1) fun iv s2 ⟨y, H2, I2, ry, b, kvs, more, ey, nba, ha, hb, hl, q2⟩ => Calls.spliced_nil ?_)))
  subst ey
  obtain rfl : iv = Value.ref b := ry
  obtain ⟨z, hd, vs, rel, dd⟩ := dk_of I2.hok ha
  obtain ⟨z2, hd2, vs2, rel2, dd2⟩ := dk_of I2.hok hb
  have l1 : kvs.length = vs.length := Paired.length rel
  have l2 : more.length = vs2.length := Paired.length rel2
  refine call_meetsIn PySem.F.slot_dict_update dd.typeIs PySem.F.entry_dict_update (PySem.F.args_dict_update_2 _ _) (meets_dict_update (mixKind X.prog X.w) a b (Ne.symm nba) hd2) ⟨vs, vs2, dd, dd2, by omega, fun h' hm _ hs => ?_⟩
  have hlen : (mergeK kvs more).length ≤ sizeLine := Nat.le_trans (length_mergeK more kvs) hl
  have he' : ∃ q, h'.get? a = some q := let ⟨q, _, _, hq, _⟩ := hm; ⟨q, hq⟩
  exact ⟨.non, _, d_write (t' := s2.toks) I2 (by rw [ha]; exact True.intro) hs he' (dk_new hlen hd (KV.merge rel2 rel) hm), rfl, q2⟩
/-- d.values() -/
def tVals (td : TE) : TE := fun σ H Q => td σ H fun x H1 => ∃ (a : Addr) (kvs : List (Key × V)), x = .ref a ∧ H1 a = some (.dK kvs) ∧ ∀ p, H1 p = none → Q (.ref p) (upd H1 p (viewO "dict_values" p a))
theorem pe_vals (he : PE X e td) (hbase : attributeBase e "values" X.env (eval e X.env) = eval e X.env := by rfl) (hline : (apos.endLine == cpos.line) = true := by rfl) : PE X (.Call (.Attribute e "values" apos) [] [] cpos) (tVals td) := by
  refine ⟨fun pins s σ H R I h => ?_⟩
  refine wpAny_Call_method (T := "dict") (id := "dict.values") hbase rfl hline F.plainAttrs_dict F.slot_dict_values F.type_dict_values (thn (he.run pins s σ H _ I h) fun u s1 ⟨x, H1, I1, rx, a, kvs, ex, hd, q⟩ => ?_)
  subst ex
  obtain rfl : u = Value.ref a := rx
  obtain ⟨z, hs, vs, rel, dd⟩ := dk_of I1.hok hd
  refine ⟨dd.typeIs, dd.mapOf.noDict, ?_⟩
  have fin : EP X pins σ R (.ref s1.heap.objs.size) { s1 with heap := s1.heap.push { cls := .type "dict_values", data := .fields #[.ref a] } } :=
    ⟨.ref s1.heap.objs.size, _, I1.laid (t' := s1.toks) (fun b o q => Heap.get?_push_of_some _ q) (Nat.le_refl _) (viewO_ok (Heap.get?_push_size _ rfl)), rfl, q _ (I1.hok.fresh (Nat.le_refl _))⟩
  show wpAny _ _ (callWith cpos (.builtin "dict.values") [.ref a] [] []) _ X.xe s1
  exact method_meetsIn F.slot_dict_values F.entry_dict_values rfl (PySem.evalArgs_none ⟨rfl, dd.typeIs, F.args_dict_values_1 _, _, meets_dict_values (mixKind X.prog X.w) a hs, ⟨vs, dd⟩, fin⟩)
end
end SR
namespace SR
open PySem PySem.W PySem.Calls PyProof.Rows
/-- min(v, default=d), v the values of a dict -/
theorem min_dfltV {prog : Program} {w : World} {A : Around} {E : Value → Shared → Prop} {s : Shared} {l a : Addr} {ob : Obj} {es : Array DictEntry} {ep : Nat} {ns : List Int} {d : Value} {Q : Value → Shared → Prop} (hh : A.handled = none)
    (hv : s.heap.get? l = some (DSub.viewOb "dict_values" a)) (ho : s.heap.get? a = some ob) (hdd : ob.data = .dict es ep) (hsz : es.size = ns.length) (hP : ∀ (i : Nat) (e : DictEntry), es[i]? = some e → ∃ t, e.val = .int (ns.getD i 0) t)
    (h0 : ns = [] → ∀ (h' : Heap) (tk : Nat), (∀ b o, s.heap.get? b = some o → h'.get? b = some o) → Q d { s with heap := h', toks := tk })
    (h : ∀ (h' : Heap) (tk : Nat) (m : Int) (t' : Tok), (∀ b o, s.heap.get? b = some o → h'.get? b = some o) → m ∈ ns → (∀ a ∈ ns, m ≤ a) → Q (.int m t') { s with heap := h', toks := tk }) :
    wpAny (model prog w) A (call (.builtin "min") [.ref l] [("default", d)]) Q E s := by
  have hname : toString "min" ++ toString ".loop" = "min.loop" := by decide
  have hll := Heap.lt_size ho
  refine kmk_tree F.kind_min F.plain_min F.entry_min rfl ?_
  refine wpAny_bind (wpAny_of_eq (show _ = pure [none, some d] from rfl) ?_)
  refine wpAny_bind (wpAny_pure ?_)
  refine wpAny_bind (DSub.iter_vals hv ho hdd ?_)
  refine wpAny_bind (wpAny_newList ?_)
  rw [hname]
  refine wpAny_pure ⟨plainId_quiet F.plain_min_loop _, ?_⟩
  obtain ⟨vo, evo⟩ : ∃ vo, vo = DVw.valOb a 0 es.size ep := ⟨_, rfl⟩
  rw [← evo]
  have k1 : ∀ b o, s.heap.get? b = some o → ((s.heap.push vo).push { cls := .type "list", data := .seq #[] }).get? b = some o := fun b o e => Heap.get?_push_of_some _ (Heap.get?_push_of_some _ e)
  have gI : ((s.heap.push vo).push { cls := .type "list", data := .seq #[] }).get? s.heap.objs.size = some vo := by
    subst evo
    exact Heap.get?_push_of_some _ (Heap.get?_push_size _ rfl)
  have gS : ((s.heap.push vo).push { cls := .type "list", data := .seq #[] }).get? (s.heap.push vo).objs.size = some { cls := .type "list", data := .seq #[] } := Heap.get?_push_size _ rfl
  have hS : (s.heap.push vo).objs.size = s.heap.objs.size + 1 := Heap.size_push ..
  have W := DSub.walksVal (prog := prog) (w := w) (A := A.in1) (I := s.heap.objs.size) (a := a) (ob := ob) (P := fun i v => ∃ t, v = .int (ns.getD i 0) t) hh (Nat.ne_of_lt hll) hdd hP
  have hSf : (s.heap.push vo).objs.size ∉ [s.heap.objs.size, a] := by
    rw [hS]
    intro hm
    rcases List.mem_cons.mp hm with e | e
    · exact Nat.succ_ne_self _ e
    · have e2 : s.heap.objs.size + 1 = a := List.mem_singleton.mp e
      exact absurd hll (by rw [← e2]; exact Nat.not_lt.mpr (Nat.le_succ _))
  have fresh : ∀ b o, s.heap.get? b = some o → b ∉ [s.heap.objs.size] ∧ b ≠ (s.heap.push vo).objs.size := fun b o e => by
    have hb : b < s.heap.objs.size := Heap.lt_size e
    rw [hS]
    exact ⟨fun hm => Nat.ne_of_lt hb (List.mem_singleton.mp hm), Nat.ne_of_lt (Nat.lt_succ_of_lt hb)⟩
  have st0 : ((s.heap.push vo).push { cls := .type "list", data := .seq #[] }).get? s.heap.objs.size = some (DVw.valOb a 0 es.size ep) ∧ ((s.heap.push vo).push { cls := .type "list", data := .seq #[] }).get? a = some ob := ⟨by rw [gI, evo], k1 _ _ ho⟩
  cases ns with
  | nil =>
    have e0 : es.size = 0 := hsz
    rw [e0] at W st0
    refine mn_none W hSf st0 gS fun h' tk keep => ?_
    exact h0 rfl h' tk fun b o e => keep b o (fresh b o e).1 (fresh b o e).2 (k1 b o e)
  | cons z zs =>
    have hn : es.size = zs.length + 1 := hsz
    refine mn_first W (CmpOf.ints_lt (fun i => (z :: zs).getD i 0) fun i v hv => hv) hSf (by omega) st0 gS fun v h' tk hv keep => ?_
    obtain ⟨t, rfl⟩ := hv
    obtain ⟨a1, a2⟩ := argBest_lt (fun i => (z :: zs).getD i 0) (es.size - 1)
    refine h h' tk _ t (fun b o e => keep b o (fresh b o e).1 (fresh b o e).2 (k1 b o e)) (getD_in (by rw [List.length_cons]; omega)) fun x hx => ?_
    obtain ⟨i, hi', rfl⟩ := List.mem_iff_getElem.mp hx
    have := a2 i (by rw [List.length_cons] at hi'; omega)
    rw [List.getD_eq_getElem?_getD (i := i), List.getElem?_eq_getElem hi'] at this
    exact this
end SR
namespace SR
open PySem PySem.Spec PyProof.Rows L2
theorem pairs_val {P : Program} {w : World} : ∀ {es : List DictEntry} {vs : List (Key × Value)} {i : Nat} {e : DictEntry}, Pairs (mixKind P w) es vs → es[i]? = some e → ∃ kv, vs[i]? = some kv ∧ e.val = kv.2
  | _, _, _, _, .nil, h => by simp at h
  | _, _, 0, _, .cons (kv := kv) _ h2 _, h => ⟨kv, rfl, by have e := Option.some.inj h; rw [← e]; exact h2⟩
  | _, _, i + 1, _, .cons _ _ t, h => pairs_val (i := i) t (by simpa using h)
theorem kv_back : ∀ {kvs : List (Key × V)} {vs : List (Key × Value)} {i : Nat} {q : Key × Value}, KV kvs vs → vs[i]? = some q → ∃ p, kvs[i]? = some p ∧ RelV p.2 q.2
  | _, _, _, _, .nil, h => by simp at h
  | p :: _, _, 0, _, .cons r _, h => ⟨p, rfl, by have e := Option.some.inj h; rw [← e]; exact r.2⟩
  | _, _, i + 1, _, .cons _ t, h => kv_back (i := i) t (by simpa using h)
def rMinVD : List V → List V → Hp → VK → Prop := fun vs zs H Q => ∃ (p a : Addr) (kvs : List (Key × V)) (ns : List Int) (d : V), vs = [.ref p] ∧ zs = [d] ∧ H p = some (viewO "dict_values" p a) ∧ H a = some (.dK kvs) ∧ kvs.map Prod.snd = ns.map V.int ∧ ∀ x, OptMin ns d x → Q x H
theorem cr_minVD {X : Cx} (hc : X.calm = true) : CallRK X (.builtin "min") ["default"] rMinVD := by
  intro pins s σ H xs zs us ws Q I r1 r2 h
  obtain ⟨p, a, kvs, ns, d, rfl, rfl, hp, ha, hns, h1⟩ := h
  rw [Vals.ref1 r1]
  have hv : s.heap.get? p = some (DSub.viewOb "dict_values" a) := (show ObjOk X.prog X.w H s.heap p (viewO "dict_values" p a) from I.hok p _ hp).1
  obtain ⟨z, hs, vs, rel, o, es, ep, ho, hx, hdt, r⟩ := dk_of I.hok ha
  have lk : kvs.length = vs.length := Paired.length rel
  have lns : kvs.length = ns.length := by
    have e := congrArg List.length hns
    rw [List.length_map, List.length_map] at e
    exact e
  have l1 := r.2.1.length
  rw [Array.length_toList] at l1
  have hP : ∀ (i : Nat) (e : DictEntry), es[i]? = some e → ∃ t, e.val = .int (ns.getD i 0) t := by
    intro i e he
    obtain ⟨kv, hkv, ev⟩ := pairs_val r.2.1 (i := i) (e := e) (by rw [Array.getElem?_toList]; exact he)
    obtain ⟨kv', hkv', rv⟩ := kv_back rel hkv
    have hn : (ns.map V.int)[i]? = some kv'.2 := by rw [← hns, List.getElem?_map, hkv']; rfl
    rw [List.getElem?_map] at hn
    cases e3 : ns[i]? with
    | none => rw [e3] at hn; cases hn
    | some m =>
      rw [e3] at hn
      have e4 : kv'.2 = V.int m := (Option.some.inj hn).symm
      rw [e4] at rv
      obtain ⟨t, et⟩ := rv
      exact ⟨t, by rw [ev, et, List.getD_eq_getElem?_getD, e3]; rfl⟩
  cases r2 with
  | cons rd rn =>
    rename_i d' ws'
    cases rn
    show wpAny _ _ (call (.builtin "min") [.ref p] [("default", d')]) _ _ _
    refine min_dfltV (I.ok.hd hc) hv ho hdt (by omega) hP (fun e h' tk k => ?_) (fun h' tk m t' k hm hle => ?_)
    · exact ⟨d, H, I.kept k, rd, h1 _ (.inl ⟨e, rfl⟩)⟩
    · exact ⟨.int m, H, I.kept k, ⟨t', rfl⟩, h1 _ (.inr ⟨m, rfl, hm, hle⟩)⟩
end SR

set_option Elab.async false
set_option linter.all false
set_option maxRecDepth 100000
set_option maxHeartbeats 4000000
/-! name = {k: v for ..}, the name a local. -/
namespace SR
open PySem PySem.Spec PyProof.Rows L2
section
variable {X : Cx}
abbrev CompP (X : Cx) (sp : Scope) (R : Cx → Prop) : Prop := ∀ (s : Shared) (H : Hp) (A : Addr) (cs : List (Str × Addr)) (fq : List Addr), R (X.blk s H sp (compEnvC sp cs A X.env) fq)
theorem ps_setDc {j : Nat} {name : Str} {np : Pos} {ke ve tgt src : Expr} {cs : List Expr} {sp : Scope} {own : List (Str × Nat)} {cpos apos : Pos} {wi : TI} {g : TG} {tt : TT} {tk tv : TE} (calm : X.calm = true) (nodup : X.N.Nodup) (hj : X.N[j]? = some name) (loc : X.env.scope.names.lookup name = some .local)
    (sw : swapsWith (.DictComp ke ve [⟨tgt, src, cs, 0⟩] sp cpos) (some (.Name name np)) apos.line X.env = pure true) (hi : PI X tgt src wi) (ok : BlkOk X.N X.env.scope sp own)
    (hg : CompP X sp fun Y => PG Y tgt g) (ht : CompP X sp fun Y => PTs Y cs tt) (hk : CompP X sp fun Y => PE Y ke tk) (hv : CompP X sp fun Y => PE Y ve tv) (hs : ∀ x, foldedSetIterable src X.env x = pure x := by intro _; rfl) :
    PS X (.Assign [.Name name np] (.DictComp ke ve [⟨tgt, src, cs, 0⟩] sp cpos) apos) (tAsg (tDc wi g tt tk tv (own.map (·.2))) (gName j)) := by
  refine ⟨fun pins s σ H D I h => ?_⟩
  rw [exec_Assign_Name_used _ _ _ _ sw]
  refine wpAny_bind (wpAny_standAt (wpAny_bind ?_))
  show wpAny _ X.A (do let _ ← comprehension (.DictComp ke ve [⟨tgt, src, cs, 0⟩] sp cpos) sp X.env (firstIterPos [⟨tgt, src, cs, 0⟩] cpos) newDict false (eval src X.env) (some (assign (.Name name np) X.env))) _ _ s
  have h0 : tDc wi g tt tk tv (own.map (·.2)) σ H (fun x H1 => gName j x σ H1 D.nx) := h
  refine wpAny_bind (thn (dc_core (Qf := fun _ s' => SP X pins D .next s') calm nodup I hi ok hg ht hk hv hs h0 fun L B s1 m H1 I1 q1 hn fq => ?_) fun _ s1 h1 => wpAny_pure (wpAny_pure h1))
  show wpAny _ _ (assign (.Name name np) X.env (.ref L)) _ _ _
  refine wpAny_assign_Name (store_ok2 (v := V.ref L) I1 nodup hj (.inl loc) rfl (fun s2 I2 ⟨b, sb, hb⟩ => ?_) (.inr loc))
  obtain ⟨q0, q1', q2, q3, q4, q5⟩ := fq
  have ne : B ≠ b := by
    rcases hb with z | z
    · rw [z]; exact q1'
    · exact fun e => q4 name b z e.symm
  refine ⟨m, hn.sameBut sb ne, fun h3 sb3 => ⟨_, H1, ?_, q1⟩⟩
  exact I2.turned (t' := s2.toks) (fun c o hc e => (sb3.2 c hc).trans e) q0 q1' q3 q4 q5
theorem swd_true {ke ve : Expr} {gs : List Comprehension} {sp : Scope} {cpos np : Pos} {name : Str} {l : Nat} {env : Env} (fk : env.scope.kind = .function) (loc : env.scope.names.lookup name = some .local) (sl : (np.line == cpos.line) = true)
    (no : (sp.names.any fun (n, k) => n == name && (k == .local || k == .cell)) = false) : swapsWith (.DictComp ke ve gs sp cpos) (some (.Name name np)) l env = pure true := by
  have e1 : env.kindOf name = some .local := loc
  have e2 : env.blockKind = .function := by unfold Env.blockKind; rw [fk]; rfl
  unfold swapsWith
  simp only [e2, e1, no, Expr.pos, sl]
  rfl
end
end SR

set_option Elab.async false
set_option linter.all false
set_option maxRecDepth 100000
set_option maxHeartbeats 4000000
/-! Told numbers: entries made narrow by them, the row that has them. -/
namespace SR
/-- the nearest ranks that an entry has beside told numbers -/
def lstT (low v : Int) (T : List (Int × Int)) : Int := topD low ((T.filter fun p => decide (p.2 < v)).map fun p => p.1 + 1)
def grtT (high v : Int) (T : List (Int × Int)) : Int := botD high ((T.filter fun p => decide (v < p.2)).map fun p => p.1 - 1)
def narE (fs : List Ent) (T : List (Int × Int)) : List Ent := fs.map fun e => (e.1, lstT e.2.1 e.1 T, grtT e.2.2 e.1 T)
/-- all of them have a rank left -/
def NarB (fs : List Ent) (T : List (Int × Int)) : Prop := ∀ e ∈ fs, lstT e.2.1 e.1 T ≤ grtT e.2.2 e.1 T
def Nar (n : Int) (fs : List Ent) (T : List (Int × Int)) : Prop := NarB fs T ∧ Fits n (narE fs T)
instance (n : Int) (es : List Ent) : Decidable (Fits n es) := inferInstanceAs (Decidable (∀ j, j < es.length → tlo es j ≤ thi n es j))
instance (fs : List Ent) (T : List (Int × Int)) : Decidable (NarB fs T) := inferInstanceAs (Decidable (∀ e ∈ fs, lstT e.2.1 e.1 T ≤ grtT e.2.2 e.1 T))
instance (n : Int) (fs : List Ent) (T : List (Int × Int)) : Decidable (Nar n fs T) := inferInstanceAs (Decidable (_ ∧ _))
/-- the row has what is told -/
def Has (s : List Int) (T : List (Int × Int)) : Prop := ∀ p ∈ T, rat s p.1 = p.2
/-- ranks of a row of n -/
def Rkd (n : Int) (T : List (Int × Int)) : Prop := ∀ p ∈ T, 1 ≤ p.1 ∧ p.1 ≤ n
/-- told numbers that some row can have -/
def Cons (T : List (Int × Int)) : Prop := ∀ p ∈ T, ∀ q ∈ T, (p.1 < q.1 → p.2 ≤ q.2) ∧ (p.1 = q.1 → p.2 = q.2)
section
variable {n : Int} {fs es : List Ent} {T : List (Int × Int)} {s : List Int}
theorem lst_ge {low v : Int} : low ≤ lstT low v T ∧ ∀ p ∈ T, p.2 < v → p.1 + 1 ≤ lstT low v T := by
  obtain ⟨a, b⟩ := topD_ge ((T.filter fun p => decide (p.2 < v)).map fun p => p.1 + 1) low
  exact ⟨a, fun p hp h => b _ (List.mem_map.mpr ⟨p, List.mem_filter.mpr ⟨hp, decide_eq_true h⟩, rfl⟩)⟩
theorem grt_le {high v : Int} : grtT high v T ≤ high ∧ ∀ p ∈ T, v < p.2 → grtT high v T ≤ p.1 - 1 := by
  obtain ⟨a, b⟩ := botD_le ((T.filter fun p => decide (v < p.2)).map fun p => p.1 - 1) high
  exact ⟨a, fun p hp h => b _ (List.mem_map.mpr ⟨p, List.mem_filter.mpr ⟨hp, decide_eq_true h⟩, rfl⟩)⟩
theorem lst_le {low v r : Int} (h1 : low ≤ r) (h2 : ∀ p ∈ T, p.2 < v → p.1 < r) : lstT low v T ≤ r := by
  unfold lstT
  rcases topD_in ((T.filter fun p => decide (p.2 < v)).map fun p => p.1 + 1) low with e | e
  · omega
  · obtain ⟨p, hp, e'⟩ := List.mem_map.mp e
    obtain ⟨hp1, hp2⟩ := List.mem_filter.mp hp
    have := h2 p hp1 (of_decide_eq_true hp2)
    rw [← e']
    omega
theorem grt_ge {high v r : Int} (h1 : r ≤ high) (h2 : ∀ p ∈ T, v < p.2 → r < p.1) : r ≤ grtT high v T := by
  unfold grtT
  rcases botD_in ((T.filter fun p => decide (v < p.2)).map fun p => p.1 - 1) high with e | e
  · omega
  · obtain ⟨p, hp, e'⟩ := List.mem_map.mp e
    obtain ⟨hp1, hp2⟩ := List.mem_filter.mp hp
    have := h2 p hp1 (of_decide_eq_true hp2)
    rw [← e']
    omega
theorem nar_len : (narE fs T).length = fs.length := by unfold narE; rw [List.length_map]
theorem nar_at {j : Nat} (hj : j < fs.length) : (narE fs T)[j]? = some (vl fs j, lstT (lo fs j) (vl fs j) T, grtT (hi fs j) (vl fs j) T) := by
  unfold narE
  rw [List.getElem?_map, ent_at hj]
  rfl
/-- a row that leaves the entries and has what is told leaves the narrow ones -/
theorem nar_of (hs : s.Pairwise (· ≤ ·)) (hl : (s.length : Int) = n) (hT : Has s T) (hr : Rkd n T) : ∀ {fs : List Ent} {last : Int}, 0 ≤ last → (∀ e ∈ fs, e.2.2 ≤ n) → Lv s fs last → Lv s (narE fs T) last ∧ NarB fs T
  | [], _, _, _, _ => ⟨trivial, fun e he => (nomatch he)⟩
  | e :: fs, last, l0, hn, ⟨r, h1, h2, h3, h4, h5⟩ => by
    obtain ⟨g1, g2⟩ := nar_of hs hl hT hr (fs := fs) (last := r) (by omega) (fun e he => hn e (List.mem_cons_of_mem _ he)) h5
    have hen := hn e (List.mem_cons_self ..)
    have a : lstT e.2.1 e.1 T ≤ r := lst_le h2 fun p hp hlt => by
      have hp1 := hr p hp
      have hp2 := hT p hp
      refine Classical.byContradiction fun c => ?_
      have := rat_asc hs (a := r) (b := p.1) (by omega) (by omega) (by omega)
      omega
    have b : r ≤ grtT e.2.2 e.1 T := grt_ge h3 fun p hp hlt => by
      have hp1 := hr p hp
      have hp2 := hT p hp
      refine Classical.byContradiction fun c => ?_
      have := rat_asc hs (a := p.1) (b := r) (by omega) (by omega) (by omega)
      omega
    refine ⟨⟨r, h1, a, b, h4, g1⟩, fun x hx => ?_⟩
    rcases List.mem_cons.mp hx with rfl | hx
    · omega
    · exact g2 x hx
theorem nar_back : ∀ {fs : List Ent} {last : Int}, Lv s (narE fs T) last → Lv s fs last
  | [], _, _ => trivial
  | e :: fs, last, ⟨r, h1, h2, h3, h4, h5⟩ => by
    have a := (lst_ge (T := T) (low := e.2.1) (v := e.1)).1
    have b := (grt_le (T := T) (high := e.2.2) (v := e.1)).1
    exact ⟨r, h1, Int.le_trans a h2, Int.le_trans h3 b, h4, nar_back h5⟩
theorem nar_valid (v : Valid n fs) (hb : NarB fs T) : Valid n (narE fs T) where
  n1 := v.n1
  n2 := v.n2
  len := by rw [nar_len]; exact v.len
  ent := fun j hj => by
    rw [nar_len] at hj
    have e := nar_at (T := T) hj
    rw [vl_of e, lo_of e, hi_of e]
    have w := v.ent j hj
    have a := (lst_ge (T := T) (low := lo fs j) (v := vl fs j)).1
    have b := (grt_le (T := T) (high := hi fs j) (v := vl fs j)).1
    have c := hb _ (List.mem_of_getElem? (ent_at hj))
    dsimp only at c ⊢
    exact ⟨w.1, w.2.1, by omega, c, by omega⟩
  asc := fun j hj => by
    rw [nar_len] at hj
    rw [vl_of (nar_at (T := T) (show j < fs.length by omega)), vl_of (nar_at (T := T) hj)]
    exact v.asc j hj
/-- over the dict of the entries' lows lies what is told -/
def ovr : (Int → Option Int) → List (Int × Int) → Int → Option Int
  | g, [] => g
  | g, p :: T => ovr (fun k => if k = p.1 then some p.2 else g k) T
theorem ovr_none : ∀ {T : List (Int × Int)} {g : Int → Option Int} {k : Int}, (∀ p ∈ T, p.1 ≠ k) → ovr g T k = g k
  | [], _, _, _ => rfl
  | p :: T, g, k, h => by
    show ovr _ T k = g k
    rw [ovr_none fun q hq => h q (List.mem_cons_of_mem _ hq)]
    exact if_neg (Ne.symm (h p (List.mem_cons_self ..)))
theorem ovr_some : ∀ {T : List (Int × Int)} {g : Int → Option Int} {p : Int × Int}, Cons T → p ∈ T → ovr g T p.1 = some p.2
  | q :: T, g, p, hc, hp => by
    have hc' : Cons T := fun a ha b hb => hc a (List.mem_cons_of_mem _ ha) b (List.mem_cons_of_mem _ hb)
    show ovr _ T p.1 = some p.2
    rcases List.mem_cons.mp hp with rfl | hp'
    · by_cases e : ∃ q ∈ T, q.1 = p.1
      · obtain ⟨q, hq, e⟩ := e
        have h := (hc q (List.mem_cons_of_mem _ hq) p (List.mem_cons_self ..)).2 e
        rw [← e, ← h]
        exact ovr_some hc' hq
      · rw [ovr_none fun q hq z => e ⟨q, hq, z⟩]
        exact if_pos rfl
    · exact ovr_some hc' hp'
theorem ovr_is {T : List (Int × Int)} {g : Int → Option Int} {k b : Int} (hc : Cons T) (h : ovr g T k = some b) : (k, b) ∈ T ∨ (g k = some b ∧ ∀ p ∈ T, p.1 ≠ k) := by
  by_cases e : ∃ q ∈ T, q.1 = k
  · obtain ⟨q, hq, e⟩ := e
    rw [← e, ovr_some hc hq] at h
    have := Option.some.inj h
    refine .inl ?_
    rw [← e, ← this]
    exact hq
  · have h' : ∀ p ∈ T, p.1 ≠ k := fun p hp z => e ⟨p, hp, z⟩
    rw [ovr_none h'] at h
    exact .inr ⟨h, h'⟩
/-- the least number, 0 if there is none -/
def minL : List Int → Int
  | [] => 0
  | x :: l => botD x l
theorem minL_le {l : List Int} {x : Int} (h : x ∈ l) : minL l ≤ x := by
  cases l with
  | nil => cases h
  | cons y l =>
    obtain ⟨a, b⟩ := botD_le l y
    rcases List.mem_cons.mp h with rfl | h
    · exact a
    · exact b _ h
theorem minL_in {l : List Int} (h : l ≠ []) : minL l ∈ l := by
  cases l with
  | nil => exact absurd rfl h
  | cons y l =>
    rcases botD_in l y with e | e
    · show botD y l ∈ y :: l
      rw [e]; exact List.mem_cons_self ..
    · exact List.mem_cons_of_mem _ e
theorem minL_same {l m : List Int} (h : ∀ x, x ∈ l ↔ x ∈ m) : minL l = minL m := by
  cases l with
  | nil =>
    cases m with
    | nil => rfl
    | cons y m => exact absurd ((h y).mpr (List.mem_cons_self ..)) (by simp)
  | cons x l =>
    have hl : x :: l ≠ [] := by simp
    have hm : m ≠ [] := fun e => by
      have := (h x).mp (List.mem_cons_self ..)
      rw [e] at this
      cases this
    have a := minL_le ((h _).mp (minL_in hl))
    have b := minL_le ((h _).mpr (minL_in hm))
    omega
/-- the row that row_with gives of narrow entries ts -/
def rowN (n : Int) (ts : List Ent) (T : List (Int × Int)) : List Int := fillRow (ovr (gE ts ts.length) T) (minL (ts.map (·.1) ++ T.map (·.2))) n.toNat
theorem ovr_asc {f : Int} (v : Valid n fs) (hb : NarB fs T) (hF : Fits n (narE fs T)) (hc : Cons T) (hf : ∀ j, j < fs.length → f ≤ vl fs j) (hf2 : ∀ p ∈ T, f ≤ p.2) :
    Asc (ovr (gE (tightL n (narE fs T)) (tightL n (narE fs T)).length) T) f ∧ ∀ j, j < (narE fs T).length → ovr (gE (tightL n (narE fs T)) (tightL n (narE fs T)).length) T (tlo (narE fs T) j) = some (vl (narE fs T) j) := by
  have v2 := nar_valid v hb
  have up := tight_up (n := n) (es := narE fs T)
  have va := tight_va v2
  have hlen : (tightL n (narE fs T)).length = fs.length := by rw [tight_len, nar_len]
  -- where the low of an entry is
  have at_ : ∀ j, j < fs.length → vl (tightL n (narE fs T)) j = vl fs j ∧ lo (tightL n (narE fs T)) j = tlo (narE fs T) j ∧ lstT (lo fs j) (vl fs j) T ≤ tlo (narE fs T) j ∧ tlo (narE fs T) j ≤ grtT (hi fs j) (vl fs j) T := fun j hj => by
    have hj2 : j < (narE fs T).length := by rw [nar_len]; exact hj
    obtain ⟨a, b, c⟩ := tl_parts (n := n) hj2
    have e := nar_at (T := T) hj
    rw [vl_of e] at a
    have l1 := tlo_lo (narE fs T) j
    have l2 := thi_hi (n := n) hj2
    rw [lo_of e] at l1
    rw [hi_of e] at l2
    exact ⟨a, b, l1, Int.le_trans (hF j hj2) l2⟩
  have below : ∀ j, j < fs.length → ∀ p ∈ T, p.1 ≤ tlo (narE fs T) j → p.2 ≤ vl fs j := fun j hj p hp h => by
    refine Classical.byContradiction fun c => ?_
    have := (grt_le (T := T) (high := hi fs j) (v := vl fs j)).2 p hp (by omega)
    have := (at_ j hj).2.2.2
    omega
  have above : ∀ j, j < fs.length → ∀ p ∈ T, tlo (narE fs T) j ≤ p.1 → vl fs j ≤ p.2 := fun j hj p hp h => by
    refine Classical.byContradiction fun c => ?_
    have := (lst_ge (T := T) (low := lo fs j) (v := vl fs j)).2 p hp (by omega)
    have := (at_ j hj).2.2.1
    omega
  constructor
  · refine ⟨fun k b h => ?_, fun j k a b hjk ha hb' => ?_⟩
    · rcases ovr_is hc h with h | ⟨h, _⟩
      · exact hf2 _ h
      · obtain ⟨i, hi, _, rfl⟩ := gE_is h
        rw [hlen] at hi
        rw [(at_ i hi).1]
        exact hf i hi
    · rcases ovr_is hc ha with ha | ⟨ha, _⟩ <;> rcases ovr_is hc hb' with hb' | ⟨hb', _⟩
      · exact (hc _ ha _ hb').1 hjk
      · obtain ⟨i, hi, e1, rfl⟩ := gE_is hb'
        rw [hlen] at hi
        rw [(at_ i hi).1]
        exact below i hi _ ha (by rw [← (at_ i hi).2.1, ← e1]; dsimp only; omega)
      · obtain ⟨i, hi, e1, rfl⟩ := gE_is ha
        rw [hlen] at hi
        rw [(at_ i hi).1]
        exact above i hi _ hb' (by rw [← (at_ i hi).2.1, ← e1]; dsimp only; omega)
      · obtain ⟨i, hi, e1, rfl⟩ := gE_is ha
        obtain ⟨i2, hi2, e2, rfl⟩ := gE_is hb'
        refine va i i2 ?_ hi2
        refine Classical.byContradiction fun c => ?_
        have := up i2 i (by omega) hi
        omega
  · intro j hj
    have hj' : j < fs.length := by rw [nar_len] at hj; exact hj
    rw [vl_of (nar_at (T := T) hj')]
    by_cases e : ∃ p ∈ T, p.1 = tlo (narE fs T) j
    · obtain ⟨p, hp, e⟩ := e
      rw [← e, ovr_some hc hp]
      have := below j hj' p hp (by omega)
      have := above j hj' p hp (by omega)
      rw [show p.2 = vl fs j by omega]
    · rw [ovr_none fun p hp z => e ⟨p, hp, z⟩]
      have h := gE_at up (i := (tightL n (narE fs T)).length) (j := j) (Nat.le_refl _) (by rw [hlen]; exact hj')
      rw [(at_ j hj').2.1, (at_ j hj').1] at h
      exact h
/-- the row that is given: of the entries, with what is told -/
theorem rowN_ok (v : Valid n fs) (hN : Nar n fs T) (hc : Cons T) (hr : Rkd n T) : ((rowN n (tightL n (narE fs T)) T).length : Int) = n ∧ (rowN n (tightL n (narE fs T)) T).Pairwise (· ≤ ·) ∧ Lvs (rowN n (tightL n (narE fs T)) T) fs ∧ Has (rowN n (tightL n (narE fs T)) T) T := by
  obtain ⟨hb, hF⟩ := hN
  have n1 := v.n1
  obtain ⟨f, ef⟩ : ∃ f, f = minL ((tightL n (narE fs T)).map (·.1) ++ T.map (·.2)) := ⟨_, rfl⟩
  have hf : ∀ j, j < fs.length → f ≤ vl fs j := fun j hj => by
    rw [ef]
    refine minL_le (List.mem_append_left _ (List.mem_map.mpr ⟨_, List.mem_of_getElem? (tight_at (n := n) (es := narE fs T) (j := j) (by rw [nar_len]; exact hj)), ?_⟩))
    show vl (narE fs T) j = vl fs j
    rw [vl_of (nar_at (T := T) hj)]
  have hf2 : ∀ p ∈ T, f ≤ p.2 := fun p hp => by
    rw [ef]
    exact minL_le (List.mem_append_right _ (List.mem_map.mpr ⟨p, hp, rfl⟩))
  obtain ⟨A, B⟩ := ovr_asc v hb hF hc hf hf2
  unfold rowN
  rw [← ef]
  refine ⟨by rw [fillRow_len]; omega, A.row _, nar_back (fill_leaves (nar_valid v hb) hF B), fun p hp => ?_⟩
  have hp1 := hr p hp
  rw [fillRow_at hp1.1 (by omega), fillN_some hp1.1 (ovr_some hc hp)]
theorem tt_lvs (v : Valid n es) (h : Lvs s es) : Lvs s (tightL n es) := by
  obtain ⟨f, f1, f2⟩ := h.ranks v
  refine Lv.of_fn f (tightL n es) 0 0 (fun j hj => ?_) (fun j hj => ?_) (fun h0 => ?_)
  · rw [Nat.zero_add]
    rw [tight_len] at hj
    rw [vl_of (tight_at (n := n) hj), lo_of (tight_at (n := n) hj), hi_of (tight_at (n := n) hj)]
    exact f1 j hj
  · rw [tight_len] at hj
    rw [Nat.zero_add]
    exact f2 j hj
  · rw [tight_len] at h0
    have := (f1 0 h0).1
    have := tlo_pos es 0
    omega
/-- some row leaves the summary and has what is told, just if the narrow entries have ranks -/
theorem nar_iff (v : Valid n es) (hF : Fits n es) (hc : Cons T) (hr : Rkd n T) : Nar n (tightL n es) T ↔ ∃ s : List Int, s.Pairwise (· ≤ ·) ∧ (s.length : Int) = n ∧ Lvs s es ∧ Has s T := by
  have vt := v.tight hF
  constructor
  · intro h
    obtain ⟨a, b, c, d⟩ := rowN_ok vt h hc hr
    exact ⟨_, b, a, lvs_tt c, d⟩
  · rintro ⟨s, hs, hl, h, hT⟩
    obtain ⟨a, b⟩ := nar_of hs hl hT hr (fs := tightL n es) (last := 0) (Int.le_refl _) (fun e he => by
      obtain ⟨j, hj, rfl⟩ := List.mem_iff_getElem.mp he
      have w := vt.ent j hj
      rw [hi_of (List.getElem?_eq_getElem hj)] at w
      omega) (tt_lvs v h)
    exact ⟨b, Lvs.fits (nar_valid vt b) a⟩
end
end SR

set_option Elab.async false
set_option linter.all false
set_option maxRecDepth 100000
set_option maxHeartbeats 4000000
/-! How many ascending rows there are: binomials, rows of so many numbers from so many different ones. -/
namespace SR
/-- Pascal's triangle -/
def ch : Nat → Nat → Nat
  | _, 0 => 1
  | 0, _ + 1 => 0
  | n + 1, k + 1 => ch n k + ch n (k + 1)
theorem ch_zero (n : Nat) : ch n 0 = 1 := by cases n <;> rfl
theorem ch_succ (n k : Nat) : ch (n + 1) (k + 1) = ch n k + ch n (k + 1) := rfl
theorem ch_above : ∀ {n k : Nat}, n < k → ch n k = 0
  | 0, 0, h => absurd h (by omega)
  | 0, k + 1, _ => rfl
  | n + 1, 0, h => absurd h (by omega)
  | n + 1, k + 1, h => by rw [ch_succ, ch_above (by omega), ch_above (by omega)]
theorem ch_self : ∀ n : Nat, ch n n = 1
  | 0 => rfl
  | n + 1 => by rw [ch_succ, ch_self n, ch_above (by omega)]
theorem ch_symm : ∀ {n k : Nat}, k ≤ n → ch n k = ch n (n - k)
  | 0, 0, _ => rfl
  | n + 1, 0, _ => by rw [ch_zero, Nat.sub_zero, ch_self]
  | n + 1, k + 1, h => by
    by_cases e : n = k
    · subst e
      rw [ch_self, show n + 1 - (n + 1) = 0 by omega, ch_zero]
    · obtain ⟨m, hm⟩ : ∃ m, n - k = m + 1 := ⟨n - k - 1, by omega⟩
      rw [show n + 1 - (k + 1) = m + 1 by omega, ch_succ, ch_succ, ch_symm (n := n) (k := k) (by omega), ch_symm (n := n) (k := k + 1) (by omega), hm, show n - (k + 1) = m by omega]
      omega
/-- falling products -/
def ff (n : Nat) : Nat → Nat
  | 0 => 1
  | k + 1 => ff n k * (n - k)
theorem ff_succ (n k : Nat) : ff n (k + 1) = ff n k * (n - k) := rfl
theorem ff_up (n : Nat) : ∀ k, ff (n + 1) (k + 1) = (n + 1) * ff n k
  | 0 => by simp [ff]
  | k + 1 => by
    rw [ff_succ (n + 1) (k + 1), ff_up n k, ff_succ n k, Nat.mul_assoc, show n + 1 - (k + 1) = n - k by omega]
theorem ff_above (n : Nat) : ∀ {k : Nat}, n < k → ff n k = 0
  | 0, h => absurd h (by omega)
  | k + 1, h => by
    rw [ff_succ]
    by_cases e : n = k
    · subst e; rw [Nat.sub_self, Nat.mul_zero]
    · rw [ff_above n (by omega), Nat.zero_mul]
theorem ff_pascal (n k : Nat) : ff (n + 1) (k + 1) = ff n (k + 1) + (k + 1) * ff n k := by
  rw [ff_up, ff_succ]
  by_cases h : k ≤ n
  · rw [Nat.mul_comm (ff n k), ← Nat.add_mul, show n - k + (k + 1) = n + 1 by omega]
  · rw [ff_above n (by omega)]; simp
theorem ff_ch : ∀ n k : Nat, ff n k = ff k k * ch n k
  | n, 0 => by rw [ch_zero]; rfl
  | 0, k + 1 => by rw [ff_above 0 (by omega)]; rfl
  | n + 1, k + 1 => by
    rw [ff_pascal, ff_ch n (k + 1), ff_ch n k, ch_succ, ff_up k k, Nat.mul_add, ← Nat.mul_assoc (k + 1) (ff k k) (ch n k), Nat.add_comm]
theorem ff_pos : ∀ {n k : Nat}, k ≤ n → 0 < ff n k
  | _, 0, _ => Nat.one_pos
  | n, k + 1, h => Nat.mul_pos (ff_pos (by omega)) (by omega)
theorem ff_div (n k : Nat) : ff n k / ff k k = ch n k := by
  rw [ff_ch n k, Nat.mul_div_cancel_left _ (ff_pos (Nat.le_refl k))]
/-- ascending rows of m numbers from s different ones -/
def chs (s : Nat) : Nat → Nat
  | 0 => 1
  | m + 1 => ch (s + m) (m + 1)
theorem chs_none (m : Nat) : chs 0 (m + 1) = 0 := by
  show ch (0 + m) (m + 1) = 0
  rw [ch_above (by omega)]
theorem chs_rec (s m : Nat) : chs (s + 1) (m + 1) = chs s (m + 1) + chs (s + 1) m := by
  show ch (s + 1 + m) (m + 1) = ch (s + m) (m + 1) + chs (s + 1) m
  rw [show s + 1 + m = (s + m) + 1 by omega, ch_succ, Nat.add_comm]
  congr 1
  cases m with
  | zero => rw [ch_zero]; rfl
  | succ m => show _ = ch (s + 1 + m) (m + 1); rw [show s + 1 + m = s + (m + 1) by omega]
/-- the sum over the places up to k -/
def sumTo (f : Nat → Nat) : Nat → Nat
  | 0 => f 0
  | k + 1 => sumTo f k + f (k + 1)
theorem sumTo_congr {f g : Nat → Nat} : ∀ {k : Nat}, (∀ j, j ≤ k → f j = g j) → sumTo f k = sumTo g k
  | 0, h => h 0 (Nat.le_refl _)
  | k + 1, h => by
    show sumTo f k + f (k + 1) = sumTo g k + g (k + 1)
    rw [sumTo_congr fun j hj => h j (by omega), h (k + 1) (Nat.le_refl _)]
theorem sumTo_add (f g : Nat → Nat) : ∀ k, sumTo (fun j => f j + g j) k = sumTo f k + sumTo g k
  | 0 => rfl
  | k + 1 => by
    show sumTo (fun j => f j + g j) k + (f (k + 1) + g (k + 1)) = (sumTo f k + f (k + 1)) + (sumTo g k + g (k + 1))
    rw [sumTo_add f g k]
    omega
theorem sumTo_mul (c : Nat) (f : Nat → Nat) : ∀ k, sumTo (fun j => c * f j) k = c * sumTo f k
  | 0 => rfl
  | k + 1 => by
    show sumTo (fun j => c * f j) k + _ = c * (sumTo f k + f (k + 1))
    rw [sumTo_mul c f k, Nat.mul_add]
/-- behind each beginning stand any of s numbers -/
def oth (f : Nat → Nat) (s : Nat) (e : Nat) : Nat := sumTo (fun j => f j * chs s (e - j)) e
theorem sumTo_last {f : Nat → Nat} : ∀ {k : Nat}, (∀ j, j < k → f j = 0) → sumTo f k = f k
  | 0, _ => rfl
  | k + 1, h => by
    show sumTo f k + f (k + 1) = f (k + 1)
    rw [sumTo_last fun j hj => h j (by omega), h k (by omega), Nat.zero_add]
theorem oth_zero (f : Nat → Nat) (e : Nat) : oth f 0 e = f e := by
  unfold oth
  rw [sumTo_last fun j hj => ?_]
  · rw [Nat.sub_self]; show f e * 1 = f e; rw [Nat.mul_one]
  · obtain ⟨m, hm⟩ : ∃ m, e - j = m + 1 := ⟨e - j - 1, by omega⟩
    rw [hm, chs_none, Nat.mul_zero]
/-- one value more -/
theorem oth_succ (f : Nat → Nat) (s : Nat) : ∀ e, oth f (s + 1) e = sumTo (oth f s) e
  | 0 => by show f 0 * 1 = f 0 * 1; rfl
  | e + 1 => by
    show oth f (s + 1) (e + 1) = sumTo (oth f s) e + oth f s (e + 1)
    rw [← oth_succ f s e]
    unfold oth
    show sumTo (fun j => f j * chs (s + 1) (e + 1 - j)) e + f (e + 1) * chs (s + 1) (e + 1 - (e + 1)) = sumTo (fun j => f j * chs (s + 1) (e - j)) e + (sumTo (fun j => f j * chs s (e + 1 - j)) e + f (e + 1) * chs s (e + 1 - (e + 1)))
    rw [Nat.sub_self, ← Nat.add_assoc, ← sumTo_add]
    congr 1
    refine sumTo_congr fun j hj => ?_
    obtain ⟨m, hm⟩ : ∃ m, e - j = m := ⟨_, rfl⟩
    rw [show e + 1 - j = m + 1 by omega, hm, chs_rec, Nat.mul_add, Nat.add_comm]
end SR

set_option Elab.async false
set_option linter.all false
set_option maxRecDepth 100000
set_option maxHeartbeats 4000000
/-! The rows from a range that leave a summary, one value behind the other. -/
namespace SR
/-- places for entries within the row itself -/
def Lw (row : List Int) : List Ent → Int → Prop
  | [], _ => True
  | e :: es, last => ∃ r, last < r ∧ e.2.1 ≤ r ∧ r ≤ e.2.2 ∧ r ≤ row.length ∧ rat row r = e.1 ∧ Lw row es r
theorem Lw.low {row : List Int} : ∀ {es : List Ent} {a b : Int}, Lw row es b → a ≤ b → Lw row es a
  | [], _, _, _, _ => trivial
  | _ :: _, _, _, ⟨r, h1, h2⟩, h => ⟨r, by omega, h2⟩
theorem Lw.iff {row : List Int} {n : Int} (hl : (row.length : Int) = n) : ∀ {es : List Ent} {last : Int}, (∀ e ∈ es, e.2.2 ≤ n) → (Lw row es last ↔ Lv row es last)
  | [], _, _ => Iff.rfl
  | e :: es, last, h => by
    have he := h e (List.mem_cons_self ..)
    constructor
    · rintro ⟨r, h1, h2, h3, h4, h5, h6⟩
      exact ⟨r, h1, h2, h3, h5, (Lw.iff hl fun e he => h e (List.mem_cons_of_mem _ he)).mp h6⟩
    · rintro ⟨r, h1, h2, h3, h5, h6⟩
      exact ⟨r, h1, h2, h3, by omega, h5, (Lw.iff hl fun e he => h e (List.mem_cons_of_mem _ he)).mpr h6⟩
/-- the least rank that the last entry can have -/
def lastP : List Ent → Int → Option Int
  | [], rank => some rank
  | e :: es, rank => if max e.2.1 (rank + 1) > e.2.2 then none else lastP es (max e.2.1 (rank + 1))
theorem lastP_ge : ∀ {es : List Ent} {j l : Int}, lastP es j = some l → j ≤ l
  | [], j, l, h => by have := Option.some.inj h; omega
  | e :: es, j, l, h => by
    unfold lastP at h
    split at h
    · cases h
    · have := lastP_ge h; omega
def okB (es : List Ent) (v : Int) (j k : Nat) : Bool := match lastP (es.filter fun e => decide (e.1 = v)) j with
  | some l => decide (l ≤ k)
  | none => false
theorem okB_iff {es : List Ent} {v : Int} {j k : Nat} : okB es v j k = true ↔ ∃ l, lastP (es.filter fun e => decide (e.1 = v)) j = some l ∧ l ≤ k := by
  unfold okB
  cases lastP (es.filter fun e => decide (e.1 = v)) j with
  | none => simp
  | some l => simp
theorem rat_left {r t : List Int} {x : Int} (h1 : 1 ≤ x) (h2 : x ≤ r.length) : rat (r ++ t) x = rat r x := by
  unfold rat
  rw [List.getD_eq_getElem?_getD, List.getD_eq_getElem?_getD, List.getElem?_append_left (by omega)]
theorem rat_right {r : List Int} {c : Nat} {v x : Int} (h1 : r.length < x) (h2 : x ≤ r.length + c) : rat (r ++ List.replicate c v) x = v := by
  unfold rat
  rw [List.getD_eq_getElem?_getD, List.getElem?_append_right (by omega), List.getElem?_replicate, if_pos (by omega)]
  rfl
theorem rat_mem {r : List Int} {x : Int} (h1 : 1 ≤ x) (h2 : x ≤ r.length) : rat r x ∈ r := by
  unfold rat
  rw [List.getD_eq_getElem?_getD, List.getElem?_eq_getElem (show (x - 1).toNat < r.length by omega)]
  exact List.getElem_mem _
section
variable {r : List Int} {c : Nat} {v : Int}
/-- entries of the value alone, behind what is less -/
theorem lw_same : ∀ {E : List Ent} {j : Int}, (∀ e ∈ E, e.1 = v) → (r.length : Int) ≤ j → j ≤ r.length + c → (Lw (r ++ List.replicate c v) E j ↔ ∃ l, lastP E j = some l ∧ l ≤ r.length + c)
  | [], j, _, _, h2 => ⟨fun _ => ⟨j, rfl, h2⟩, fun _ => trivial⟩
  | e :: E, j, h, h1, h2 => by
    have hl : ((r ++ List.replicate c v).length : Int) = r.length + c := by rw [List.length_append, List.length_replicate]; omega
    have he := h e (List.mem_cons_self ..)
    have h' : ∀ e ∈ E, e.1 = v := fun x hx => h x (List.mem_cons_of_mem _ hx)
    unfold lastP
    constructor
    · rintro ⟨x, a1, a2, a3, a4, _, a6⟩
      rw [hl] at a4
      rw [if_neg (by omega)]
      exact (lw_same h' (by omega) (by omega)).mp (a6.low (by omega))
    · rintro ⟨l, b1, b2⟩
      split at b1
      · cases b1
      · rename_i hn
        have hg := lastP_ge b1
        refine ⟨max e.2.1 (j + 1), by omega, by omega, by omega, by rw [hl]; omega, ?_, (lw_same h' (by omega) (by omega)).mpr ⟨l, b1, b2⟩⟩
        rw [rat_right (by omega) (by omega), he]
theorem lw_less : ∀ {E : List Ent} {last : Int}, 0 ≤ last → (∀ e ∈ E, e.1 < v) → (Lw (r ++ List.replicate c v) E last ↔ Lw r E last)
  | [], _, _, _ => Iff.rfl
  | e :: E, last, h0, h => by
    have hl : ((r ++ List.replicate c v).length : Int) = r.length + c := by rw [List.length_append, List.length_replicate]; omega
    have he := h e (List.mem_cons_self ..)
    have h' : ∀ e ∈ E, e.1 < v := fun x hx => h x (List.mem_cons_of_mem _ hx)
    constructor
    · rintro ⟨x, a1, a2, a3, a4, a5, a6⟩
      rw [hl] at a4
      have hx : x ≤ r.length := by
        refine Classical.byContradiction fun z => ?_
        rw [rat_right (by omega) (by omega)] at a5
        omega
      exact ⟨x, a1, a2, a3, hx, by rw [rat_left (by omega) hx] at a5; exact a5, (lw_less (by omega) h').mp a6⟩
    · rintro ⟨x, a1, a2, a3, a4, a5, a6⟩
      exact ⟨x, a1, a2, a3, by rw [hl]; omega, by rw [rat_left (by omega) a4]; exact a5, (lw_less (by omega) h').mpr a6⟩
theorem lw_two (hr : ∀ y ∈ r, y < v) {E2 : List Ent} (h2 : ∀ e ∈ E2, e.1 = v) : ∀ {E1 : List Ent} {last : Int}, 0 ≤ last → last ≤ r.length → (∀ e ∈ E1, e.1 < v) → (Lw (r ++ List.replicate c v) (E1 ++ E2) last ↔ Lw r E1 last ∧ ∃ l, lastP E2 r.length = some l ∧ l ≤ r.length + c)
  | [], last, h0, hl0, _ => by
    have hl : ((r ++ List.replicate c v).length : Int) = r.length + c := by rw [List.length_append, List.length_replicate]; omega
    rw [← lw_same (r := r) (c := c) h2 (Int.le_refl _) (by omega)]
    constructor
    · intro h
      refine ⟨trivial, ?_⟩
      match E2, h2, h with
      | [], _, _ => trivial
      | e :: E, h2, ⟨x, a1, a2, a3, a4, a5, a6⟩ =>
        have he := h2 e (List.mem_cons_self ..)
        have hx : r.length < x := by
          refine Classical.byContradiction fun z => ?_
          rw [rat_left (by omega) (by omega)] at a5
          have := hr _ (rat_mem (r := r) (x := x) (by omega) (by omega))
          omega
        exact ⟨x, hx, a2, a3, a4, a5, a6⟩
    · rintro ⟨_, h⟩
      exact Lw.low h hl0
  | e :: E1, last, h0, hl0, h1 => by
    have hl : ((r ++ List.replicate c v).length : Int) = r.length + c := by rw [List.length_append, List.length_replicate]; omega
    have he := h1 e (List.mem_cons_self ..)
    have h1' : ∀ e ∈ E1, e.1 < v := fun x hx => h1 x (List.mem_cons_of_mem _ hx)
    constructor
    · rintro ⟨x, a1, a2, a3, a4, a5, a6⟩
      rw [hl] at a4
      have hx : x ≤ r.length := by
        refine Classical.byContradiction fun z => ?_
        rw [rat_right (by omega) (by omega)] at a5
        omega
      obtain ⟨g1, g2⟩ := (lw_two hr h2 (by omega) hx h1').mp a6
      exact ⟨⟨x, a1, a2, a3, hx, by rw [rat_left (by omega) hx] at a5; exact a5, g1⟩, g2⟩
    · rintro ⟨⟨x, a1, a2, a3, a4, a5, a6⟩, g2⟩
      exact ⟨x, a1, a2, a3, by rw [hl]; omega, by rw [rat_left (by omega) a4]; exact a5, (lw_two hr h2 (by omega) a4 h1').mpr ⟨a6, g2⟩⟩
end
/-- lists one behind the other -/
def catTo (f : Nat → List (List Int)) : Nat → List (List Int)
  | 0 => f 0
  | k + 1 => catTo f k ++ f (k + 1)
theorem mem_catTo {f : Nat → List (List Int)} {x : List Int} : ∀ {k : Nat}, x ∈ catTo f k ↔ ∃ j, j ≤ k ∧ x ∈ f j
  | 0 => ⟨fun h => ⟨0, Nat.le_refl _, h⟩, fun ⟨j, hj, h⟩ => by rw [show j = 0 by omega] at h; exact h⟩
  | k + 1 => by
    show x ∈ catTo f k ++ f (k + 1) ↔ _
    rw [List.mem_append, mem_catTo]
    constructor
    · rintro (⟨j, hj, h⟩ | h)
      · exact ⟨j, by omega, h⟩
      · exact ⟨k + 1, Nat.le_refl _, h⟩
    · rintro ⟨j, hj, h⟩
      by_cases e : j = k + 1
      · rw [e] at h; exact .inr h
      · exact .inl ⟨j, by omega, h⟩
theorem catTo_len (f : Nat → List (List Int)) : ∀ k, (catTo f k).length = sumTo (fun j => (f j).length) k
  | 0 => rfl
  | k + 1 => by
    show (catTo f k ++ f (k + 1)).length = _
    rw [List.length_append, catTo_len f k]
    rfl
theorem catTo_nodup {f : Nat → List (List Int)} : ∀ {k : Nat}, (∀ j, j ≤ k → (f j).Nodup) → (∀ i j x, i < j → j ≤ k → x ∈ f i → x ∈ f j → False) → (catTo f k).Nodup
  | 0, h, _ => h 0 (Nat.le_refl _)
  | k + 1, h, hd => by
    show (catTo f k ++ f (k + 1)).Nodup
    rw [List.nodup_append]
    refine ⟨catTo_nodup (fun j hj => h j (by omega)) (fun i j x hij hj => hd i j x hij (by omega)), h (k + 1) (Nat.le_refl _), fun a ha b hb e => ?_⟩
    subst e
    obtain ⟨j, hj, hx⟩ := mem_catTo.mp ha
    exact hd j (k + 1) a (by omega) (Nat.le_refl _) hx hb
/-- rows of k numbers from a on, t different values at most, that leave the entries of these values -/
def Rws (es : List Ent) (a : Int) : Nat → Nat → List (List Int)
  | 0, k => if k = 0 then [[]] else []
  | t + 1, k => catTo (fun j => if okB es (a + t) j k = true then (Rws es a t j).map fun r => r ++ List.replicate (k - j) (a + t) else []) k
/-- their number -/
def cntS (es : List Ent) (a : Int) : Nat → Nat → Nat
  | 0, k => if k = 0 then 1 else 0
  | t + 1, k => sumTo (fun j => if okB es (a + t) j k = true then cntS es a t j else 0) k
theorem rws_len (es : List Ent) (a : Int) : ∀ t k, (Rws es a t k).length = cntS es a t k
  | 0, k => by
    show (if k = 0 then [[]] else [] : List (List Int)).length = if k = 0 then 1 else 0
    split <;> rfl
  | t + 1, k => by
    show (catTo _ k).length = sumTo _ k
    rw [catTo_len]
    refine sumTo_congr fun j _ => ?_
    split
    · rw [List.length_map, rws_len es a t j]
    · rfl
theorem split_le : ∀ {row : List Int} {v : Int}, row.Pairwise (· ≤ ·) → (∀ y ∈ row, y ≤ v) → ∃ r c, row = r ++ List.replicate c v ∧ ∀ y ∈ r, y < v
  | [], v, _, _ => ⟨[], 0, rfl, fun y hy => (nomatch hy)⟩
  | x :: row, v, h, hv => by
    rw [List.pairwise_cons] at h
    have hx := hv x (List.mem_cons_self ..)
    by_cases e : x < v
    · obtain ⟨r, c, h1, h2⟩ := split_le (v := v) h.2 fun y hy => hv y (List.mem_cons_of_mem _ hy)
      refine ⟨x :: r, c, by rw [h1]; rfl, fun y hy => ?_⟩
      rcases List.mem_cons.mp hy with rfl | hy
      · exact e
      · exact h2 y hy
    · refine ⟨[], row.length + 1, ?_, fun y hy => (nomatch hy)⟩
      show x :: row = List.replicate (row.length + 1) v
      refine List.eq_replicate_iff.mpr ⟨rfl, fun y hy => ?_⟩
      have h1 := hv y hy
      rcases List.mem_cons.mp hy with e2 | hy
      · omega
      · have := h.1 y hy; omega
theorem filter_two {es : List Ent} {v : Int} (h : es.Pairwise fun x y => x.1 ≤ y.1) : (es.filter fun e => decide (e.1 < v + 1)) = (es.filter fun e => decide (e.1 < v)) ++ es.filter fun e => decide (e.1 = v) := by
  induction es with
  | nil => rfl
  | cons e es ih =>
    rw [List.pairwise_cons] at h
    have ih := ih h.2
    rcases Int.lt_trichotomy e.1 v with c | c | c
    · rw [List.filter_cons, List.filter_cons, List.filter_cons, if_pos (decide_eq_true (by omega)), if_pos (decide_eq_true c), if_neg (by rw [decide_eq_true_iff]; omega), ih]
      rfl
    · have hn : (es.filter fun e => decide (e.1 < v)) = [] := by
        rw [List.filter_eq_nil_iff]
        intro x hx
        have := h.1 x hx
        rw [decide_eq_true_iff]; omega
      rw [hn] at ih
      rw [List.filter_cons, List.filter_cons, List.filter_cons, if_pos (decide_eq_true (by omega)), if_neg (by rw [decide_eq_true_iff]; omega), if_pos (decide_eq_true c), ih, hn]
      rfl
    · have hn : ∀ (w : Int), w ≤ e.1 → (es.filter fun e => decide (e.1 < w)) = [] := fun w hw => by
        rw [List.filter_eq_nil_iff]
        intro x hx
        have := h.1 x hx
        rw [decide_eq_true_iff]; omega
      have hn2 : (es.filter fun e => decide (e.1 = v)) = [] := by
        rw [List.filter_eq_nil_iff]
        intro x hx
        have := h.1 x hx
        rw [decide_eq_true_iff]; omega
      rw [List.filter_cons, List.filter_cons, List.filter_cons, if_neg (by rw [decide_eq_true_iff]; omega), if_neg (by rw [decide_eq_true_iff]; omega), if_neg (by rw [decide_eq_true_iff]; omega), hn _ (by omega), hn _ (by omega), hn2]
      rfl
theorem mem_rws {es : List Ent} {a : Int} (asc : es.Pairwise fun x y => x.1 ≤ y.1) (ha : ∀ e ∈ es, a ≤ e.1) : ∀ {t k : Nat} {row : List Int}, row ∈ Rws es a t k ↔ row.length = k ∧ row.Pairwise (· ≤ ·) ∧ (∀ y ∈ row, a ≤ y ∧ y < a + t) ∧ Lw row (es.filter fun e => decide (e.1 < a + t)) 0
  | 0, k, row => by
    show row ∈ (if k = 0 then [[]] else [] : List (List Int)) ↔ _
    have hn : (es.filter fun e => decide (e.1 < a + ((0 : Nat) : Int))) = [] := by
      rw [List.filter_eq_nil_iff]
      intro x hx
      have := ha x hx
      rw [decide_eq_true_iff]; omega
    rw [hn]
    constructor
    · intro h
      split at h
      · rename_i e
        rw [List.mem_singleton.mp h, e]
        exact ⟨rfl, .nil, fun y hy => (nomatch hy), trivial⟩
      · cases h
    · rintro ⟨h1, _, h3, _⟩
      have : row = [] := by
        cases row with
        | nil => rfl
        | cons y r => have := h3 y (List.mem_cons_self ..); omega
      subst this
      have h1' : k = 0 := h1.symm
      rw [if_pos h1']
      exact List.mem_singleton.mpr rfl
  | t + 1, k, row => by
    show row ∈ catTo _ k ↔ _
    rw [mem_catTo, show a + ((t + 1 : Nat) : Int) = a + t + 1 by omega, filter_two asc]
    have h1 : ∀ e ∈ es.filter fun e => decide (e.1 < a + t), e.1 < a + t := fun e he => of_decide_eq_true (List.mem_filter.mp he).2
    have h2 : ∀ e ∈ es.filter fun e => decide (e.1 = a + t), e.1 = a + t := fun e he => of_decide_eq_true (List.mem_filter.mp he).2
    constructor
    · rintro ⟨j, hj, h⟩
      split at h
      · rename_i ok
        obtain ⟨r, hr, rfl⟩ := List.mem_map.mp h
        obtain ⟨g1, g2, g3, g4⟩ := (mem_rws asc ha).mp hr
        refine ⟨by rw [List.length_append, List.length_replicate, g1]; omega, ?_, fun y hy => ?_, (lw_two (fun y hy => (g3 y hy).2) h2 (Int.le_refl _) (by omega) h1).mpr ⟨g4, ?_⟩⟩
        · rw [List.pairwise_append]
          refine ⟨g2, List.pairwise_replicate.mpr (.inr (Int.le_refl _)), fun x hx y hy => ?_⟩
          rw [(List.mem_replicate.mp hy).2]
          have := g3 x hx; omega
        · rcases List.mem_append.mp hy with hy | hy
          · have := g3 y hy; omega
          · rw [(List.mem_replicate.mp hy).2]; omega
        · obtain ⟨l, a1, a2⟩ := okB_iff.mp ok
          rw [g1]
          exact ⟨l, a1, by omega⟩
      · cases h
    · rintro ⟨b1, b2, b3, b4⟩
      obtain ⟨r, c, rfl, hr⟩ := split_le (v := a + t) b2 fun y hy => by have := b3 y hy; omega
      rw [List.length_append, List.length_replicate] at b1
      obtain ⟨g1, l, g2, g3⟩ := (lw_two hr h2 (Int.le_refl _) (by omega) h1).mp b4
      refine ⟨r.length, by omega, ?_⟩
      rw [if_pos (okB_iff.mpr ⟨l, g2, by omega⟩)]
      refine List.mem_map.mpr ⟨r, (mem_rws asc ha).mpr ⟨rfl, (List.pairwise_append.mp b2).1, fun y hy => ⟨(b3 y (List.mem_append_left _ hy)).1, hr y hy⟩, g1⟩, ?_⟩
      rw [show k - r.length = c by omega]
theorem rws_nodup {es : List Ent} {a : Int} (asc : es.Pairwise fun x y => x.1 ≤ y.1) (ha : ∀ e ∈ es, a ≤ e.1) : ∀ t k, (Rws es a t k).Nodup
  | 0, k => by
    show (if k = 0 then [[]] else [] : List (List Int)).Nodup
    split <;> simp
  | t + 1, k => by
    show (catTo _ k).Nodup
    have lt : ∀ {j x}, x ∈ Rws es a t j → x.length = j ∧ ∀ y ∈ x, y < a + t := fun h => by
      obtain ⟨g1, _, g3, _⟩ := (mem_rws asc ha).mp h
      exact ⟨g1, fun y hy => (g3 y hy).2⟩
    refine catTo_nodup (fun j _ => ?_) fun i j x hij hj hi hj' => ?_
    · split
      · refine List.pairwise_map.mpr ((rws_nodup asc ha t j).imp fun {u w} hne e => hne (List.append_cancel_right e))
      · exact List.nodup_nil
    · have cnt : ∀ {m x}, x ∈ (if okB es (a + t) m k = true then (Rws es a t m).map fun r => r ++ List.replicate (k - m) (a + t) else [] : List (List Int)) → (x.filter fun y => decide (y < a + t)).length = m := fun {m x} h => by
        split at h
        · obtain ⟨r, hr, rfl⟩ := List.mem_map.mp h
          obtain ⟨g1, g2⟩ := lt hr
          rw [List.filter_append, List.filter_eq_self.mpr fun y hy => decide_eq_true (g2 y hy), List.filter_eq_nil_iff.mpr fun y hy => ?_, List.append_nil, g1]
          rw [(List.mem_replicate.mp hy).2, decide_eq_true_iff]; omega
        · cases h
      have := cnt hi
      have := cnt hj'
      omega
end SR

set_option Elab.async false
set_option linter.all false
set_option maxRecDepth 100000
set_option maxHeartbeats 4000000
/-! The count over values that no entry has, over one entry; two counts. -/
namespace SR
theorem okB_free {es : List Ent} {v : Int} {j k : Nat} (h : ∀ e ∈ es, e.1 ≠ v) (hj : j ≤ k) : okB es v j k = true := by
  refine okB_iff.mpr ⟨j, ?_, by omega⟩
  rw [List.filter_eq_nil_iff.mpr fun e he => by rw [decide_eq_true_iff]; exact h e he]
  rfl
theorem cnt_gap {es : List Ent} {a : Int} {t : Nat} : ∀ {s : Nat}, (∀ e ∈ es, ¬ (a + t ≤ e.1 ∧ e.1 < a + t + s)) → ∀ k, cntS es a (t + s) k = oth (cntS es a t) s k
  | 0, _, k => by rw [oth_zero]; rfl
  | s + 1, h, k => by
    rw [oth_succ]
    show sumTo (fun j => if okB es (a + ((t + s : Nat) : Int)) j k = true then cntS es a (t + s) j else 0) k = _
    refine sumTo_congr fun j hj => ?_
    rw [if_pos (okB_free (fun e he z => h e he (by omega)) hj)]
    exact cnt_gap (fun e he z => h e he (by omega)) j
theorem sumTo_first {f : Nat → Nat} : ∀ {k : Nat}, (∀ j, 0 < j → f j = 0) → sumTo f k = f 0
  | 0, _ => rfl
  | k + 1, h => by
    show sumTo f k + f (k + 1) = f 0
    rw [sumTo_first h, h (k + 1) (by omega), Nat.add_zero]
theorem oth_start (es : List Ent) (a : Int) (s k : Nat) : oth (cntS es a 0) s k = chs s k := by
  unfold oth
  rw [sumTo_first fun j hj => ?_]
  · show (if 0 = 0 then 1 else 0) * chs s (k - 0) = chs s k
    rw [if_pos rfl, Nat.one_mul, Nat.sub_zero]
  · show (if j = 0 then 1 else 0) * _ = 0
    rw [if_neg (by omega), Nat.zero_mul]
theorem cnt_bare (a : Int) (s n : Nat) : cntS [] a s n = chs s n := by
  have h := cnt_gap (es := []) (a := a) (t := 0) (s := s) (fun e he => (nomatch he)) n
  rw [Nat.zero_add] at h
  rw [h, oth_start]
theorem sumTo_chs (s : Nat) : ∀ m, sumTo (chs s) m = chs (s + 1) m
  | 0 => rfl
  | m + 1 => by
    show sumTo (chs s) m + chs s (m + 1) = chs (s + 1) (m + 1)
    rw [sumTo_chs s m, chs_rec, Nat.add_comm]
theorem sumTo_shift (f : Nat → Nat) : ∀ k, sumTo f (k + 1) = f 0 + sumTo (fun j => f (j + 1)) k
  | 0 => rfl
  | k + 1 => by
    show sumTo f (k + 1) + f (k + 2) = f 0 + (sumTo (fun j => f (j + 1)) k + f (k + 1 + 1))
    rw [sumTo_shift f k, Nat.add_assoc]
theorem sumTo_rev : ∀ (k : Nat) (g : Nat → Nat), sumTo (fun e => g (k - e)) k = sumTo g k
  | 0, g => rfl
  | k + 1, g => by
    show sumTo (fun e => g (k + 1 - e)) k + g (k + 1 - (k + 1)) = sumTo g (k + 1)
    rw [sumTo_shift g k, Nat.sub_self, Nat.add_comm]
    congr 1
    rw [← sumTo_rev k fun j => g (j + 1)]
    refine sumTo_congr fun j hj => ?_
    rw [show k + 1 - j = k - j + 1 by omega]
theorem sumTo_part {f : Nat → Nat} {m : Nat} : ∀ {k : Nat}, m ≤ k → sumTo (fun j => if j ≤ m then f j else 0) k = sumTo f m
  | 0, h => by rw [show m = 0 by omega]; show (if 0 ≤ 0 then f 0 else 0) = f 0; rw [if_pos (Nat.le_refl _)]
  | k + 1, h => by
    by_cases e : m = k + 1
    · subst e
      exact sumTo_congr fun j hj => if_pos hj
    · show sumTo (fun j => if j ≤ m then f j else 0) k + (if k + 1 ≤ m then f (k + 1) else 0) = sumTo f m
      rw [sumTo_part (by omega), if_neg (by omega), Nat.add_zero]
/-- one entry at a known rank -/
theorem cnt_one {v a b rk : Int} {n : Nat} (h1 : a ≤ v) (h2 : v ≤ b) (h3 : 1 ≤ rk) (h4 : rk ≤ n) : cntS [(v, rk, rk)] a (b + 1 - a).toNat n = chs (v - a + 1).toNat (rk - 1).toNat * chs (b - v + 1).toNat (n - rk.toNat) := by
  obtain ⟨T, hT⟩ : ∃ T : Nat, T = (v - a).toNat := ⟨_, rfl⟩
  obtain ⟨U, hU⟩ : ∃ U : Nat, U = (b - v).toNat := ⟨_, rfl⟩
  have e1 : (b + 1 - a).toNat = T + 1 + U := by omega
  rw [e1, cnt_gap (t := T + 1) (s := U) (fun e he => by rw [List.mem_singleton.mp he]; show ¬ (a + ((T + 1 : Nat) : Int) ≤ v ∧ _); omega)]
  -- with the entry kept
  have step : ∀ e, cntS [(v, rk, rk)] a (T + 1) e = if rk ≤ e then chs (T + 1) (rk - 1).toNat else 0 := by
    intro e
    show sumTo (fun j => if okB [(v, rk, rk)] (a + (T : Int)) j e = true then cntS [(v, rk, rk)] a T j else 0) e = _
    have hv : a + (T : Int) = v := by omega
    have hf : ([(v, rk, rk)] : List Ent).filter (fun x => decide (x.1 = v)) = [(v, rk, rk)] := by
      rw [List.filter_cons, if_pos (decide_eq_true rfl)]; rfl
    have g : ∀ j, cntS [(v, rk, rk)] a T j = chs T j := fun j => by
      have := cnt_gap (es := [(v, rk, rk)]) (a := a) (t := 0) (s := T) (fun x hx => by rw [List.mem_singleton.mp hx]; show ¬ (_ ∧ v < _); omega) j
      rw [Nat.zero_add] at this
      rw [this, oth_start]
    have ok : ∀ j : Nat, okB [(v, rk, rk)] v j e = decide ((j : Int) + 1 ≤ rk ∧ rk ≤ e) := fun j => by
      unfold okB
      rw [hf]
      show (match (if max rk ((j : Int) + 1) > rk then none else some (max rk ((j : Int) + 1))) with | some l => decide (l ≤ (e : Int)) | none => false) = _
      by_cases c : (j : Int) + 1 ≤ rk
      · rw [if_neg (by omega), show max rk ((j : Int) + 1) = rk by omega]
        dsimp only
        by_cases d : rk ≤ e
        · rw [decide_eq_true d, decide_eq_true ⟨c, d⟩]
        · rw [decide_eq_false d, decide_eq_false fun z => d z.2]
      · rw [if_pos (by omega), decide_eq_false fun z => c z.1]
    rw [hv]
    by_cases c : rk ≤ e
    · rw [if_pos c, ← sumTo_chs T, ← sumTo_part (f := chs T) (m := (rk - 1).toNat) (k := e) (by omega)]
      refine sumTo_congr fun j hj => ?_
      rw [ok, g]
      by_cases d : j ≤ (rk - 1).toNat
      · rw [if_pos d, if_pos (decide_eq_true ⟨by omega, c⟩)]
      · rw [if_neg d, if_neg (by rw [decide_eq_true_iff]; omega)]
    · rw [if_neg c]
      have z : ∀ k, sumTo (fun j => if okB [(v, rk, rk)] v j e = true then cntS [(v, rk, rk)] a T j else 0) k = 0 := by
        intro k
        induction k with
        | zero => show (if _ then _ else 0) = 0; rw [if_neg (by rw [ok, decide_eq_true_iff]; omega)]
        | succ k ih => show sumTo _ k + (if _ then _ else 0) = 0; rw [ih, if_neg (by rw [ok, decide_eq_true_iff]; omega)]
      exact z e
  unfold oth
  rw [show (v - a + 1).toNat = T + 1 by omega, show (b - v + 1).toNat = U + 1 by omega, ← sumTo_chs U, ← sumTo_part (f := chs U) (m := n - rk.toNat) (k := n) (by omega), ← sumTo_rev n fun j => if j ≤ n - rk.toNat then chs U j else 0, ← sumTo_mul]
  refine sumTo_congr fun j hj => ?_
  rw [step]
  by_cases c : rk ≤ j
  · rw [if_pos c, if_pos (by omega)]
  · rw [if_neg c, if_neg (by omega), Nat.zero_mul, Nat.mul_zero]
theorem nodup_le : ∀ {l m : List (List Int)}, l.Nodup → (∀ x ∈ l, x ∈ m) → l.length ≤ m.length
  | [], _, _, _ => Nat.zero_le _
  | x :: l, m, h, hs => by
    obtain ⟨h1, h2⟩ := List.nodup_cons.mp h
    have hx := hs x (List.mem_cons_self ..)
    have := nodup_le (l := l) (m := m.erase x) h2 fun y hy => (List.mem_erase_of_ne (fun e => h1 (by rw [← e]; exact hy))).mpr (hs y (List.mem_cons_of_mem _ hy))
    have hl := List.length_erase_of_mem hx
    have : 0 < m.length := List.length_pos_of_mem hx
    show l.length + 1 ≤ m.length
    omega
/-- as many as are looked at -/
theorem cnt_is {es : List Ent} {a : Int} {t n : Nat} {l : List (List Int)} (asc : es.Pairwise fun x y => x.1 ≤ y.1) (ha : ∀ e ∈ es, a ≤ e.1 ∧ e.1 < a + t) (hn : ∀ e ∈ es, e.2.2 ≤ n) (hd : l.Nodup) (hm : ∀ row, row ∈ l ↔ row.length = n ∧ row.Pairwise (· ≤ ·) ∧ (∀ y ∈ row, a ≤ y ∧ y < a + t) ∧ Lvs row es) : l.length = cntS es a t n := by
  rw [← rws_len]
  have ha1 : ∀ e ∈ es, a ≤ e.1 := fun e he => (ha e he).1
  have hf : (es.filter fun e => decide (e.1 < a + t)) = es := List.filter_eq_self.mpr fun e he => decide_eq_true (ha e he).2
  have key : ∀ row, row ∈ l ↔ row ∈ Rws es a t n := fun row => by
    rw [hm, mem_rws asc ha1, hf]
    constructor
    · rintro ⟨h1, h2, h3, h4⟩
      exact ⟨h1, h2, h3, (Lw.iff (n := n) (by omega) hn).mpr h4⟩
    · rintro ⟨h1, h2, h3, h4⟩
      exact ⟨h1, h2, h3, (Lw.iff (n := n) (by omega) hn).mp h4⟩
  have a1 := nodup_le hd fun x hx => (key x).mp hx
  have a2 := nodup_le (rws_nodup asc ha1 t n) fun x hx => (key x).mpr hx
  omega
theorem Lw.scaled {row : List Int} {c : Int} (hc : c ≠ 0) : ∀ {es : List Ent} {last : Int}, Lw row es last → Lw (row.map (c * ·)) (es.map fun e => (e.1 * c, e.2)) last
  | [], _, _ => trivial
  | e :: es, last, ⟨r, h1, h2, h3, h4, h5, h6⟩ => by
    refine ⟨r, h1, h2, h3, by rw [List.length_map]; exact h4, ?_, Lw.scaled hc h6⟩
    show rat (row.map (c * ·)) r = e.1 * c
    have : rat (row.map (c * ·)) r = c * rat row r := by
      unfold rat
      rw [List.getD_eq_getElem?_getD, List.getD_eq_getElem?_getD, List.getElem?_map]
      cases row[(r - 1).toNat]? with
      | none => simp
      | some x => rfl
    rw [this, h5, Int.mul_comm]
/-- three times as far apart: no fewer rows -/
theorem cnt_wide {es : List Ent} {a : Int} {t t3 n : Nat} (asc : es.Pairwise fun x y => x.1 ≤ y.1) (ha : ∀ e ∈ es, a ≤ e.1 ∧ e.1 < a + t) (h3 : 3 * ((t : Int) - 1) < t3) : cntS es a t n ≤ cntS (es.map fun e => (e.1 * 3, e.2)) (a * 3) t3 n := by
  rw [← rws_len, ← rws_len]
  have ha1 : ∀ e ∈ es, a ≤ e.1 := fun e he => (ha e he).1
  have asc3 : (es.map fun e => ((e.1 * 3, e.2) : Ent)).Pairwise fun x y => x.1 ≤ y.1 := by
    rw [List.pairwise_map]
    exact asc.imp fun h => by dsimp only; omega
  have ha3 : ∀ e ∈ es.map fun e => ((e.1 * 3, e.2) : Ent), a * 3 ≤ e.1 ∧ e.1 < a * 3 + t3 := fun e he => by
    obtain ⟨x, hx, rfl⟩ := List.mem_map.mp he
    have := ha x hx
    exact ⟨by dsimp only; omega, by dsimp only; omega⟩
  have hf : (es.filter fun e => decide (e.1 < a + t)) = es := List.filter_eq_self.mpr fun e he => decide_eq_true (ha e he).2
  have hf3 : ((es.map fun e => ((e.1 * 3, e.2) : Ent)).filter fun e => decide (e.1 < a * 3 + t3)) = es.map fun e => (e.1 * 3, e.2) := List.filter_eq_self.mpr fun e he => decide_eq_true (ha3 e he).2
  have : (Rws es a t n).length = ((Rws es a t n).map fun r => r.map ((3 : Int) * ·)).length := by rw [List.length_map]
  rw [this]
  refine nodup_le ?_ fun x hx => ?_
  · refine List.pairwise_map.mpr ((rws_nodup asc ha1 t n).imp fun {u w} hne e => hne ?_)
    have inj : ∀ {u w : List Int}, u.map ((3 : Int) * ·) = w.map ((3 : Int) * ·) → u = w := by
      intro u
      induction u with
      | nil => intro w h; cases w with
        | nil => rfl
        | cons _ _ => cases h
      | cons x u ih =>
        intro w h
        cases w with
        | nil => cases h
        | cons y w =>
          rw [List.map_cons, List.map_cons] at h
          injection h with h1 h2
          rw [ih h2, show x = y by omega]
    exact inj e
  · obtain ⟨r, hr, rfl⟩ := List.mem_map.mp hx
    obtain ⟨g1, g2, g3, g4⟩ := (mem_rws asc ha1).mp hr
    rw [hf] at g4
    refine (mem_rws asc3 fun e he => (ha3 e he).1).mpr ⟨by rw [List.length_map]; exact g1, ?_, fun y hy => ?_, by rw [hf3]; exact Lw.scaled (by decide) g4⟩
    · rw [List.pairwise_map]
      exact g2.imp fun h => by omega
    · obtain ⟨z, hz, rfl⟩ := List.mem_map.mp hy
      have := g3 z hz
      exact ⟨by omega, by omega⟩
end SR

set_option Elab.async false
set_option linter.all false
set_option maxRecDepth 100000
set_option maxHeartbeats 4000000
/-! math.comb; xs[i] += e of a list; how great the counts are. -/
namespace SR
open PySem PySem.Spec PyProof.Rows L2
theorem fp_ff (n : Nat) : ∀ k : Nat, k ≤ n → Builtin.Math.fallingProduct (n : Int) k = (ff n k : Nat)
  | 0, _ => rfl
  | k + 1, h => by
    rw [PySem.W.mc_fp_succ, fp_ff n k (by omega), ff_succ, Int.natCast_mul, Int.natCast_sub (by omega)]
theorem ch_le : ∀ n k : Nat, ch n k ≤ (n + 1) ^ k
  | n, 0 => by rw [ch_zero]; exact Nat.le_refl _
  | 0, k + 1 => Nat.zero_le _
  | n + 1, k + 1 => by
    rw [ch_succ]
    have a := ch_le n k
    have b := ch_le n (k + 1)
    have c : (n + 1) ^ k + (n + 1) ^ (k + 1) = (n + 1) ^ k * (n + 2) := by rw [Nat.pow_succ, show n + 2 = (n + 1) + 1 from rfl, Nat.mul_succ ((n + 1) ^ k) (n + 1), Nat.add_comm]
    have d : (n + 1) ^ k * (n + 2) ≤ (n + 1 + 1) ^ k * (n + 2) := Nat.mul_le_mul_right _ (Nat.pow_le_pow_left (by omega) k)
    rw [show (n + 1 + 1) ^ (k + 1) = (n + 1 + 1) ^ k * (n + 2) from Nat.pow_succ ..]
    omega
theorem chs_le {s m : Nat} (hs : s + m ≤ 2 ^ 110) (hm : m ≤ 60) : chs s m ≤ 2 ^ 6600 := by
  cases m with
  | zero => exact Nat.one_le_two_pow
  | succ m =>
    have h1 := ch_le (s + m) (m + 1)
    have h2 : (s + m + 1) ^ (m + 1) ≤ (2 ^ 110) ^ (m + 1) := Nat.pow_le_pow_left (by omega) _
    rw [← Nat.pow_mul] at h2
    exact Nat.le_trans h1 (Nat.le_trans h2 (Nat.pow_le_pow_right (by decide) (by omega)))
theorem sumTo_mono {f g : Nat → Nat} : ∀ {k : Nat}, (∀ j, j ≤ k → f j ≤ g j) → sumTo f k ≤ sumTo g k
  | 0, h => h 0 (Nat.le_refl _)
  | k + 1, h => Nat.add_le_add (sumTo_mono fun j hj => h j (by omega)) (h (k + 1) (Nat.le_refl _))
theorem cnt_le_chs (es : List Ent) (a : Int) : ∀ t k : Nat, cntS es a t k ≤ chs t k
  | 0, k => by
    show (if k = 0 then 1 else 0) ≤ chs 0 k
    split
    · rename_i h; rw [h]; exact Nat.le_refl _
    · exact Nat.zero_le _
  | t + 1, k => by
    show sumTo _ k ≤ chs (t + 1) k
    rw [← sumTo_chs]
    refine sumTo_mono fun j _ => ?_
    split
    · exact cnt_le_chs es a t j
    · exact Nat.zero_le _
theorem log_small {x : Nat} (h : x ≤ 2 ^ 6600) : x.log2 ≤ 6600 := by
  by_cases e : x = 0
  · rw [e]; decide
  · exact (Nat.log2_lt e).mpr (Nat.lt_of_le_of_lt h (Nat.pow_lt_pow_right (by decide) (by decide))) |> Nat.le_of_lt_succ
theorem gives_comb {n k : Nat} (t u : Tok) (hn : n ≤ 2 ^ 110) (hk : k ≤ 60) : Gives (Builtin.«math.comb» ⟨[.int (n : Int) t, .int (k : Int) u], []⟩) (.int (ch n k : Nat)) := by
  by_cases h : n < k
  · rw [ch_above h]
    exact PySem.W.mc_run_comb0 _ t _ u (by omega) (by omega) (by omega)
  · obtain ⟨m, hm⟩ : ∃ m : Nat, min (k : Int) ((n : Int) - k) = m := ⟨min k (n - k), by omega⟩
    have hmn : m ≤ n := by omega
    have e : Builtin.Math.fallingProduct (n : Int) (min (k : Int) ((n : Int) - k)).toNat / Builtin.Math.fallingProduct (min (k : Int) ((n : Int) - k)) (min (k : Int) ((n : Int) - k)).toNat = ((ch n k : Nat) : Int) := by
      rw [hm, Int.toNat_natCast, fp_ff n m hmn, fp_ff m m (Nat.le_refl _), ← Int.natCast_ediv, ff_div]
      congr 1
      by_cases c : m = k
      · rw [c]
      · rw [show m = n - k by omega, ← ch_symm (by omega)]
    have b : (ch n k) ≤ 2 ^ 6660 := by
      refine Nat.le_trans (ch_le n k) (Nat.le_trans (Nat.pow_le_pow_left (show n + 1 ≤ 2 ^ 111 by omega) k) ?_)
      rw [← Nat.pow_mul]
      exact Nat.pow_le_pow_right (by decide) (by omega)
    have g := PySem.W.mc_run_comb (n : Int) t (k : Int) u (by omega) (by omega) (by omega) (by rw [hm]; show ¬ (m : Int) > 2 ^ 63 - 1; omega) (by rw [hm]; show ¬ (m : Int) > 20000; omega) (by omega) (by
      rw [e]
      show (ch n k).log2 < bitsLine
      refine Nat.lt_of_le_of_lt (m := 6660) ?_ (by show 6660 < 2 ^ 27; decide)
      by_cases z : ch n k = 0
      · rw [z]; decide
      · exact Nat.le_of_lt_succ ((Nat.log2_lt z).mpr (Nat.lt_of_le_of_lt b (Nat.pow_lt_pow_right (by decide) (by decide)))))
    rw [e] at g
    exact g
def rComb : List V → Hp → VK → Prop := fun vs H Q => ∃ n k : Nat, vs = [.int n, .int k] ∧ n ≤ 2 ^ 110 ∧ k ≤ 60 ∧ Q (.int (ch n k : Nat)) H
theorem cr_comb {X : Cx} : CallR X (.builtin "math.comb") rComb := by
  intro pins s σ H vs us Q I r h
  obtain ⟨n, k, rfl, hn, hk, q⟩ := h
  obtain ⟨t, u, rfl⟩ := Vals.int2 r
  exact call_function_meets PySem.W.MGF.kind_comb PySem.W.MGF.plain_comb PySem.W.MGF.entry_comb (PySem.W.MGF.args_comb _ _) (gives_comb t u hn hk).meets ⟨.int _, H, I.tok _, ⟨_, rfl⟩, q⟩
/-- xs[i], read where it is then set -/
def rGetL (K : PySem.W.Frag) : V → V → Hp → VK → Prop := fun o i H Q => ∃ (p : Addr) (xs : List V) (j : Nat) (v : V), o = .ref p ∧ i = .int j ∧ SqL K H p xs ∧ xs[j]? = some v ∧ Q v H
theorem pget_list {X : Cx} : PGet X (rGetL X.K) := by
  intro pins s σ H o i ov iv Q I ro ri h
  obtain ⟨p, xs, j, v, rfl, rfl, hq, hj, q⟩ := h
  cases ro
  obtain ⟨t, rfl⟩ := ri
  obtain ⟨its, r, pl, hz⟩ := I.list hq
  obtain ⟨u, hu, ru⟩ := r.get hj
  have lj : j < xs.length := (List.getElem?_eq_some_iff.mp hj).1
  have l63 := line63
  exact wpAny_getItem_list pl.isList (by omega) (by omega) (by rw [Int.toNat_natCast]; simpa using hu) ⟨v, H, I, ru, q⟩
end SR

set_option Elab.async false
set_option linter.all false
set_option maxRecDepth 100000
set_option maxHeartbeats 4000000
/-! The package's own defs: what is checked. -/
namespace SR
open PySem PySem.Spec PyProof.Rows L2
section
variable {P : Program} {w : World} {K : PySem.W.Frag} {mg : Str → Option Value} {base : Heap}
def spIsInt : Sp := fun vs H Q _ => ∃ i : Int, vs = [.int i] ∧ Q (.bl true) H
theorem sc_is_integer : FnScope ["value"] ["value"] (defScope s_is_integer) := ⟨rfl, rfl, rfl, by decide +kernel, rfl, by decide +kernel, by decide +kernel⟩
theorem ok_is_integer {f : Addr} {fd : FuncData} (F : Fun K "is_integer" "is_integer" s_is_integer f fd) (mi : mg "isinstance" = none) (mint : mg "int" = none) (mb : mg "bool" = none) : FnOk P w K mg base CX0 1 f fd ["value"] spIsInt := by
  refine F.ok sc_is_integer (fun vs H Q E h => ?_) (fun cdv A outer s H vs Q E hr h => ?_)
  · obtain ⟨i, rfl, _⟩ := h
    rfl
  · obtain ⟨i, rfl, k⟩ := h
    refine ⟨_, pss_one (ps_ret (pe_and (pe_callB call_isi (by rfl) mi (by decide +kernel) (pa_cons (pv 0) (pa_cons (pe_bltn (v := .ty "int") (by rfl) mint (by decide +kernel) rfl) pa_nil)))
      (pe_one (pe_not (pe_callB call_isi (by rfl) mi (by decide +kernel) (pa_cons (pv 0) (pa_cons (pe_bltn (v := .ty "bool") (by rfl) mb (by decide +kernel) rfl) pa_nil))))))), ?_⟩
    refine ⟨_, rfl, _, _, _, _, true, rfl, .ty _, .base (.int i), kit_ty (by decide +kernel), true, rfl, iteT ?_⟩
    refine ⟨_, rfl, _, _, _, _, false, rfl, .ty _, .base (.int i), kit_ty (by decide +kernel), false, rfl, ?_⟩
    exact k
def spBetween : Sp := fun vs H Q _ => ∃ v a b : Int, vs = [.int v, .int a, .int b] ∧ Q (.bl (decide (a ≤ v) && decide (v ≤ b))) H
theorem sc_is_between : FnScope ["value", "least", "greatest"] ["value", "least", "greatest"] (defScope s_is_between) := ⟨rfl, rfl, rfl, by decide +kernel, rfl, by decide +kernel, by decide +kernel⟩
theorem ok_is_between {f : Addr} {fd : FuncData} (F : Fun K "is_between" "is_between" s_is_between f fd) (D1 : Dn P w K mg base "is_integer" ["value"] 1 spIsInt) : FnOk P w K mg base CX0 2 f fd ["value", "least", "greatest"] spBetween := by
  refine F.ok sc_is_between (fun vs H Q E h => ?_) (fun cdv A outer s H vs Q E hr h => ?_)
  · obtain ⟨v, a, b, rfl, _⟩ := h
    rfl
  · obtain ⟨v, a, b, rfl, k⟩ := h
    have hr1 : Room 1 _ := hr.mono (by decide)
    refine ⟨_, pss_one (ps_ret (pe_and (pe_dn D1 hr1 (pa_cons (pv 0) pa_nil)) (pe_one (pe_chain op_le op_le (pv 1) (pv 0) (pv 2))))), ?_⟩
    refine ⟨_, rfl, v, rfl, true, rfl, iteT ?_⟩
    refine ⟨_, rfl, _, rfl, _, _, rfl, rfl, _, rfl, ?_⟩
    by_cases h1 : a ≤ v
    · rw [decide_eq_true h1] at k
      rw [if_pos (decide_eq_true h1)]
      exact ⟨_, rfl, _, _, rfl, rfl, k⟩
    · rw [decide_eq_false h1] at k
      rw [if_neg (by simp [h1])]
      exact k
end
end SR

set_option Elab.async false
set_option linter.all false
set_option maxRecDepth 100000
set_option maxHeartbeats 4000000
namespace SR
open PySem PySem.Spec PyProof.Rows L2
section
variable {P : Program} {w : World} {K : PySem.W.Frag} {mg : Str → Option Value} {base : Heap}
/-- an entry as it may stand in a summary of n -/
def EntOk (n : Int) (e : Ent) : Prop := -10 ^ 30 ≤ e.1 ∧ e.1 ≤ 10 ^ 30 ∧ 1 ≤ e.2.1 ∧ e.2.1 ≤ e.2.2 ∧ e.2.2 ≤ n
theorem Valid.at {n : Int} {es : List Ent} (v : Valid n es) {j : Nat} {e : Ent} (h : es[j]? = some e) : EntOk n e := by
  have hj : j < es.length := (List.getElem?_eq_some_iff.mp h).1
  have := v.ent j hj
  rw [vl_of h, lo_of h, hi_of h] at this
  exact this
def spIsValue : Sp := fun vs H Q _ => ∃ v : Int, vs = [.int v] ∧ Q (.bl (decide (-10 ^ 30 ≤ v) && decide (v ≤ 10 ^ 30))) H
theorem sc_is_value : FnScope ["thing"] ["thing"] (defScope s_is_value) := ⟨rfl, rfl, rfl, by decide +kernel, rfl, by decide +kernel, by decide +kernel⟩
theorem ok_is_value {f : Addr} {fd : FuncData} (F : Fun K "is_value" "is_value" s_is_value f fd) (D2 : Dn P w K mg base "is_between" ["value", "least", "greatest"] 2 spBetween) {tk : Tok} (gv : mg "GREATEST_VALUE" = some (.int (10 ^ 30) tk)) : FnOk P w K mg base CX0 3 f fd ["thing"] spIsValue := by
  refine F.ok sc_is_value (fun vs H Q E h => ?_) (fun cdv A outer s H vs Q E hr h => ?_)
  · obtain ⟨v, rfl, _⟩ := h
    rfl
  · obtain ⟨v, rfl, k⟩ := h
    have hr2 : Room 2 _ := hr.mono (by decide)
    exact ⟨_, pss_one (ps_ret (pe_dn D2 hr2 (pa_cons (pv 0) (pa_cons (pe_un un_neg (pe_gi gv)) (pa_cons (pe_gi gv) pa_nil))))), _, rfl, _, rfl, _, _, _, rfl, k⟩
end
end SR

set_option Elab.async false
set_option linter.all false
set_option maxRecDepth 100000
set_option maxHeartbeats 4000000
namespace SR
open PySem PySem.Spec PyProof.Rows L2
section
variable {P : Program} {w : World} {K : PySem.W.Frag} {mg : Str → Option Value} {base : Heap}
def spIsEntry : Sp := fun vs H Q _ => ∃ (n : Int) (v : V) (e : Ent), vs = [.int n, v] ∧ EntV H v e ∧ EntOk n e ∧ Q (.bl true) H
theorem sc__is_entry : FnScope ["many", "thing", "value", "low", "high"] ["many", "thing"] (defScope s__is_entry) := ⟨rfl, rfl, rfl, by decide +kernel, rfl, by decide +kernel, by decide +kernel⟩
theorem ok__is_entry {f : Addr} {fd : FuncData} (F : Fun K "_is_entry" "_is_entry" s__is_entry f fd) (D2 : Dn P w K mg base "is_between" ["value", "least", "greatest"] 2 spBetween) (DV : Dn P w K mg base "is_value" ["thing"] 3 spIsValue)
    (mi : mg "isinstance" = none) (mt : mg "tuple" = none) (ml : mg "len" = none) : FnOk P w K mg base CX0 4 f fd ["many", "thing"] spIsEntry := by
  refine F.ok sc__is_entry (fun vs H Q E h => ?_) (fun cdv A outer s H vs Q E hr h => ?_)
  · obtain ⟨n, v, e, rfl, _⟩ := h
    rfl
  · obtain ⟨n, v, e, rfl, ⟨t, rfl, ht⟩, hok, k⟩ := h
    have hr2 : Room 2 _ := hr.mono (by decide)
    have hr3 : Room 3 _ := hr.mono (by decide)
    have nd := sc__is_entry.nd
    obtain ⟨h1, h2, h3, h4, h5⟩ := hok
    refine ⟨_, pss_cons (ps_if (PW.pt (pw_or (pt_not (pt_val (pe_callB call_isi (by rfl) mi (by decide +kernel) (pa_cons (pv 1) (pa_cons (pe_bltn (v := .ty "tuple") (by rfl) mt (by decide +kernel) rfl) pa_nil)))))
        (pw_or1 (pt_cmpR op_ne (pe_callB call_len_seq (by rfl) ml PySem.boot_len (pa_cons (pv 1) pa_nil)) pe_int (nomark _))))) (pss_one (ps_ret pe_bl)) pss_nil)
      (pss_cons (ps_asg (pv 1) (pg_tup rfl (pgs_cons (pg_name (i := 2) nd rfl (Or.inl rfl)) (pgs_cons (pg_name (i := 3) nd rfl (Or.inl rfl)) (pgs_cons (pg_name (i := 4) nd rfl (Or.inl rfl)) pgs_nil)))))
      (pss_one (ps_ret (pe_and (pe_dn DV hr3 (pa_cons (pv 2) pa_nil)) (pe_and (pe_dn D2 hr2 (pa_cons (pv 3) (pa_cons pe_int (pa_cons (pv 0) pa_nil)))) (pe_one (pe_dn D2 hr2 (pa_cons (pv 4) (pa_cons (pv 3) (pa_cons (pv 0) pa_nil))))))))))
      , ?_⟩
    refine ⟨_, rfl, _, _, _, _, true, rfl, .ty _, .base (.tup ht), kit_ty (by decide +kernel), true, rfl, iteF ?_⟩
    refine ⟨_, rfl, t, _, rfl, .inr (SqT.of ht), rfl, _, rfl, iteF ?_⟩
    refine ⟨_, rfl, t, _, rfl, SqT.of ht, rfl, _, _, rfl, _, _, rfl, _, _, rfl, rfl, ?_⟩
    refine ⟨_, rfl, _, rfl, ?_⟩
    rw [decide_eq_true (show -(10 : Int) ^ 30 ≤ e.1 from h1), decide_eq_true h2]
    refine ⟨_, rfl, iteT ?_⟩
    refine ⟨_, rfl, _, rfl, _, _, _, rfl, _, rfl, ?_⟩
    rw [decide_eq_true h3, decide_eq_true (show e.2.1 ≤ n by omega)]
    refine iteT ?_
    refine ⟨_, rfl, _, rfl, _, rfl, _, _, _, rfl, ?_⟩
    rw [decide_eq_true h4, decide_eq_true h5]
    exact k
def spCheck : Sp := fun vs H Q _ => ∃ (n : Int) (u : V) (es : List Ent), vs = [.int n, u] ∧ TupV H u es ∧ Valid n es ∧ ∀ H', Same H H' → Q .non H'
theorem sc__check_entries : FnScope ["many", "entries", "before", "index", "thing"] ["many", "entries"] (defScope s__check_entries) := ⟨rfl, rfl, rfl, by decide +kernel, rfl, by decide +kernel, by decide +kernel⟩
theorem ok__check_entries {f : Addr} {fd : FuncData} (F : Fun K "_check_entries" "_check_entries" s__check_entries f fd) (D3 : Dn P w K mg base "_is_entry" ["many", "thing"] 4 spIsEntry)
    (mi : mg "isinstance" = none) (mt : mg "tuple" = none) (ml : mg "len" = none) (me : mg "enumerate" = none) {tk tk2 : Tok} (gv : mg "GREATEST_VALUE" = some (.int (10 ^ 30) tk)) (gm : mg "MOST_ENTRIES" = some (.int 12 tk2)) : FnOk P w K mg base CX0 5 f fd ["many", "entries"] spCheck := by
  refine F.ok sc__check_entries (fun vs H Q E h => ?_) (fun cdv A outer s H vs Q E hr h => ?_)
  · obtain ⟨n, u, es, rfl, _⟩ := h
    rfl
  · obtain ⟨n, u, es, rfl, ⟨a, vs, rfl, ha, he⟩, hv, k⟩ := h
    have hr3 : Room 4 _ := hr.mono (by decide)
    have nd := sc__check_entries.nd
    have hl : vs.length = es.length := he.len
    refine ⟨_, pss_cons (ps_if (PW.pt (pw_or (pt_not (pt_val (pe_callB call_isi (by rfl) mi (by decide +kernel) (pa_cons (pv 1) (pa_cons (pe_bltn (v := .ty "tuple") (by rfl) mt (by decide +kernel) rfl) pa_nil)))))
        (pw_or1 (pt_cmpR op_gt (pe_callB call_len_seq (by rfl) ml PySem.boot_len (pa_cons (pv 1) pa_nil)) (pe_gi gm) (nomark _))))) (pss_one ps_never) pss_nil)
      (pss_cons (ps_set (i := 2) nd rfl (Or.inl rfl) (pe_un un_neg (pe_gi gv)))
      (pss_one (ps_for PassesOwn.never rfl (pi_enumT (by rfl) me (pa_cons (pv 1) pa_nil)) (pg_tup rfl (pgs_cons (pg_name (i := 3) nd rfl (Or.inl rfl)) (pgs_cons (pg_name (i := 4) nd rfl (Or.inl rfl)) pgs_nil)))
        (pss_cons (ps_if (PW.pt (pw_or (pt_not (pt_val (pe_dn D3 hr3 (pa_cons (pv 0) (pa_cons (pv 4) pa_nil))))) (pw_or1 (pt_cmpR op_lt (pe_ix ix_tup (pv 4) pe_int (fun _ _ => rfl)) (pv 2) (nomark _))))) (pss_one ps_never) pss_nil)
        (pss_one (ps_set (i := 2) nd rfl (Or.inl rfl) (pe_ix ix_tup (pv 4) pe_int (fun _ _ => rfl)))))))), ?_⟩
    refine ⟨_, rfl, _, _, _, _, true, rfl, .ty _, .base (.tup ha), kit_ty (by decide +kernel), true, rfl, iteF ?_⟩
    refine ⟨_, rfl, a, _, rfl, .inr (SqT.of ha), _, _, rfl, rfl, _, rfl, ?_⟩
    have h12 := hv.len
    rw [decide_eq_false (show ¬ (12 : Int) < (vs.length : Int) by omega)]
    refine iteF ?_
    refine ⟨_, rfl, ?_⟩
    refine ⟨_, rfl, a, vs, rfl, SqT.of ha, for_enumT (K := K) (a := a) (xs := vs) (fun i σ H' => ∃ (b : Int) (y3 y4 : Option V), σ = [some (.int n), some (.ref a), some (.int b), y3, y4] ∧ Same H H' ∧ (i < es.length → b ≤ vl es i))
      ⟨_, none, none, rfl, Same.refl H, fun h => (hv.ent 0 h).1⟩ (fun i σ H' ⟨_, _, _, _, s5, _⟩ => SqT.of (s5 _ _ ha)) ?_ ?_⟩
    · rintro i x T σ H' hx ⟨b, y3, y4, rfl, s5, hb⟩ hT
      obtain ⟨e, hei, t, rfl, ht⟩ := pr_at' he hx
      have s6 : Same H (upd H' T (.tup [.int (i : Nat), .ref t])) := Same_new2 s5 hT
      have ht6 := s6 _ _ ht
      have hil : i < es.length := (List.getElem?_eq_some_iff.mp hei).1
      refine ⟨T, _, rfl, SqT.of upd_same, rfl, _, _, rfl, _, _, rfl, rfl, ?_⟩
      refine ⟨_, rfl, _, rfl, n, .ref t, e, rfl, ⟨t, rfl, ht6⟩, hv.at hei, true, rfl, iteF ?_⟩
      have hvl := vl_of hei
      refine ⟨_, rfl, t, _, 0, _, rfl, rfl, SqT.of ht6, atI_nat (j := 0) rfl, _, rfl, _, _, rfl, rfl, _, rfl, ?_⟩
      have := hb hil
      rw [decide_eq_false (show ¬ e.1 < b by omega)]
      refine iteF ?_
      refine ⟨_, rfl, t, _, 0, _, rfl, rfl, SqT.of ht6, atI_nat (j := 0) rfl, ?_⟩
      refine ⟨_, _, _, rfl, s6, fun hi1 => ?_⟩
      rw [← hvl]
      exact hv.asc i hi1
    · rintro σ H' ⟨b, y3, y4, rfl, s5, _⟩
      exact k H' s5
end
end SR

set_option Elab.async false
set_option linter.all false
set_option maxRecDepth 100000
set_option maxHeartbeats 4000000
/-! What is checked, of any value. -/
namespace SR
open PySem PySem.Spec PyProof.Rows L2
/-- a value of a built-in type -/
inductive Any (K : PySem.W.Frag) (H : Hp) : V → String → Prop
  | non : Any K H .non "NoneType"
  | bl (b : Bool) : Any K H (.bl b) "bool"
  | int (i : Int) : Any K H (.int i) "int"
  | str (x : Str) : Any K H (.str x) "str"
  | lst {a : Addr} {xs : List V} (h : H a = some (.lst xs)) : Any K H (.ref a) "list"
  | tup {a : Addr} {xs : List V} (h : H a = some (.tup xs)) : Any K H (.ref a) "tuple"
theorem Any.ty {K : PySem.W.Frag} {H : Hp} {v : V} {T : String} (h : Any K H v T) : TyX K H v (.type T) := by
  cases h with
  | non => exact .base .non
  | bl b => exact .base (.bl b)
  | int i => exact .base (.int i)
  | str x => exact .base (.str x)
  | lst h => exact .base (.lst h)
  | tup h => exact .base (.tup h)
theorem Any.mono {K : PySem.W.Frag} {H H' : Hp} {v : V} {T : String} (s : Same H H') (h : Any K H v T) : Any K H' v T := by
  cases h with
  | non => exact .non
  | bl b => exact .bl b
  | int i => exact .int i
  | str x => exact .str x
  | lst h => exact .lst (s _ _ h)
  | tup h => exact .tup (s _ _ h)
def isI : V → Bool
  | .int _ => true
  | _ => false
def isT {K : PySem.W.Frag} {H : Hp} : {v : V} → {T : String} → Any K H v T → Bool := fun {_ T} _ => T == "tuple"
theorem Any.kInt {K : PySem.W.Frag} {H : Hp} {v : V} {T : String} (h : Any K H v T) : PySem.W.kitOne K (.type T) (.type "int") = some (T == "int" || T == "bool") := by
  cases h <;> exact kit_ty (by decide +kernel)
theorem Any.kBool {K : PySem.W.Frag} {H : Hp} {v : V} {T : String} (h : Any K H v T) : PySem.W.kitOne K (.type T) (.type "bool") = some (T == "bool") := by
  cases h <;> exact kit_ty (by decide +kernel)
theorem Any.kTup {K : PySem.W.Frag} {H : Hp} {v : V} {T : String} (h : Any K H v T) : PySem.W.kitOne K (.type T) (.type "tuple") = some (T == "tuple") := by
  cases h <;> exact kit_ty (by decide +kernel)
section
variable {P : Program} {w : World} {K : PySem.W.Frag} {mg : Str → Option Value} {base : Heap} {C : Addr}
def spIsIntA (K : PySem.W.Frag) : Sp := fun vs H Q _ => ∃ (v : V) (T : String), vs = [v] ∧ Any K H v T ∧ Q (.bl (isI v)) H
theorem ok_is_integerA {f : Addr} {fd : FuncData} (F : Fun K "is_integer" "is_integer" s_is_integer f fd) (mi : mg "isinstance" = none) (mint : mg "int" = none) (mb : mg "bool" = none) : FnOk P w K mg base CX0 1 f fd ["value"] (spIsIntA K) := by
  refine F.ok sc_is_integer (fun vs H Q E h => ?_) (fun cdv A outer s H vs Q E hr h => ?_)
  · obtain ⟨v, T, rfl, _⟩ := h
    rfl
  · obtain ⟨v, T, rfl, hv, k⟩ := h
    refine ⟨_, pss_one (ps_ret (pe_and (pe_callB call_isi (by rfl) mi (by decide +kernel) (pa_cons (pv 0) (pa_cons (pe_bltn (v := .ty "int") (by rfl) mint (by decide +kernel) rfl) pa_nil)))
      (pe_one (pe_not (pe_callB call_isi (by rfl) mi (by decide +kernel) (pa_cons (pv 0) (pa_cons (pe_bltn (v := .ty "bool") (by rfl) mb (by decide +kernel) rfl) pa_nil))))))), ?_⟩
    refine ⟨_, rfl, _, _, _, _, _, rfl, .ty _, hv.ty, hv.kInt, _, rfl, ?_⟩
    cases hv with
    | int i => exact iteT ⟨_, rfl, _, _, _, _, _, rfl, .ty _, (Any.int (K := K) (H := H) i).ty, (Any.int (K := K) (H := H) i).kBool, _, rfl, k⟩
    | bl b => exact iteT ⟨_, rfl, _, _, _, _, _, rfl, .ty _, (Any.bl (K := K) (H := H) b).ty, (Any.bl (K := K) (H := H) b).kBool, _, rfl, k⟩
    | non => exact iteF k
    | str x => exact iteF k
    | lst h => exact iteF k
    | tup h => exact iteF k
/-- is_between of a value and two bounds -/
def betV (v : V) (a b : Int) : Bool := match v with
  | .int i => decide (a ≤ i) && decide (i ≤ b)
  | _ => false
def spBetweenA (K : PySem.W.Frag) : Sp := fun vs H Q _ => ∃ (v : V) (T : String) (a b : Int), vs = [v, .int a, .int b] ∧ Any K H v T ∧ Q (.bl (betV v a b)) H
theorem ok_is_betweenA {f : Addr} {fd : FuncData} (F : Fun K "is_between" "is_between" s_is_between f fd) (D1 : Dn P w K mg base "is_integer" ["value"] 1 (spIsIntA K)) : FnOk P w K mg base CX0 2 f fd ["value", "least", "greatest"] (spBetweenA K) := by
  refine F.ok sc_is_between (fun vs H Q E h => ?_) (fun cdv A outer s H vs Q E hr h => ?_)
  · obtain ⟨v, T, a, b, rfl, _⟩ := h
    rfl
  · obtain ⟨v, T, a, b, rfl, hv, k⟩ := h
    have hr1 : Room 1 _ := hr.mono (by decide)
    refine ⟨_, pss_one (ps_ret (pe_and (pe_dn D1 hr1 (pa_cons (pv 0) pa_nil)) (pe_one (pe_chain op_le op_le (pv 1) (pv 0) (pv 2))))), ?_⟩
    refine ⟨_, rfl, v, T, rfl, hv, _, rfl, ?_⟩
    cases hv with
    | int i =>
      refine iteT ?_
      refine ⟨_, rfl, _, rfl, _, _, rfl, rfl, _, rfl, ?_⟩
      have k : Q (.bl (decide (a ≤ i) && decide (i ≤ b))) H := k
      by_cases h1 : a ≤ i
      · rw [decide_eq_true h1] at k
        rw [if_pos (decide_eq_true h1)]
        exact ⟨_, rfl, _, _, rfl, rfl, k⟩
      · rw [decide_eq_false h1] at k
        rw [if_neg (by simp [h1])]
        exact k
    | bl b => exact iteF k
    | non => exact iteF k
    | str x => exact iteF k
    | lst h => exact iteF k
    | tup h => exact iteF k
def spIsValueA (K : PySem.W.Frag) : Sp := fun vs H Q _ => ∃ (v : V) (T : String), vs = [v] ∧ Any K H v T ∧ Q (.bl (betV v (-10 ^ 30) (10 ^ 30))) H
theorem ok_is_valueA {f : Addr} {fd : FuncData} (F : Fun K "is_value" "is_value" s_is_value f fd) (D2 : Dn P w K mg base "is_between" ["value", "least", "greatest"] 2 (spBetweenA K)) {tk : Tok} (gv : mg "GREATEST_VALUE" = some (.int (10 ^ 30) tk)) : FnOk P w K mg base CX0 3 f fd ["thing"] (spIsValueA K) := by
  refine F.ok sc_is_value (fun vs H Q E h => ?_) (fun cdv A outer s H vs Q E hr h => ?_)
  · obtain ⟨v, T, rfl, _⟩ := h
    rfl
  · obtain ⟨v, T, rfl, hv, k⟩ := h
    have hr2 : Room 2 _ := hr.mono (by decide)
    exact ⟨_, pss_one (ps_ret (pe_dn D2 hr2 (pa_cons (pv 0) (pa_cons (pe_un un_neg (pe_gi gv)) (pa_cons (pe_gi gv) pa_nil))))), _, rfl, _, rfl, _, _, _, _, rfl, hv, k⟩
end
end SR

set_option Elab.async false
set_option linter.all false
set_option maxRecDepth 100000
set_option maxHeartbeats 4000000
namespace SR
open PySem PySem.Spec PyProof.Rows L2
/-- an own class whose instances are asked by isinstance -/
structure IcX (K : PySem.W.Frag) (C : Addr) : Prop where
  cl : Cls K C
  ha : PySem.W.findIn K (.ref C) "__class__" = some (some (.builtin "object.__class__"))
  hn : PySem.W.specialIn K (.builtin "object.__class__") "__get__" = some (some (.builtin "getset_descriptor.__get__"))
  htk : PySem.W.takesIn K (.builtin "object.__class__") = some true
  hm : PySem.W.mroIn K C (.type "object") = some true
  me : PySem.W.kitOne K (.ref C) (.ref C) = some true
/-- the class Summary, as the top has made it -/
structure SumT (K : PySem.W.Frag) (mg : Str → Option Value) (C : Addr) : Prop where
  ic : IcX K C
  nM : NoAttr K C "_many"
  nE : NoAttr K C "_entries"
  g : mg "Summary" = some (.ref C)
  tup : PySem.W.kitOne K (.type "tuple") (.ref C) = some false
  nf1 : PySem.W.notFirst K C (.ref C) = true
  nf2 : PySem.W.notFirst K C (.type "tuple") = true
section
variable {P : Program} {w : World} {K : PySem.W.Frag} {mg : Str → Option Value} {base : Heap} {C : Addr}
theorem SumT.ty (T : SumT K mg C) {H : Hp} {p dx : Addr} {fs : List (Str × V)} (h : H p = some (.ins C dx fs)) : TyX K H (.ref p) (.ref C) := .base (.ins h T.ic.cl T.ic.ha T.ic.hn T.ic.htk T.ic.hm)
def spSumInit (C : Addr) : Sp := fun vs H Q _ => ∃ (p dx : Addr) (n : Int) (u : V) (es : List Ent), vs = [.ref p, .int n, u] ∧ H p = some (.ins C dx []) ∧ TupV H u es ∧ Valid n es ∧
  ∀ H', H' p = some (.ins C dx (sfl n u)) → (∀ b o, H b = some o → b ≠ p → H' b = some o) → Q .non H'
theorem sc_Summary_init : FnScope ["self", "many", "entries"] ["self", "many", "entries"] (defScope s_Summary_init) := ⟨rfl, rfl, rfl, by decide +kernel, rfl, by decide +kernel, by decide +kernel⟩
theorem ok_Summary_init {f : Addr} {fd : FuncData} (F : Fun K "__init__" "Summary.__init__" s_Summary_init f fd) (T : SumT K mg C) (D2 : Dn P w K mg base "is_between" ["value", "least", "greatest"] 2 spBetween) (D4 : Dn P w K mg base "_check_entries" ["many", "entries"] 5 spCheck)
    {tk : Tok} (gc : mg "GREATEST_COUNT" = some (.int (10 ^ 30) tk)) : FnOk P w K mg base CX0 6 f fd ["self", "many", "entries"] (spSumInit C) := by
  refine F.ok sc_Summary_init (fun vs H Q E h => ?_) (fun cdv A outer s H vs Q E hr h => ?_)
  · obtain ⟨p, dx, n, u, es, rfl, _⟩ := h
    rfl
  · obtain ⟨p, dx, n, u, es, rfl, hp, hu, hv, k⟩ := h
    have hr2 : Room 2 _ := hr.mono (by decide)
    have hr4 : Room 5 _ := hr.mono (by decide)
    refine ⟨_, pss_cons (ps_if (pt_not (pt_val (pe_dn D2 hr2 (pa_cons (pv 1) (pa_cons pe_int (pa_cons (pe_gi gc) pa_nil)))))) (pss_one ps_never) pss_nil)
      (pss_cons (ps_expr (pe_dn D4 hr4 (pa_cons (pv 1) (pa_cons (pv 2) pa_nil))))
      (pss_cons (ps_fld (pv 0) (pv 1) rfl) (pss_one (ps_fld (pv 0) (pv 2) rfl)))), ?_⟩
    refine ⟨_, rfl, _, _, _, rfl, _, rfl, ?_⟩
    rw [decide_eq_true hv.n1, decide_eq_true hv.n2]
    refine iteF ?_
    refine ⟨_, rfl, _, rfl, n, u, es, rfl, hu, hv, fun H1 s1 => ?_⟩
    refine ⟨_, rfl, _, rfl, p, C, dx, [], rfl, s1 _ _ hp, T.ic.cl, T.nM, (by show 0 < 1000; decide), _, rfl, _, rfl, p, C, dx, _, rfl, upd_same, T.ic.cl, T.nE, (by show 1 < 1000; decide), ?_⟩
    refine k _ upd_same fun b o e hb => ?_
    rw [upd_ne hb, upd_ne hb]
    exact s1 _ _ e
theorem sc_Summary_many : FnScope ["self"] ["self"] (defScope s_Summary_many) := ⟨rfl, rfl, rfl, by decide +kernel, rfl, by decide +kernel, by decide +kernel⟩
theorem ok_Summary_many {f : Addr} {fd : FuncData} (F : Fun K "many" "Summary.many" s_Summary_many f fd) (T : SumT K mg C) : FnOk P w K mg base CX0 1 f fd ["self"] (getSp C "_many") := by
  refine F.ok sc_Summary_many (fun vs H Q E h => ?_) (fun cdv A outer s H vs Q E hr h => ?_)
  · obtain ⟨a, dx, fs, v, rfl, _⟩ := h
    rfl
  · obtain ⟨a, dx, fs, v, rfl, ha, hl, k⟩ := h
    exact ⟨_, pss_one (ps_ret (pe_fld (pv 0) rfl)), _, rfl, a, C, dx, fs, v, rfl, ha, T.ic.cl, T.nM, hl, k⟩
theorem sc_Summary_entries : FnScope ["self"] ["self"] (defScope s_Summary_entries) := ⟨rfl, rfl, rfl, by decide +kernel, rfl, by decide +kernel, by decide +kernel⟩
theorem ok_Summary_entries {f : Addr} {fd : FuncData} (F : Fun K "entries" "Summary.entries" s_Summary_entries f fd) (T : SumT K mg C) : FnOk P w K mg base CX0 1 f fd ["self"] (getSp C "_entries") := by
  refine F.ok sc_Summary_entries (fun vs H Q E h => ?_) (fun cdv A outer s H vs Q E hr h => ?_)
  · obtain ⟨a, dx, fs, v, rfl, _⟩ := h
    rfl
  · obtain ⟨a, dx, fs, v, rfl, ha, hl, k⟩ := h
    exact ⟨_, pss_one (ps_ret (pe_fld (pv 0) rfl)), _, rfl, a, C, dx, fs, v, rfl, ha, T.ic.cl, T.nE, hl, k⟩
def spSumLen (C : Addr) : Sp := fun vs H Q _ => ∃ (v : V) (n : Int) (es : List Ent), vs = [v] ∧ SumV C H v n es ∧ Q (.int es.length) H
theorem sc_Summary_len : FnScope ["self"] ["self"] (defScope s_Summary_len) := ⟨rfl, rfl, rfl, by decide +kernel, rfl, by decide +kernel, by decide +kernel⟩
theorem ok_Summary_len {f : Addr} {fd : FuncData} (F : Fun K "__len__" "Summary.__len__" s_Summary_len f fd) (T : SumT K mg C) (ml : mg "len" = none) : FnOk P w K mg base CX0 1 f fd ["self"] (spSumLen C) := by
  refine F.ok sc_Summary_len (fun vs H Q E h => ?_) (fun cdv A outer s H vs Q E hr h => ?_)
  · obtain ⟨v, n, es, rfl, _⟩ := h
    rfl
  · obtain ⟨v, n, es, rfl, ⟨p, dx, u, rfl, hp, a, vs, rfl, ha, he⟩, k⟩ := h
    refine ⟨_, pss_one (ps_ret (pe_callB call_len_seq (by rfl) ml PySem.boot_len (pa_cons (pe_fld (pv 0) rfl) pa_nil))), ?_⟩
    refine ⟨_, rfl, p, C, dx, _, _, rfl, hp, T.ic.cl, T.nE, sfl_entries _ _, a, vs, rfl, .inr (SqT.of ha), ?_⟩
    rw [he.len]
    exact k
/-- self == other: other a Summary, or of another kind -/
def spSumEq (K : PySem.W.Frag) (C : Addr) : Sp := fun vs H Q _ => ∃ (v y : V) (n : Int) (es : List Ent), vs = [v, y] ∧ SumV C H v n es ∧
  ((∃ t, TyX K H y t ∧ PySem.W.kitOne K t (.ref C) = some false ∧ Q (.bl false) H) ∨ ∃ n2 es2, SumV C H y n2 es2 ∧ Q (.bl (decide (n = n2) && decide (es = es2))) H)
theorem sc_Summary_eq : FnScope ["self", "other"] ["self", "other"] (defScope s_Summary_eq) := ⟨rfl, rfl, rfl, by decide +kernel, rfl, by decide +kernel, by decide +kernel⟩
theorem ok_Summary_eq {f : Addr} {fd : FuncData} (F : Fun K "__eq__" "Summary.__eq__" s_Summary_eq f fd) (T : SumT K mg C) (mi : mg "isinstance" = none) : FnOk P w K mg base CX0 1 f fd ["self", "other"] (spSumEq K C) := by
  refine F.ok sc_Summary_eq (fun vs H Q E h => ?_) (fun cdv A outer s H vs Q E hr h => ?_)
  · obtain ⟨v, y, n, es, rfl, _⟩ := h
    rfl
  · obtain ⟨v, y, n, es, rfl, ⟨p, dx, u, rfl, hp, hu⟩, k⟩ := h
    refine ⟨_, pss_one (ps_ret (pe_and (pe_callB call_isi (by rfl) mi (by decide +kernel) (pa_cons (pv 1) (pa_cons (pe_glob (v := .ref C) rfl T.g rfl) pa_nil)))
      (pe_and (pe_cmpR op_eq (pe_fld (pv 0) rfl) (pe_fld (pv 1) rfl) (nomark _)) (pe_one (pe_cmpR (op_eqD hr.units) (pe_fld (pv 0) rfl) (pe_fld (pv 1) rfl) (nomark _)))))), ?_⟩
    rcases k with ⟨t, ty, hk, q⟩ | ⟨n2, es2, ⟨p2, dx2, u2, rfl, hp2, hu2⟩, q⟩
    · exact ⟨_, rfl, _, _, _, _, false, rfl, .own C, ty, hk, false, rfl, iteF q⟩
    · refine ⟨_, rfl, _, _, _, _, true, rfl, .own C, T.ty hp2, T.ic.me, true, rfl, iteT ?_⟩
      refine ⟨_, rfl, p, C, dx, _, _, rfl, hp, T.ic.cl, T.nM, sfl_many _ _, _, rfl, p2, C, dx2, _, _, rfl, hp2, T.ic.cl, T.nM, sfl_many _ _, rfl, _, rfl, ?_⟩
      refine ite2 (fun e => ?_) (fun e => ?_)
      · have e1 : n = n2 := V.int.inj (of_decide_eq_true e)
        subst e1
        refine ⟨_, rfl, p, C, dx, _, _, rfl, hp, T.ic.cl, T.nE, sfl_entries _ _, _, rfl, p2, C, dx2, _, _, rfl, hp2, T.ic.cl, T.nE, sfl_entries _ _, _, _, hu.dp, hu2.dp, shaped_ents _, shaped_ents _, ?_⟩
        rw [eqv_ents]
        rw [decide_eq_true rfl, Bool.true_and] at q
        exact q
      · have e1 : ¬ n = n2 := fun z => e (decide_eq_true (by rw [z]))
        rw [decide_eq_false e1, Bool.false_and] at q
        exact q
end
end SR

set_option Elab.async false
set_option linter.all false
set_option maxRecDepth 100000
set_option maxHeartbeats 4000000
namespace SR
open PySem PySem.Spec PyProof.Rows L2
section
variable {P : Program} {w : World} {K : PySem.W.Frag} {mg : Str → Option Value} {base : Heap} {C : Addr}
/-- Summary(..) -/
def DnMk (P : Program) (w : World) (K : PySem.W.Frag) (mg : Str → Option Value) (base : Heap) (C : Addr) : Prop := ∃ fI fd, Mk K C fI ∧ FnOk P w K mg base CX0 6 fI fd ["self", "many", "entries"] (spSumInit C) ∧ Binds K fd ["self", "many", "entries"] []
theorem pe_mkS {X : Cx} {e : Expr} {es : List Expr} {t : TA} {p pos : Pos} (D : DnMk X.prog X.w X.K X.mg X.base C) (T : SumT X.K X.mg C) (hr : Room 7 X.A) (ha : PA X (e :: es) t) (hg : Gl X "Summary" := by rfl)
    (he : starEach (e :: es) X.env = (false, eval e X.env) :: starEach es X.env := by rfl) (hpl : (backTo pos (starEach es X.env)).any (·.1) = false := by rfl) :
    PE X (.Call (.Name "Summary" p) (e :: es) [] pos) (tMake C (spSumInit C) [] E0 t) := by
  obtain ⟨fI, fd, M, F, b⟩ := D
  exact pe_make M F hr hg T.g b .nil pass0 ha (by decide) he hpl
theorem sum_made {H1 : Hp} {n : Int} {u : V} {es : List Ent} {Q : VK} (hu : TupV H1 u es) (hv : Valid n es) (k : ∀ x H', H1 x = none → Same H1 H' → SumV C H' (.ref x) n es → Q (.ref x) H') : ∀ x dx, H1 x = none → H1 dx = none → dx ≠ x →
    spSumInit C (.ref x :: ([.int n, u] ++ [])) (upd (upd H1 dx (.own x)) x (.ins C dx [])) (fun v H2 => v = .non ∧ Q (.ref x) H2) E0 := fun x dx nx nd ne => by
  have s0 : Same H1 (upd (upd H1 dx (.own x)) x (.ins C dx [])) := fun b o e => by
    rw [upd_ne (ne_of_none e nx), upd_ne (ne_of_none e nd)]
    exact e
  refine ⟨x, dx, n, u, es, rfl, upd_same, hu.mono s0, hv, fun H' hx kp => ⟨rfl, ?_⟩⟩
  have s1 : Same H1 H' := fun b o e => kp b o (s0 b o e) (ne_of_none e nx)
  exact k x H' nx s1 ⟨x, dx, u, rfl, hx, hu.mono s1⟩
theorem sum_mk {H1 : Hp} {n : Int} {u : V} {es : List Ent} {x dx : Addr} {R : Hp → Prop} (hu : TupV H1 u es) (hv : Valid n es) (nx : H1 x = none) (nd : H1 dx = none) (ne : dx ≠ x) (k : ∀ H', Same H1 H' → SumV C H' (.ref x) n es → R H') :
    spSumInit C (.ref x :: ([.int n, u] ++ [])) (upd (upd H1 dx (.own x)) x (.ins C dx [])) (fun v H2 => v = .non ∧ R H2) E0 := by
  have s0 : Same H1 (upd (upd H1 dx (.own x)) x (.ins C dx [])) := fun b o e => by
    rw [upd_ne (ne_of_none e nx), upd_ne (ne_of_none e nd)]
    exact e
  refine ⟨x, dx, n, u, es, rfl, upd_same, hu.mono s0, hv, fun H' hx kp => ⟨rfl, ?_⟩⟩
  have s1 : Same H1 H' := fun b o e => kp b o (s0 b o e) (ne_of_none e nx)
  exact k H' s1 ⟨x, dx, u, rfl, hx, hu.mono s1⟩
end
end SR

set_option Elab.async false
set_option linter.all false
set_option maxRecDepth 100000
set_option maxHeartbeats 4000000
namespace SR
open PySem PySem.Spec PyProof.Rows L2
section
variable {P : Program} {w : World} {K : PySem.W.Frag} {mg : Str → Option Value} {base : Heap} {C : Addr}
def spLeast (C : Addr) : Sp := fun vs H Q _ => ∃ (v : V) (n : Int) (es : List Ent), vs = [v] ∧ SumV C H v n es ∧ es.length ≤ 12 ∧ ∀ H' p, Same H H' → H p = none → H' p = some (.lst ((List.range es.length).map fun j => V.int (tlo es j))) → Q (.ref p) H'
theorem sc__least_ranks : FnScope ["summary", "ranks", "rank", "entry"] ["summary"] (defScope s__least_ranks) := ⟨rfl, rfl, rfl, by decide +kernel, rfl, by decide +kernel, by decide +kernel⟩
theorem ok__least_ranks {f : Addr} {fd : FuncData} (F : Fun K "_least_ranks" "_least_ranks" s__least_ranks f fd) (T : SumT K mg C) (DE : Pr P w K mg base C "entries" 1 (getSp C "_entries")) (mm : mg "max" = none) : FnOk P w K mg base CX0 3 f fd ["summary"] (spLeast C) := by
  refine F.ok sc__least_ranks (fun vs H Q E h => ?_) (fun cdv A outer s H vs Q E hr h => ?_)
  · obtain ⟨v, n, es, rfl, _⟩ := h
    rfl
  · obtain ⟨v, n, es, rfl, ⟨p, dx, u, rfl, hp, a, vs, rfl, ha, he⟩, h12, k⟩ := h
    have hr2 : Room 2 _ := hr.mono (by decide)
    have nd := sc__least_ranks.nd
    have hl : vs.length = es.length := he.len
    refine ⟨_, pss_cons (ps_set (i := 1) nd rfl (Or.inl rfl) (pe_lst pa_nil))
      (pss_cons (ps_set (i := 2) nd rfl (Or.inl rfl) pe_int)
      (pss_cons (ps_for PassesOwn.never rfl (pi_tup (pe_pr DE T.ic.cl hr2 (pv 0))) (pg_name (i := 3) nd rfl (Or.inl rfl))
        (pss_cons (ps_set (i := 2) nd rfl (Or.inl rfl) (pe_callB (call_max2 rfl) (by rfl) mm (by decide +kernel) (pa_cons (pe_ix ix_tup (pv 3) pe_int (fun _ _ => rfl)) (pa_cons (pe_op op_add (pv 2) pe_int) pa_nil))))
        (pss_one (ps_expr (pe_bm PySem.F.plainAttrs_list PySem.F.slot_list_append PySem.F.type_list_append mt_append (pv 1) (pa_cons (pv 2) pa_nil))))))
      (pss_one (ps_ret (pv 1))))), ?_⟩
    refine ⟨Nat.zero_le _, fun q nq => ?_⟩
    refine ⟨_, rfl, p, dx, _, rfl, Same_new nq _ _ hp, p, dx, _, _, rfl, Same_new nq _ _ hp, sfl_entries _ _, a, rfl, ⟨_, SqT.of (Same_new nq _ _ ha)⟩, for_tup (K := K) (a := a) (xs := vs)
      (fun i σ H' => ∃ (y3 : Option V), σ = [some (.ref p), some (.ref q), some (.int (lowS es i)), y3] ∧ Same H H' ∧ H' q = some (.lst ((List.range i).map fun j => V.int (tlo es j))))
      ⟨none, rfl, Same_new nq, upd_same⟩ (fun i σ H' _ ⟨_, _, s5, _⟩ => SqT.of (s5 _ _ ha)) ?_ ?_⟩
    · rintro i x σ H' hx ⟨y3, rfl, s5, hq⟩
      obtain ⟨e, hei, t, rfl, ht⟩ := pr_at' he hx
      have hil : i < es.length := (List.getElem?_eq_some_iff.mp hei).1
      refine ⟨_, rfl, t, _, 1, _, rfl, rfl, SqT.of (s5 _ _ ht), atI_nat (j := 1) rfl, _, rfl, _, _, rfl, rfl, _, _, rfl, ?_⟩
      have e1 : (if lowS es i + 1 > e.2.1 then lowS es i + 1 else e.2.1) = lowS es (i + 1) := by rw [max_if, ← lo_of hei]; rfl
      rw [e1]
      refine ⟨_, rfl, .inl ⟨rfl, _, SqL.of hq⟩, _, rfl, q, _, _, rfl, rfl, hq, ?_, ?_⟩
      · rw [List.length_map, List.length_range]
        exact small1000 (by omega)
      · refine ⟨_, rfl, Same_mut s5 nq, ?_⟩
        rw [upd_same, List.range_succ, List.map_append]
        rfl
    · rintro σ H' ⟨y3, rfl, s5, hq⟩
      rw [hl] at hq
      exact ⟨_, rfl, k H' q s5 nq hq⟩
def spGreat (C : Addr) : Sp := fun vs H Q _ => ∃ (v : V) (n : Int) (es : List Ent), vs = [v] ∧ SumV C H v n es ∧ es.length ≤ 12 ∧ ∀ H' p, Same H H' → H p = none → H' p = some (.lst ((List.range es.length).map fun j => V.int (thi n es j))) → Q (.ref p) H'
theorem rev_his (n : Int) (es : List Ent) : ((List.range es.length).map fun j => V.int (hiS n es (j + 1))).reverse = (List.range es.length).map fun j => V.int (thi n es j) := by
  apply List.ext_getElem
  · simp
  · intro i h1 h2
    simp at h1 h2 ⊢
    unfold thi
    congr 1
    omega
theorem sc__greatest_ranks : FnScope ["summary", "ranks", "rank", "entry"] ["summary"] (defScope s__greatest_ranks) := ⟨rfl, rfl, rfl, by decide +kernel, rfl, by decide +kernel, by decide +kernel⟩
theorem ok__greatest_ranks {f : Addr} {fd : FuncData} (F : Fun K "_greatest_ranks" "_greatest_ranks" s__greatest_ranks f fd) (T : SumT K mg C) (DE : Pr P w K mg base C "entries" 1 (getSp C "_entries")) (DM : Pr P w K mg base C "many" 1 (getSp C "_many")) (mm : mg "min" = none) (mr : mg "reversed" = none) : FnOk P w K mg base CX0 3 f fd ["summary"] (spGreat C) := by
  refine F.ok sc__greatest_ranks (fun vs H Q E h => ?_) (fun cdv A outer s H vs Q E hr h => ?_)
  · obtain ⟨v, n, es, rfl, _⟩ := h
    rfl
  · obtain ⟨v, n, es, rfl, ⟨p, dx, u, rfl, hp, a, vs, rfl, ha, he⟩, h12, k⟩ := h
    have hr2 : Room 2 _ := hr.mono (by decide)
    have nd := sc__greatest_ranks.nd
    have hl : vs.length = es.length := he.len
    refine ⟨_, pss_cons (ps_set (i := 1) nd rfl (Or.inl rfl) (pe_lst pa_nil))
      (pss_cons (ps_set (i := 2) nd rfl (Or.inl rfl) (pe_op op_add (pe_pr DM T.ic.cl hr2 (pv 0)) pe_int))
      (pss_cons (ps_for PassesOwn.never rfl (RT.pi_revA (by rfl) mr (pe_pr DE T.ic.cl hr2 (pv 0))) (pg_name (i := 3) nd rfl (Or.inl rfl))
        (pss_cons (ps_set (i := 2) nd rfl (Or.inl rfl) (pe_callB (call_min2 rfl) (by rfl) mm (by decide +kernel) (pa_cons (pe_ix ix_tup (pv 3) pe_int (fun _ _ => rfl)) (pa_cons (pe_op op_sub (pv 2) pe_int) pa_nil))))
        (pss_one (ps_expr (pe_bm PySem.F.plainAttrs_list PySem.F.slot_list_append PySem.F.type_list_append mt_append (pv 1) (pa_cons (pv 2) pa_nil))))))
      (pss_one (ps_ret (pe_revL (pv 1)))))), ?_⟩
    refine ⟨Nat.zero_le _, fun q nq => ?_⟩
    have hp1 := Same_new (o := .lst []) nq _ _ hp
    refine ⟨_, rfl, p, dx, _, rfl, hp1, p, dx, _, _, rfl, hp1, sfl_many _ _, _, _, rfl, rfl, ?_⟩
    refine ⟨_, rfl, p, dx, _, rfl, hp1, p, dx, _, _, rfl, hp1, sfl_entries _ _, a, vs, rfl, .inr ⟨SqT.of (Same_new nq _ _ ha), RT.for_ItvT (K := K) (a := a) (xs := vs)
      (fun i σ H' => ∃ (y3 : Option V), σ = [some (.ref p), some (.ref q), some (.int (hiS n es i)), y3] ∧ Same H H' ∧ H' q = some (.lst ((List.range i).map fun j => V.int (hiS n es (j + 1)))))
      ⟨none, rfl, Same_new nq, upd_same⟩ (fun i σ H' ⟨_, _, s5, _⟩ => SqT.of (s5 _ _ ha)) ?_ ?_⟩⟩
    · rintro i x σ H' hi hx ⟨y3, rfl, s5, hq⟩
      obtain ⟨e, hei, t, rfl, ht⟩ := pr_at' he hx
      rw [hl] at hei
      refine ⟨_, rfl, t, _, 2, _, rfl, rfl, SqT.of (s5 _ _ ht), atI_nat (j := 2) rfl, _, rfl, _, _, rfl, rfl, _, _, rfl, ?_⟩
      have e1 : (if hiS n es i - 1 < e.2.2 then hiS n es i - 1 else e.2.2) = hiS n es (i + 1) := by rw [min_if, ← hi_of hei]; rfl
      rw [e1]
      refine ⟨_, rfl, .inl ⟨rfl, _, SqL.of hq⟩, _, rfl, q, _, _, rfl, rfl, hq, ?_, ?_⟩
      · rw [List.length_map, List.length_range]
        exact small1000 (by omega)
      · refine ⟨_, rfl, Same_mut s5 nq, ?_⟩
        rw [upd_same, List.range_succ, List.map_append]
        rfl
    · rintro σ H' ⟨y3, rfl, s5, hq⟩
      rw [hl] at hq
      refine ⟨_, rfl, q, _, rfl, SqL.of hq, fun r nr => ?_⟩
      rw [rev_his]
      exact k _ r (Same_new2 s5 nr) (s5.free nr) upd_same
end
end SR

set_option Elab.async false
set_option linter.all false
set_option maxRecDepth 100000
set_option maxHeartbeats 4000000
namespace SR
open PySem PySem.Spec PyProof.Rows L2
section
variable {P : Program} {w : World} {K : PySem.W.Frag} {mg : Str → Option Value} {base : Heap} {C : Addr}
def spCkSum (C : Addr) : Sp := fun vs H Q _ => ∃ (v : V) (n : Int) (es : List Ent), vs = [v] ∧ SumV C H v n es ∧ Q .non H
theorem sc_check_summary : FnScope ["summary"] ["summary"] (defScope s_check_summary) := ⟨rfl, rfl, rfl, by decide +kernel, rfl, by decide +kernel, by decide +kernel⟩
theorem ok_check_summary {f : Addr} {fd : FuncData} (F : Fun K "check_summary" "check_summary" s_check_summary f fd) (T : SumT K mg C) (mi : mg "isinstance" = none) : FnOk P w K mg base CX0 1 f fd ["summary"] (spCkSum C) := by
  refine F.ok sc_check_summary (fun vs H Q E h => ?_) (fun cdv A outer s H vs Q E hr h => ?_)
  · obtain ⟨v, n, es, rfl, _⟩ := h
    rfl
  · obtain ⟨v, n, es, rfl, ⟨p, dx, u, rfl, hp, _⟩, k⟩ := h
    refine ⟨_, pss_one (ps_if (pt_not (pt_val (pe_callB call_isi (by rfl) mi (by decide +kernel) (pa_cons (pv 0) (pa_cons (pe_glob (v := .ref C) rfl T.g rfl) pa_nil))))) (pss_one ps_never) pss_nil), ?_⟩
    exact ⟨_, rfl, _, _, _, _, true, rfl, .own C, T.ty hp, T.ic.me, true, rfl, iteF k⟩
end
end SR

set_option Elab.async false
set_option linter.all false
set_option maxRecDepth 100000
set_option maxHeartbeats 4000000
namespace SR
open PySem PySem.Spec PyProof.Rows L2
section
variable {P : Program} {w : World} {K : PySem.W.Frag} {mg : Str → Option Value} {base : Heap} {C : Addr}
def spTight (C : Addr) : Sp := fun vs H Q _ => ∃ (v : V) (n : Int) (es : List Ent), vs = [v] ∧ SumV C H v n es ∧ Valid n es ∧
  (¬ Fits n es → ∀ H', Same H H' → Q .non H') ∧ (Fits n es → ∀ H' p, Same H H' → SumV C H' (.ref p) n (tightL n es) → Q (.ref p) H')
theorem sc_tightened : FnScope ["summary", "lows", "highs", "entries", "entry", "low", "high"] ["summary"] (defScope s_tightened) := ⟨rfl, rfl, rfl, by decide +kernel, rfl, by decide +kernel, by decide +kernel⟩
theorem ok_tightened {f : Addr} {fd : FuncData} (F : Fun K "tightened" "tightened" s_tightened f fd) (T : SumT K mg C) (DE : Pr P w K mg base C "entries" 1 (getSp C "_entries")) (DM : Pr P w K mg base C "many" 1 (getSp C "_many"))
    (DCk : Dn P w K mg base "check_summary" ["summary"] 1 (spCkSum C)) (DL : Dn P w K mg base "_least_ranks" ["summary"] 3 (spLeast C)) (DG : Dn P w K mg base "_greatest_ranks" ["summary"] 3 (spGreat C)) (DS : DnMk P w K mg base C)
    (mz : mg "zip" = none) (mt : mg "tuple" = none) : FnOk P w K mg base CX0 8 f fd ["summary"] (spTight C) := by
  refine F.ok sc_tightened (fun vs H Q E h => ?_) (fun cdv A outer s H vs Q E hr h => ?_)
  · obtain ⟨v, n, es, rfl, _⟩ := h
    rfl
  · obtain ⟨v, n, es, rfl, ⟨p, dx, u, rfl, hp, a, vs, rfl, ha, he⟩, hv, kN, kS⟩ := h
    have hr1 : Room 1 _ := hr.mono (by decide)
    have hr2 : Room 2 _ := hr.mono (by decide)
    have hr3 : Room 3 _ := hr.mono (by decide)
    have hr6 : Room 7 _ := hr.mono (by decide)
    have nd := sc_tightened.nd
    have hl : vs.length = es.length := he.len
    have h12 := hv.len
    refine ⟨_, pss_cons (ps_expr (pe_dn DCk hr1 (pa_cons (pv 0) pa_nil)))
      (pss_cons (ps_set (i := 1) nd rfl (Or.inl rfl) (pe_dn DL hr3 (pa_cons (pv 0) pa_nil)))
      (pss_cons (ps_set (i := 2) nd rfl (Or.inl rfl) (pe_dn DG hr3 (pa_cons (pv 0) pa_nil)))
      (pss_cons (ps_set (i := 3) nd rfl (Or.inl rfl) (pe_lst pa_nil))
      (pss_cons (ps_for PassesOwn.never rfl (pi_zip3 (by rfl) mz (pa_cons (pe_pr DE T.ic.cl hr2 (pv 0)) (pa_cons (pv 1) (pa_cons (pv 2) pa_nil)))) (pg_tup rfl (pgs_cons (pg_name (i := 4) nd rfl (Or.inl rfl)) (pgs_cons (pg_name (i := 5) nd rfl (Or.inl rfl)) (pgs_cons (pg_name (i := 6) nd rfl (Or.inl rfl)) pgs_nil))))
        (pss_cons (ps_if (pt_cmpR op_gt (pv 5) (pv 6) (nomark _)) (pss_one (ps_ret pe_non)) pss_nil)
        (pss_one (ps_expr (pe_bm PySem.F.plainAttrs_list PySem.F.slot_list_append PySem.F.type_list_append mt_append (pv 3) (pa_cons (pe_tup (pa_cons (pe_ix ix_tup (pv 4) pe_int (fun _ _ => rfl)) (pa_cons (pv 5) (pa_cons (pv 6) pa_nil)))) pa_nil))))))
      (pss_one (ps_ret (pe_mkS DS T hr6 (pa_cons (pe_pr DM T.ic.cl hr2 (pv 0)) (pa_cons (pe_callTy call_tuple_of (by rfl) mt (by decide +kernel) (pa_cons (pv 3) pa_nil)) pa_nil))))))))), ?_⟩
    have hS : SumV C H (.ref p) n es := ⟨p, dx, _, rfl, hp, a, vs, rfl, ha, he⟩
    refine ⟨_, rfl, _, n, es, rfl, hS, ?_⟩
    refine ⟨_, rfl, _, n, es, rfl, hS, h12, fun H1 l1 s1 n1 hl1 => ?_⟩
    refine ⟨_, rfl, _, n, es, rfl, hS.mono s1, h12, fun H2 l2 s2 n2 hl2 => ?_⟩
    have hl1' := s2 _ _ hl1
    refine ⟨Nat.zero_le _, fun q nq => ?_⟩
    have s3 : Same H H2 := s1.trans s2
    have s4 : Same H2 (upd H2 q (.lst [])) := Same_new nq
    have hnq : H q = none := s3.free nq
    have q1 : l1 ≠ q := ne_of_none hl1' nq
    have q2 : l2 ≠ q := ne_of_none hl2 nq
    refine ⟨_, rfl, p, dx, _, rfl, s4 _ _ (s3 _ _ hp), p, dx, _, _, rfl, s4 _ _ (s3 _ _ hp), sfl_entries _ _, _, rfl, _, rfl, a, l1, l2, vs, _, _, rfl, SqT.of (s4 _ _ (s3 _ _ ha)), SqL.of (s4 _ _ hl1'), SqL.of (s4 _ _ hl2), ?_⟩
    have ln1 : vs.length = ((List.range es.length).map fun j => V.int (tlo es j)).length := by rw [List.length_map, List.length_range]; exact hl
    have ln2 : vs.length = ((List.range es.length).map fun j => V.int (thi n es j)).length := by rw [List.length_map, List.length_range]; exact hl
    refine for_zip3 (K := K) (a := a) (b := l1) (c := l2) (xs := vs) (ys := (List.range es.length).map fun j => V.int (tlo es j)) (zs := (List.range es.length).map fun j => V.int (thi n es j)) ln1 ln2
      (fun i σ H' => ∃ (y4 y5 y6 : Option V) (us : List V), σ = [some (.ref p), some (.ref l1), some (.ref l2), some (.ref q), y4, y5, y6] ∧ Same H H' ∧ H' l1 = some (.lst ((List.range es.length).map fun j => V.int (tlo es j))) ∧ H' l2 = some (.lst ((List.range es.length).map fun j => V.int (thi n es j))) ∧
        H' q = some (.lst us) ∧ EntsV H' us ((tightL n es).take i) ∧ ∀ j, j < i → tlo es j ≤ thi n es j)
      ⟨none, none, none, [], rfl, s3.trans s4, s4 _ _ hl1', s4 _ _ hl2, upd_same, .nil, fun j hj => absurd hj (Nat.not_lt_zero j)⟩ (fun i σ H' ⟨_, _, _, _, _, s5, e1, e2, _⟩ => ⟨SqT.of (s5 _ _ ha), SqL.of e1, SqL.of e2⟩) ?_ ?_
    · rintro i x y z T' σ H' hx hy hz ⟨y4, y5, y6, us, rfl, s5, e1, e2, hq, hus, hle⟩ hT
      obtain ⟨e, hei, t, rfl, ht⟩ := pr_at' he hx
      have hil : i < es.length := (List.getElem?_eq_some_iff.mp hei).1
      have ey : y = .int (tlo es i) := by
        rw [List.getElem?_map, List.getElem?_range hil] at hy
        exact (Option.some.inj hy).symm
      have ez : z = .int (thi n es i) := by
        rw [List.getElem?_map, List.getElem?_range hil] at hz
        exact (Option.some.inj hz).symm
      subst ey ez
      have s6 : Same H' (upd H' T' (.tup [.ref t, .int (tlo es i), .int (thi n es i)])) := Same_new hT
      refine ⟨T', _, rfl, SqT.of upd_same, rfl, _, _, rfl, _, _, rfl, _, _, rfl, rfl, ?_⟩
      refine ⟨_, rfl, _, rfl, _, _, rfl, rfl, _, rfl, ite2 (fun c => ?_) (fun c => ?_)⟩
      · refine kN (fun f => ?_) _ (s5.trans s6)
        have := of_decide_eq_true c
        have := f i hil
        omega
      · have c1 : tlo es i ≤ thi n es i := by
          have : ¬ thi n es i < tlo es i := fun z => c (decide_eq_true z)
          omega
        refine ⟨_, rfl, .inl ⟨rfl, _, SqL.of (s6 _ _ hq)⟩, ?_⟩
        refine ⟨_, rfl, t, _, 0, _, rfl, rfl, SqT.of (s6 _ _ (s5 _ _ ht)), atI_nat (j := 0) rfl, _, rfl, _, rfl, (by show 3 ≤ sizeLine; decide), fun r nr => ?_⟩
        have s7 := Same_new2 (o := .tup [.int e.1, .int (tlo es i), .int (thi n es i)]) s6 nr
        refine ⟨q, _, _, rfl, rfl, s7 _ _ hq, ?_, ?_⟩
        · rw [hus.len]
          have : ((tightL n es).take i).length ≤ 12 := by rw [List.length_take, tight_len]; omega
          exact small1000 (by omega)
        · have sq : ∀ (b : Addr) (o : HO), H' b = some o → b ≠ q → upd (upd (upd H' T' (.tup [.ref t, .int (tlo es i), .int (thi n es i)])) r (.tup [.int e.1, .int (tlo es i), .int (thi n es i)])) q (.lst (us ++ [.ref r])) b = some o := fun b o hb hne => by
            rw [upd_ne hne]
            exact s7 _ _ hb
          have hrq : r ≠ q := fun z => by subst z; rw [s6 _ _ hq] at nr; cases nr
          refine ⟨_, _, _, us ++ [.ref r], rfl, fun b o hb => sq _ _ (s5 _ _ hb) (ne_of_none hb hnq), sq _ _ e1 q1, sq _ _ e2 q2, upd_same, ?_, fun j hj => ?_⟩
          · rw [List.take_add_one, tight_at hil]
            refine pr_app (Paired.mapP hus fun v e' ⟨t', ev, et⟩ => ⟨t', ev, sq _ _ et (ne_of et hq (by intro z; cases z))⟩) (.cons ⟨r, rfl, ?_⟩ .nil)
            rw [upd_ne hrq, upd_same, vl_of hei]
          · by_cases hji : j < i
            · exact hle j hji
            · have ej : j = i := by omega
              rw [ej]; exact c1
    · rintro σ H' ⟨y4, y5, y6, us, rfl, s5, e1, e2, hq, hus, hle⟩
      rw [hl] at hus hle
      have fits : Fits n es := fun j hj => hle j hj
      rw [List.take_of_length_le (by rw [tight_len]; exact Nat.le_refl _)] at hus
      refine ⟨_, rfl, p, dx, _, rfl, s5 _ _ hp, p, dx, _, _, rfl, s5 _ _ hp, sfl_many _ _, _, rfl, q, _, rfl, .inl ⟨SqL.of hq, fun r nr => ?_⟩⟩
      have s8 := Same_new (o := .tup us) nr
      exact sum_made ⟨r, us, rfl, upd_same, hus.mono s8⟩ (hv.tight fits) fun x H9 _ s9 hs9 => kS fits H9 x ((s5.trans s8).trans s9) hs9
end
end SR

set_option Elab.async false
set_option linter.all false
set_option maxRecDepth 100000
set_option maxHeartbeats 4000000
namespace SR
open PySem PySem.Spec PyProof.Rows L2
section
variable {P : Program} {w : World} {K : PySem.W.Frag} {mg : Str → Option Value} {base : Heap} {C : Addr}
def spMix (K : PySem.W.Frag) : Sp := fun vs H Q _ => ∃ (a : Addr) (ns : List Int) (seed : Int), vs = [.ref a, .int seed] ∧ SqL K H a (ns.map V.int) ∧ ns.length ≤ 63 ∧ 0 ≤ seed ∧ seed < 2147483647 ∧
  ∀ H' p c, Same H H' → H p = none → H c = none → DrawAt H' p c → Q (.ref p) H'
theorem sc__law_mix : FnScope ["_law_script", "_law_seed", "_law_state", "_law_cell"] ["_law_script", "_law_seed"] (defScope s__law_mix) := ⟨rfl, rfl, rfl, by decide +kernel, rfl, by decide +kernel, by decide +kernel⟩
theorem ok__law_mix {f : Addr} {fd : FuncData} (F : Fun K "_law_mix" "_law_mix" s__law_mix f fd) (mint : mg "int" = none) (mlist : mg "list" = none) : FnOk P w K mg base CX0 1 f fd ["_law_script", "_law_seed"] (spMix K) := by
  refine F.ok sc__law_mix (fun vs H Q E h => ?_) (fun cdv A outer s H vs Q E hr h => ?_)
  · obtain ⟨a, ns, seed, rfl, _⟩ := h
    rfl
  · obtain ⟨a, ns, seed, rfl, hS, h63, h0, h1, k⟩ := h
    have nd := sc__law_mix.nd
    refine ⟨_, pss_cons (ps_set (i := 2) nd rfl (Or.inl rfl) (pv 1))
      (pss_cons (ps_for PassesOwn.never rfl (pi_list (pv 0)) (pg_name (i := 3) nd rfl (Or.inl rfl))
        (pss_one (ps_set (i := 2) nd rfl (Or.inl rfl) (pe_op op_mod (pe_callTy call_int1 (by rfl) mint (by decide +kernel) (pa_cons (pe_op op_add (pe_op op_add (pe_op op_mul (pv 2) pe_int)
          (pe_op op_mod (pe_callTy call_int1 (by rfl) mint (by decide +kernel) (pa_cons (pv 3) pa_nil)) pe_int)) pe_int) pa_nil)) pe_int))))
      (pss_one (ps_ret (pe_lst (pa_cons (pv 2) (pa_cons (pe_callTy call_list_of (by rfl) mlist (by decide +kernel) (pa_cons (pv 0) pa_nil)) (pa_cons pe_int pa_nil))))))), ?_⟩
    refine ⟨_, rfl, _, rfl, a, rfl, ⟨_, hS⟩, for_list (K := K) (a := a) (xs := ns.map V.int) (fun i σ H' => ∃ (s : Int) (y : Option V), σ = [some (.ref a), some (.int seed), some (.int s), y] ∧ H' = H ∧ 0 ≤ s ∧ s < 2147483647)
      ⟨seed, none, rfl, rfl, h0, h1⟩ (fun i σ H' _ ⟨_, _, _, e, _⟩ => by rw [e]; exact hS) ?_ ?_⟩
    · rintro i x σ H' hi ⟨s, y, rfl, rfl, hs0, hs1⟩
      obtain ⟨z, rfl⟩ : ∃ z, x = V.int z := by
        rw [List.getElem?_map] at hi
        cases e : ns[i]? with
        | none => rw [e] at hi; cases hi
        | some z => rw [e] at hi; exact ⟨z, (Option.some.inj hi).symm⟩
      refine ⟨_, rfl, _, _, rfl, rfl, .inl ⟨by omega, by omega⟩, _, rfl, .inl ⟨_, rfl, _, _, rfl, rfl, (by show (0 : Int) < 2147483629; decide), _, _, rfl, rfl, _, _, rfl, rfl, .inl ⟨_, rfl, _, _, rfl, rfl, (by show (0 : Int) < 2147483647; decide), ?_⟩⟩⟩
      exact ⟨_, _, rfl, rfl, Int.emod_nonneg _ (by decide), Int.emod_lt_of_pos _ (by decide)⟩
    · rintro σ H' ⟨s, y, rfl, rfl, hs0, hs1⟩
      refine ⟨_, rfl, _, rfl, a, _, rfl, .inl hS, fun l nl => ⟨(by show 3 ≤ sizeLine; decide), fun p np => ?_⟩⟩
      have hpl : l ≠ p := fun z => by subst z; rw [upd_same] at np; cases np
      refine k _ p l ((Same_new nl).trans (Same_new np)) ((Same_new nl).free np) nl ⟨s, 0, ns, upd_same, ?_, hs0, hs1, Int.le_refl 0, h63⟩
      rw [upd_ne hpl, upd_same]
/-- a draw: any number from 0 up to below the bound -/
def spNext : Sp := fun vs H Q _ => ∃ (p c : Addr) (b : Int), vs = [.ref p, .int b] ∧ DrawAt H p c ∧ 0 < b ∧ b.natAbs < 2 ^ 200 ∧
  ∀ H' r, 0 ≤ r → r < b → DrawAt H' p c → SameD p c H H' → Q (.int r) H'
theorem sc__law_next : FnScope ["_law_h", "_law_bound", "_law_cell", "_law_cells"] ["_law_h", "_law_bound"] (defScope s__law_next) := ⟨rfl, rfl, rfl, by decide +kernel, rfl, by decide +kernel, by decide +kernel⟩
theorem ok__law_next {f : Addr} {fd : FuncData} (F : Fun K "_law_next" "_law_next" s__law_next f fd) (mint : mg "int" = none) (mmax : mg "max" = none) (mlen : mg "len" = none) : FnOk P w K mg base CX0 1 f fd ["_law_h", "_law_bound"] spNext := by
  refine F.ok sc__law_next (fun vs H Q E h => ?_) (fun cdv A outer s H vs Q E hr h => ?_)
  · obtain ⟨p, c, b, rfl, _⟩ := h
    rfl
  · obtain ⟨p, c, b, rfl, hD, hb, hb2, k⟩ := h
    have hne := hD.ne
    obtain ⟨s, i, cs, hp, hc, hs0, hs1, hi0, h63⟩ := id hD
    have nd := sc__law_next.nd
    refine ⟨_, pss_cons (ps_set (i := 2) nd rfl (Or.inl rfl) (pe_ix ix_list (pe_op op_cat (pe_ix ix_list (pv 0) pe_int (fun _ _ => rfl)) (pe_lst (pa_cons pe_int pa_nil)))
        (pe_op op_mod (pe_callTy call_int1 (by rfl) mint (by decide +kernel) (pa_cons (pe_ix ix_list (pv 0) pe_int (fun _ _ => rfl)) pa_nil)) (pe_callB (call_max2 rfl) (by rfl) mmax (by decide +kernel) (pa_cons pe_int (pa_cons (pe_callB call_len_seq (by rfl) mlen PySem.boot_len (pa_cons (pe_ix ix_list (pv 0) pe_int (fun _ _ => rfl)) pa_nil)) pa_nil)))) (fun _ _ => rfl)))
      (pss_cons (ps_if (pt_cmpR op_ge (pv 2) (pe_op op_pow pe_int pe_int) (nomark _))
        (pss_cons (ps_set (i := 3) nd rfl (Or.inl rfl) (pe_ix ix_list (pv 0) pe_int (fun _ _ => rfl)))
        (pss_cons (ps_asg (pe_op op_fdivW (pv 2) (pv 1)) (pg_sub (pv 3) (pe_op op_mod (pe_callTy call_int1 (by rfl) mint (by decide +kernel) (pa_cons (pe_ix ix_list (pv 0) pe_int (fun _ _ => rfl)) pa_nil)) (pe_callB call_len_seq (by rfl) mlen PySem.boot_len (pa_cons (pv 3) pa_nil))) set_list))
        (pss_one (ps_ret (pe_op op_mod (pe_callTy call_int1 (by rfl) mint (by decide +kernel) (pa_cons (pv 2) pa_nil)) (pv 1)))))) pss_nil)
      (pss_cons (ps_asg (pe_op op_mod (pe_callTy call_int1 (by rfl) mint (by decide +kernel) (pa_cons (pe_op op_add (pe_op op_add (pe_op op_mul (pe_ix ix_list (pv 0) pe_int (fun _ _ => rfl)) pe_int) (pe_op op_mul (pv 2) pe_int)) pe_int) pa_nil)) pe_int) (pg_sub (pv 0) pe_int set_list))
      (pss_cons (ps_asg (pe_op op_add (pe_ix ix_list (pv 0) pe_int (fun _ _ => rfl)) pe_int) (pg_sub (pv 0) pe_int set_list))
      (pss_one (ps_ret (pe_op op_mod (pe_callTy call_int1 (by rfl) mint (by decide +kernel) (pa_cons (pe_op op_fdiv (pe_ix ix_list (pv 0) pe_int (fun _ _ => rfl)) pe_int) pa_nil)) (pv 1))))))), ?_⟩
    -- the cell
    refine ⟨_, rfl, p, _, 1, _, rfl, rfl, SqL.of hp, atI_nat (j := 1) rfl, (by show 1 ≤ sizeLine; decide), fun z nz => ?_⟩
    have s1 : Same H (upd H z (.lst [.int 0])) := Same_new nz
    refine ⟨c, z, _, _, rfl, rfl, s1 _ _ hc, upd_same, ?_, fun y ny => ?_⟩
    · show (cs.map V.int).length + 1 ≤ sizeLine
      rw [List.length_map]
      exact Nat.le_of_lt (small1000 (by omega))
    have s2 := Same_new2 (o := .lst (cs.map V.int ++ [.int 0])) s1 ny
    refine ⟨_, rfl, p, _, 2, _, rfl, rfl, SqL.of (s2 _ _ hp), atI_nat (j := 2) rfl, .inl ⟨_, rfl, ?_⟩⟩
    refine ⟨_, rfl, p, _, 1, _, rfl, rfl, SqL.of (s2 _ _ hp), atI_nat (j := 1) rfl, c, _, rfl, .inl (SqL.of (s2 _ _ hc)), _, _, rfl, _, _, rfl, rfl, ?_, ?_⟩
    · show (0 : Int) < if ((cs.map V.int).length : Int) > 1 then ((cs.map V.int).length : Int) else 1
      split <;> omega
    have ek : ∃ j : Nat, (i % (if ((cs.map V.int).length : Int) > 1 then ((cs.map V.int).length : Int) else 1)) = (j : Int) ∧ j < cs.length + 1 ∧ (cs ≠ [] → (j : Int) = i % (cs.length : Int) ∧ j < cs.length) := by
      rw [List.length_map]
      cases cs with
      | nil =>
        refine ⟨0, ?_, by simp, fun z => absurd rfl z⟩
        show i % 1 = 0
        exact Int.emod_one i
      | cons x r =>
        have hl : (if (((x :: r).length : Nat) : Int) > 1 then (((x :: r).length : Nat) : Int) else 1) = (((x :: r).length : Nat) : Int) := by
          rw [List.length_cons]
          split <;> omega
        rw [hl]
        have a1 : 0 ≤ i % (((x :: r).length : Nat) : Int) := Int.emod_nonneg _ (by rw [List.length_cons]; omega)
        have a2 : i % (((x :: r).length : Nat) : Int) < (((x :: r).length : Nat) : Int) := Int.emod_lt_of_pos _ (by rw [List.length_cons]; omega)
        exact ⟨(i % (((x :: r).length : Nat) : Int)).toNat, by omega, by omega, fun _ => ⟨by omega, by omega⟩⟩
    obtain ⟨j, ej, hj, hjc⟩ := ek
    obtain ⟨cell, hcell, hin⟩ : ∃ cell : Int, (cs.map V.int ++ [V.int 0])[j]? = some (.int cell) ∧ (cell ≠ 0 → cs ≠ []) := by
      have e1 : (cs.map V.int ++ [V.int 0]) = (cs ++ [0]).map V.int := by rw [List.map_append]; rfl
      have hlt : j < (cs ++ [(0 : Int)]).length := by rw [List.length_append]; exact hj
      refine ⟨(cs ++ [(0 : Int)])[j], ?_, fun h z => h ?_⟩
      · rw [e1, List.getElem?_map, List.getElem?_eq_getElem hlt]; rfl
      · subst z
        have : j = 0 := by simp at hj; exact hj
        subst this
        rfl
    refine ⟨y, _, _, .int cell, rfl, rfl, SqL.of upd_same, at_of ej hcell, ?_⟩
    refine ⟨_, rfl, _, _, rfl, rfl, ⟨by decide, by decide, by decide⟩, _, _, rfl, rfl, _, rfl, ite2 (fun hc18 => ?_) (fun hc18 => ?_)⟩
    · have big : (10 : Int) ^ (18 : Int).toNat ≤ cell := of_decide_eq_true hc18
      have big1 : (10 : Int) ^ (18 : Int).toNat = 1000000000000000000 := by decide
      have hne0 : cs ≠ [] := hin (by omega)
      obtain ⟨hj1, hj2⟩ := hjc hne0
      refine ⟨_, rfl, p, _, 1, _, rfl, rfl, SqL.of (s2 _ _ hp), atI_nat (j := 1) rfl, ?_⟩
      refine ⟨_, rfl, _, rfl, _, _, rfl, rfl, wide_div hb hb2 (by decide) (by decide), ?_⟩
      refine ⟨_, rfl, _, rfl, p, _, 2, _, rfl, rfl, SqL.of (s2 _ _ hp), atI_nat (j := 2) rfl, .inl ⟨_, rfl, ?_⟩⟩
      refine ⟨_, rfl, c, _, rfl, .inl (SqL.of (s2 _ _ hc)), _, _, rfl, rfl, ?_, ?_⟩
      · show (0 : Int) < ((cs.map V.int).length : Int)
        rw [List.length_map]
        omega
      refine ⟨c, _, _, j, rfl, rfl, s2 _ _ hc, ?_, ?_⟩
      · rw [List.length_map, ← hj1]
        unfold ixN
        rw [if_pos (by omega), if_pos (by omega)]
        simp
      refine ⟨_, rfl, .inl ⟨_, rfl, _, rfl, _, _, rfl, rfl, hb, ?_⟩⟩
      refine k _ _ (Int.emod_nonneg _ (by omega)) (Int.emod_lt_of_pos _ hb) ⟨s, i, cs.set j (cell / b), ?_, ?_, hs0, hs1, hi0, ?_⟩ fun a o ha hap hac => ?_
      · rw [upd_ne hne]; exact s2 _ _ hp
      · rw [upd_same, List.map_set]
      · rw [List.length_set]; exact h63
      · rw [upd_ne hac]; exact s2 _ _ ha
    · refine ⟨_, rfl, p, _, 0, _, rfl, rfl, SqL.of (s2 _ _ hp), atI_nat (j := 0) rfl, _, _, rfl, rfl, .inl ⟨by omega, by omega⟩, ?_⟩
      refine ⟨_, rfl, _, _, rfl, rfl, .inr ⟨by decide, by decide⟩, _, _, rfl, rfl, _, _, rfl, rfl, .inl ⟨_, rfl, _, _, rfl, rfl, (by show (0 : Int) < 2147483647; decide), ?_⟩⟩
      refine ⟨_, rfl, p, _, 0, 0, rfl, rfl, s2 _ _ hp, rfl, ?_⟩
      refine ⟨_, rfl, p, _, 2, _, rfl, rfl, SqL.of upd_same, atI_nat (j := 2) rfl, _, _, rfl, rfl, ?_⟩
      refine ⟨_, rfl, p, _, 2, 2, rfl, rfl, upd_same, rfl, ?_⟩
      refine ⟨_, rfl, p, _, 0, _, rfl, rfl, SqL.of upd_same, atI_nat (j := 0) rfl, _, _, rfl, rfl, ⟨by decide, by decide⟩, .inl ⟨_, rfl, _, rfl, _, _, rfl, rfl, hb, ?_⟩⟩
      refine k _ _ (Int.emod_nonneg _ (by omega)) (Int.emod_lt_of_pos _ hb) ⟨_, i + 1, cs, upd_same, ?_, Int.emod_nonneg _ (by decide), Int.emod_lt_of_pos _ (by decide), by omega, h63⟩ fun a o ha hap hac => ?_
      · rw [upd_ne hne.symm, upd_ne hne.symm]; exact s2 _ _ hc
      · rw [upd_ne hap, upd_ne hap]; exact s2 _ _ ha
end
end SR

set_option Elab.async false
set_option linter.all false
set_option maxRecDepth 100000
set_option maxHeartbeats 4000000
namespace SR
open PySem PySem.Spec PyProof.Rows L2
section
variable {P : Program} {w : World} {K : PySem.W.Frag} {mg : Str → Option Value} {base : Heap} {C N M fI : Addr}
def spSure (C N : Addr) : Sp := fun vs H Q E => ∃ (v : V) (n : Int) (es : List Ent), vs = [v] ∧ SumV C H v n es ∧ Valid n es ∧
  (¬ Fits n es → ∀ H', Same H H' → E (.ref N) none H') ∧ (Fits n es → ∀ H' p, Same H H' → SumV C H' (.ref p) n (tightL n es) → Q (.ref p) H')
theorem sc_surely_tightened : FnScope ["summary", "tight"] ["summary"] (defScope s_surely_tightened) := ⟨rfl, rfl, rfl, by decide +kernel, rfl, by decide +kernel, by decide +kernel⟩
theorem ok_surely_tightened {f : Addr} {fd : FuncData} (F : Fun K "surely_tightened" "surely_tightened" s_surely_tightened f fd) (DT : Dn P w K mg base "tightened" ["summary"] 8 (spTight C)) (TN : NzTxt K mg "NoRow" N fI) :
    FnOk P w K mg base (L2N.CX P w) 9 f fd ["summary"] (spSure C N) := by
  refine F.okXN sc_surely_tightened (fun vs H Q E h => ?_) (fun cdv A outer s H vs Q E hr h => ?_)
  · obtain ⟨v, n, es, rfl, _⟩ := h
    rfl
  · obtain ⟨v, n, es, rfl, hS, hv, kN, kS⟩ := h
    have nd := sc_surely_tightened.nd
    have hr7 : Room 8 _ := hr.mono (by decide)
    refine ⟨_, pss_cons (ps_set (i := 1) nd rfl (Or.inl rfl) (pe_dn DT hr7 (pa_cons (pv 0) pa_nil)))
      (pss_cons (ps_if (pt_cmp (pc_isN (pv 1))) (pss_one (L2N.ps_raise (W := fun cls d _ H => E cls d H) rfl (L2N.takes_of rfl rfl rfl rfl) (pmk_nz TN hr7 (by decide) rfl))) pss_nil)
      (pss_one (ps_ret (pv 1)))), ?_⟩
    refine ⟨_, rfl, v, n, es, rfl, hS, hv, fun hf H1 s1 => ?_, fun hf H1 p s1 h1 => ?_⟩
    · refine ⟨_, rfl, _, rfl, iteT ?_⟩
      exact kN hf H1 s1
    · refine ⟨_, rfl, _, rfl, ?_⟩
      rw [decide_eq_false (show ¬ V.ref p = V.non from fun z => nomatch z)]
      exact iteF ⟨_, rfl, kS hf H1 p s1 h1⟩
def DLen (P : Program) (w : World) (K : PySem.W.Frag) (mg : Str → Option Value) (base : Heap) (C : Addr) : Prop := ∃ f fd, FnOk P w K mg base CX0 1 f fd ["self"] (spSumLen C) ∧ PySem.W.findIn K (.ref C) "__len__" = some (some (.ref f)) ∧ PySem.W.isFn K (.ref f) = true ∧ Binds K fd ["self"] []
end
end SR

set_option Elab.async false
set_option linter.all false
set_option maxRecDepth 100000
set_option maxHeartbeats 4000000
/-! Rows made: surely_short, filled, row_for. -/
namespace SR
open PySem PySem.Spec PyProof.Rows L2
section
variable {P : Program} {w : World} {K : PySem.W.Frag} {mg : Str → Option Value} {base : Heap} {C N fI : Addr}
def spShort (C N : Addr) : Sp := fun vs H Q E => ∃ (v : V) (n : Int) (es : List Ent), vs = [v] ∧ SumV C H v n es ∧ Valid n es ∧ n ≤ 40 ∧
  (¬ Fits n es → ∀ H', Same H H' → E (.ref N) none H') ∧ (Fits n es → ∀ H' p, Same H H' → SumV C H' (.ref p) n (tightL n es) → Q (.ref p) H')
def spCkShort (C N : Addr) : Sp := fun vs H Q E => ∃ (v : V) (n : Int) (es : List Ent), vs = [v] ∧ SumV C H v n es ∧ (40 < n → E (.ref N) none H) ∧ (n ≤ 40 → Q .non H)
theorem sc_check_short : FnScope ["summary"] ["summary"] (defScope s_check_short) := ⟨rfl, rfl, rfl, by decide +kernel, rfl, by decide +kernel, by decide +kernel⟩
theorem ok_check_short {N fI f : Addr} {fd : FuncData} (F : Fun K "check_short" "check_short" s_check_short f fd) (T : SumT K mg C) (DM : Pr P w K mg base C "many" 1 (getSp C "_many"))
    {tk : Tok} (gN : mg "MOST_NUMBERS" = some (.int 40 tk)) (TN : NzTxt K mg "TooLong" N fI) : FnOk P w K mg base (L2N.CX P w) 3 f fd ["summary"] (spCkShort C N) := by
  refine F.okXN sc_check_short (fun vs H Q E h => ?_) (fun cdv A outer s H vs Q E hr h => ?_)
  · obtain ⟨v, n, es, rfl, _⟩ := h
    rfl
  · obtain ⟨v, n, es, rfl, hS, kN, kS⟩ := h
    have hr2 : Room 2 _ := hr.mono (by decide)
    refine ⟨_, pss_one (ps_if (pt_cmpR op_gt (pe_pr DM T.ic.cl hr2 (pv 0)) (pe_gi gN) (nomark _)) (pss_one (L2N.ps_raise (W := fun cls d _ H => E cls d H) rfl (L2N.takes_of rfl rfl rfl rfl) (pmk_nz TN hr2 (by decide) rfl))) pss_nil), ?_⟩
    obtain ⟨p, dx, u, rfl, hp, hu⟩ := id hS
    refine ⟨_, rfl, p, dx, _, rfl, hp, p, dx, _, _, rfl, hp, sfl_many _ _, _, _, rfl, rfl, _, rfl, ?_⟩
    refine ite2 (fun c => ?_) (fun c => ?_)
    · exact kN (of_decide_eq_true c)
    · exact kS (by have : ¬ (40 : Int) < n := fun z => c (decide_eq_true z); omega)
end
end SR

set_option Elab.async false
set_option linter.all false
set_option maxRecDepth 100000
set_option maxHeartbeats 4000000
/-! Rows made: surely_short, filled, row_for. -/
namespace SR
open PySem PySem.Spec PyProof.Rows L2
section
variable {P : Program} {w : World} {K : PySem.W.Frag} {mg : Str → Option Value} {base : Heap} {C N fI : Addr}
def spFilled : Sp := fun vs H Q _ => ∃ (n f : Int) (d : Addr) (kvs : List (Key × V)) (g : Int → Option Int), vs = [.int n, .ref d, .int f] ∧ 0 ≤ n ∧ n ≤ 40 ∧ H d = some (.dK kvs) ∧ (∀ k : Int, valV kvs (Sum.inl k) = (g k).map V.int) ∧
  ∀ H' p, Same H H' → H p = none → H' p = some (.tup ((fillRow g f n.toNat).map V.int)) → Q (.ref p) H'
theorem sc_filled : FnScope ["many", "numbers", "first", "row", "number", "rank"] ["many", "numbers", "first"] (defScope s_filled) := ⟨rfl, rfl, rfl, by decide +kernel, rfl, by decide +kernel, by decide +kernel⟩
theorem ok_filled {f : Addr} {fd : FuncData} (F : Fun K "filled" "filled" s_filled f fd) (mra : mg "range" = none) (mt : mg "tuple" = none) : FnOk P w K mg base CX0 1 f fd ["many", "numbers", "first"] spFilled := by
  refine F.ok sc_filled (fun vs H Q E h => ?_) (fun cdv A outer s H vs Q E hr h => ?_)
  · obtain ⟨n, f0, d, kvs, g, rfl, _⟩ := h
    rfl
  · obtain ⟨n, f0, d, kvs, g, rfl, n0, n40, hd, hg, k⟩ := h
    have nd := sc_filled.nd
    have hu := hu_of hr
    refine ⟨_, pss_cons (ps_set (i := 3) nd rfl (Or.inl rfl) (pe_lst pa_nil))
      (pss_cons (ps_set (i := 4) nd rfl (Or.inl rfl) (pv 2))
      (pss_cons (ps_for PassesOwn.never rfl (pi_range2 (by rfl) mra (pa_cons pe_int (pa_cons (pe_op op_add (pv 0) pe_int) pa_nil))) (pg_name (i := 5) nd rfl (Or.inl rfl))
        (pss_cons (ps_set (i := 4) nd rfl (Or.inl rfl) (pe_dget2 hu (pv 1) (pv 5) (pv 4) ⟨rfl, rfl, rfl, rfl⟩))
        (pss_one (ps_expr (pe_bm PySem.F.plainAttrs_list PySem.F.slot_list_append PySem.F.type_list_append mt_append (pv 3) (pa_cons (pv 4) pa_nil))))))
      (pss_one (ps_ret (pe_callTy call_tuple_of (by rfl) mt (by decide +kernel) (pa_cons (pv 3) pa_nil)))))), ?_⟩
    refine ⟨Nat.zero_le _, fun q nq => ?_⟩
    refine ⟨_, rfl, ?_⟩
    refine ⟨_, rfl, _, _, rfl, rfl, _, _, rfl, ⟨by omega, by omega, by omega, by omega⟩, ?_⟩
    refine for_range (lo := 1) (n := (n + 1 - 1).toNat) (fun i σ H' => ∃ (y5 : Option V), σ = [some (.int n), some (.ref d), some (.int f0), some (.ref q), some (.int (fillN g f0 i)), y5] ∧ Same H H' ∧ H' q = some (.lst ((fillRow g f0 i).map V.int)))
      ⟨none, rfl, Same_new nq, upd_same⟩ ?_ ?_
    · rintro i σ H' hi ⟨y5, rfl, s5, hq⟩
      have hd' := s5 _ _ hd
      refine ⟨_, rfl, d, rfl, .inl ⟨_, .inl hd'⟩, _, rfl, _, rfl, _, DGet.k (k := Sum.inl (1 + (i : Int))) hd', ?_⟩
      have e1 : (valV kvs (Sum.inl (1 + (i : Int)))).getD (.int (fillN g f0 i)) = .int (fillN g f0 (i + 1)) := by
        rw [hg]
        show ((g (1 + (i : Int))).map V.int).getD (.int (fillN g f0 i)) = .int ((g (1 + (i : Int))).getD (fillN g f0 i))
        cases g (1 + (i : Int)) <;> rfl
      rw [e1]
      refine ⟨_, rfl, .inl ⟨rfl, _, SqL.of hq⟩, _, rfl, q, _, _, rfl, rfl, hq, ?_, ?_⟩
      · rw [List.length_map, fillRow_len]
        exact small1000 (by omega)
      · refine ⟨_, rfl, Same_mut s5 nq, ?_⟩
        rw [upd_same, fillRow_succ, List.map_append]
        rfl
    · rintro σ H' ⟨y5, rfl, s5, hq⟩
      rw [show (n + 1 - 1).toNat = n.toNat by omega] at hq
      exact ⟨_, rfl, q, _, rfl, .inl ⟨SqL.of hq, fun r nr => k _ r (Same_new2 s5 nr) (s5.free nr) upd_same⟩⟩
end
end SR

set_option Elab.async false
set_option linter.all false
set_option maxRecDepth 100000
set_option maxHeartbeats 4000000
/-! Rows made: surely_short, filled, row_for. -/
namespace SR
open PySem PySem.Spec PyProof.Rows L2
section
variable {P : Program} {w : World} {K : PySem.W.Frag} {mg : Str → Option Value} {base : Heap} {C N fI : Addr}
theorem sc_surely_short : FnScope ["summary", "tight"] ["summary"] (defScope s_surely_short) := ⟨rfl, rfl, rfl, by decide +kernel, rfl, by decide +kernel, by decide +kernel⟩
theorem ok_surely_short {M f : Addr} {fd : FuncData} (F : Fun K "surely_short" "surely_short" s_surely_short f fd) (DT : DnX P w K mg base "surely_tightened" ["summary"] 9 (spSure C N)) (DC : DnX P w K mg base "check_short" ["summary"] 3 (spCkShort C M)) : FnOk P w K mg base (L2N.CX P w) 10 f fd ["summary"] (spShort C N) := by
  refine F.okXN sc_surely_short (fun vs H Q E h => ?_) (fun cdv A outer s H vs Q E hr h => ?_)
  · obtain ⟨v, n, es, rfl, _⟩ := h
    rfl
  · obtain ⟨v, n, es, rfl, hS, hv, hn, kN, kS⟩ := h
    have nd := sc_surely_short.nd
    have hr9 : Room 9 _ := hr.mono (by decide)
    have hr3 : Room 3 _ := hr.mono (by decide)
    refine ⟨_, pss_cons (ps_set (i := 1) nd rfl (Or.inl rfl) (pe_dnX (W := fun cls d _ H => E cls d H) DT hr9 (L2N.takes_of rfl rfl rfl rfl) (pa_cons (pv 0) pa_nil)))
      (pss_cons (ps_expr (pe_dnX (W := fun cls d _ H => E cls d H) DC hr3 (L2N.takes_of rfl rfl rfl rfl) (pa_cons (pv 1) pa_nil)))
      (pss_one (ps_ret (pv 1)))), ?_⟩
    refine ⟨_, rfl, v, n, es, rfl, hS, hv, fun hf H1 s1 => kN hf H1 s1, fun hf H1 p s1 h1 => ?_⟩
    exact ⟨_, rfl, _, n, _, rfl, h1, fun h => absurd hn (by omega), fun _ => ⟨_, rfl, kS hf H1 p s1 h1⟩⟩
/-- row_for(summary) -/
def spRowFor (C N : Addr) : Sp := fun vs H Q E => ∃ (v : V) (n : Int) (es : List Ent), vs = [v] ∧ SumV C H v n es ∧ Valid n es ∧ n ≤ 40 ∧
  (¬ Fits n es → ∀ H', Same H H' → E (.ref N) none H') ∧
  (Fits n es → ∀ H' p row, Same H H' → H p = none → H' p = some (.tup (row.map V.int)) → (row.length : Int) = n → row.Pairwise (· ≤ ·) → Lvs row es → Q (.ref p) H')
theorem sc_row_for : FnScope ["summary", "tight", "first", "value", "_", "low"] ["summary"] (defScope s_row_for) := ⟨rfl, rfl, rfl, by decide +kernel, rfl, by decide +kernel, by decide +kernel⟩
theorem ok_row_for {f : Addr} {fd : FuncData} (F : Fun K "row_for" "row_for" s_row_for f fd) (T : SumT K mg C) (DSh : DnX P w K mg base "surely_short" ["summary"] 10 (spShort C N)) (DF : Dn P w K mg base "filled" ["many", "numbers", "first"] 1 spFilled)
    (DE : Pr P w K mg base C "entries" 1 (getSp C "_entries")) (DM : Pr P w K mg base C "many" 1 (getSp C "_many")) (mmin : mg "min" = none) : FnOk P w K mg base (L2N.CX P w) 11 f fd ["summary"] (spRowFor C N) := by
  refine F.okXN sc_row_for (fun vs H Q E h => ?_) (fun cdv A outer s H vs Q E hr h => ?_)
  · obtain ⟨v, n, es, rfl, _⟩ := h
    rfl
  · obtain ⟨v, n, es, rfl, hS, hv, hn, kN, kS⟩ := h
    have nd := sc_row_for.nd
    have hr10 : Room 10 _ := hr.mono (by decide)
    have hr2 : Room 2 _ := hr.mono (by decide)
    have hr1 : Room 1 _ := hr.mono (by decide)
    refine ⟨_, pss_cons (ps_set (i := 1) nd rfl (Or.inl rfl) (pe_dnX (W := fun cls d _ H => E cls d H) DSh hr10 (L2N.takes_of rfl rfl rfl rfl) (pa_cons (pv 0) pa_nil)))
      (pss_cons (ps_set (i := 2) nd rfl (Or.inl rfl) (pe_callBK (cr_minD rfl) (by rfl) mmin (by decide +kernel) (pa_cons (pe_lc (own := [("value", 3), ("_", 4)]) (g := gTup K 3 (gCons (gName 3) (gCons (gName 4) (gCons (gName 4) gNil)))) (tt := tYes) (te := tVar 3)
          rfl nd (pi_tup (pe_pr DE T.ic.cl hr2 (pv 1))) (blkOk_by (own := [("value", 3), ("_", 4)]) (N := ["summary", "tight", "first", "value", "_", "low"]) (sc := defScope s_row_for) (by decide +kernel))
          (fun _ _ _ _ _ => pg_tup rfl (pgs_cons (pg_name (i := 3) nd rfl (Or.inl rfl)) (pgs_cons (pg_name (i := 4) nd rfl (Or.inl rfl)) (pgs_cons (pg_name (i := 4) nd rfl (Or.inl rfl)) pgs_nil)))) (fun _ _ _ _ _ => pts_nil) (fun _ _ _ _ _ => pv 3)) pa_nil) (pk_cons pe_int pk_nil)))
      (pss_one (ps_ret (pe_dn DF hr1 (pa_cons (pe_pr DM T.ic.cl hr2 (pv 1)) (pa_cons (pe_dc (own := [("low", 5), ("value", 3), ("_", 4)]) (g := gTup K 3 (gCons (gName 3) (gCons (gName 5) (gCons (gName 4) gNil)))) (tt := tYes) (tk := tVar 5) (tv := tVar 3)
          rfl nd (pi_tup (pe_pr DE T.ic.cl hr2 (pv 1))) (blkOk_by (own := [("low", 5), ("value", 3), ("_", 4)]) (N := ["summary", "tight", "first", "value", "_", "low"]) (sc := defScope s_row_for) (by decide +kernel))
          (fun _ _ _ _ _ => pg_tup rfl (pgs_cons (pg_name (i := 3) nd rfl (Or.inl rfl)) (pgs_cons (pg_name (i := 5) nd rfl (Or.inl rfl)) (pgs_cons (pg_name (i := 4) nd rfl (Or.inl rfl)) pgs_nil)))) (fun _ _ _ _ _ => pts_nil) (fun _ _ _ _ _ => pv 5) (fun _ _ _ _ _ => pv 3)) (pa_cons (pv 2) pa_nil))))))), ?_⟩
    refine ⟨_, rfl, v, n, es, rfl, hS, hv, hn, fun hf H1 s1 => kN hf H1 s1, fun hf H0 pt s0 hs0 => ?_⟩
    obtain ⟨p, dx, u, e, hp, a, vs, rfl, ha, he⟩ := id hs0
    cases e
    have h12 : (tightL n es).length ≤ 12 := by rw [tight_len]; exact hv.len
    obtain ⟨ts, hts⟩ : ∃ ts, ts = tightL n es := ⟨_, rfl⟩
    rw [← hts] at he h12
    have hl : vs.length = ts.length := he.len
    refine ⟨_, rfl, pt, dx, _, rfl, hp, pt, dx, _, _, rfl, hp, sfl_entries _ _, a, rfl, ⟨_, SqT.of ha⟩, fun D1 nD1 => ?_⟩
    refine lc_tup (K := K) (a := a) (xs := vs) (fun i H' => H' D1 = some (.lst (((ts.take i).map fun e => e.1).map V.int)) ∧ Same H0 H') ⟨upd_same, Same_new nD1⟩ (fun i H' _ ⟨_, s5⟩ => SqT.of (s5 _ _ ha)) ?_ ?_
    · rintro i x H' hx ⟨hD, s5⟩
      obtain ⟨e, hei, t, rfl, ht⟩ := pr_at' he hx
      have hil : i < ts.length := (List.getElem?_eq_some_iff.mp hei).1
      refine ⟨t, _, rfl, SqT.of (s5 _ _ ht), rfl, _, _, rfl, _, _, rfl, _, _, rfl, rfl, rfl, tyes_of ?_⟩
      rw [if_pos rfl]
      refine ⟨_, rfl, _, hD, ?_, ?_, Same_mut s5 nD1⟩
      · rw [List.length_map, List.length_map, List.length_take]
        exact small1000 (by omega)
      · rw [upd_same, List.take_add_one, hei, List.map_append, List.map_append]
        rfl
    rintro H1 ⟨hD1, s1⟩
    rw [hl, List.take_length] at hD1
    have hp1 := s1 _ _ hp
    refine ⟨D1, _, .int 0, rfl, rfl, SqL.of hD1, fun x1 o1 => ?_⟩
    obtain ⟨f0, rfl, hf0⟩ : ∃ f0 : Int, x1 = .int f0 ∧ ∀ e ∈ ts, f0 ≤ e.1 := by
      rcases o1 with ⟨h1, h2⟩ | ⟨m, h1, h2, h3⟩
      · refine ⟨0, h2, fun e he => ?_⟩
        have e0 : ts = [] := List.map_eq_nil_iff.mp h1
        rw [e0] at he
        cases he
      · exact ⟨m, h1, fun e he => h3 _ (List.mem_map.mpr ⟨e, he, rfl⟩)⟩
    refine ⟨_, rfl, pt, dx, _, rfl, hp1, pt, dx, _, _, rfl, hp1, sfl_many _ _, ?_⟩
    refine ⟨_, rfl, pt, dx, _, rfl, hp1, pt, dx, _, _, rfl, hp1, sfl_entries _ _, a, rfl, ⟨_, SqT.of (s1 _ _ ha)⟩, fun D2 nD2 => ?_⟩
    refine dc_tup (K := K) (a := a) (xs := vs) (fun i H' => ∃ kvs, H' D2 = some (.dK kvs) ∧ kvs.length ≤ i ∧ (∀ k : Int, valV kvs (Sum.inl k) = (gE ts i k).map V.int) ∧ Same H1 H') ⟨[], upd_same, Nat.le_refl _, fun k => rfl, Same_new nD2⟩ (fun i H' _ ⟨_, _, _, _, s5⟩ => SqT.of (s5 _ _ (s1 _ _ ha))) ?_ ?_
    · rintro i x H' hx ⟨kvs, hD, hk, hg, s5⟩
      obtain ⟨e, hei, t, rfl, ht⟩ := pr_at' he hx
      have hil : i < ts.length := (List.getElem?_eq_some_iff.mp hei).1
      refine ⟨t, _, rfl, SqT.of (s5 _ _ (s1 _ _ ht)), rfl, _, _, rfl, _, _, rfl, _, _, rfl, rfl, rfl, tyes_of ?_⟩
      rw [if_pos rfl]
      refine ⟨_, rfl, _, rfl, kvs, Sum.inl e.2.1, rfl, hD, small1000 (by omega), _, upd_same, ?_, fun k => ?_, Same_mut s5 nD2⟩
      · have := length_putK kvs (Sum.inl e.2.1) (V.int e.1)
        omega
      · rw [valV_put, hg]
        rw [gE_succ, lo_of hei, vl_of hei]
        by_cases c : k = e.2.1
        · rw [if_pos c, if_pos (by rw [c])]; rfl
        · rw [if_neg c, if_neg (by intro z; injection z with z; exact c z)]
    rintro H2 ⟨kvs, hD2, hk, hg, s2⟩
    rw [hl] at hg
    refine ⟨_, rfl, n, f0, D2, kvs, gE ts ts.length, rfl, by have := hv.n1; omega, hn, hD2, hg, fun H3 r s3 nr hr3 => ?_⟩
    have A : Asc (gE ts ts.length) f0 := by
      refine gE_asc (by rw [hts]; exact tight_up) (by rw [hts]; exact tight_va hv) fun j hj => ?_
      have := hf0 _ (List.getElem_mem hj)
      rw [vl_of (List.getElem?_eq_getElem hj)]
      exact this
    refine kS hf H3 r _ (((s0.trans s1).trans s2).trans s3) (((s0.trans s1).trans s2).free nr) hr3 ?_ (A.row _) (fill_leaves hv hf fun j hj => ?_)
    · rw [fillRow_len]
      have := hv.n1
      omega
    · have h1 := tight_at (n := n) hj
      rw [← hts] at h1
      have h2 := gE_at (ts := ts) (by rw [hts]; exact tight_up) (i := ts.length) (j := j) (Nat.le_refl _) (by rw [hts, tight_len]; exact hj)
      rw [lo_of h1, vl_of h1] at h2
      exact h2
end
end SR

set_option Elab.async false
set_option linter.all false
set_option maxRecDepth 100000
set_option maxHeartbeats 4000000
/-! leaves(row, summary). -/
namespace SR
open PySem PySem.Spec PyProof.Rows L2
section
variable {P : Program} {w : World} {K : PySem.W.Frag} {mg : Str → Option Value} {base : Heap} {C N fI : Addr}
def spCkRow : Sp := fun vs H Q _ => ∃ (v : V) (row : List Int), vs = [v] ∧ WayV H v row ∧ 1 ≤ row.length ∧ row.length ≤ 40 ∧ ∀ H', Same H H' → Q .non H'
theorem sc__check_row : FnScope ["row", "number"] ["row"] (defScope s__check_row) := ⟨rfl, rfl, rfl, by decide +kernel, rfl, by decide +kernel, by decide +kernel⟩
theorem ok__check_row {f : Addr} {fd : FuncData} (F : Fun K "_check_row" "_check_row" s__check_row f fd) (D1 : Dn P w K mg base "is_integer" ["value"] 1 spIsInt) (D2 : Dn P w K mg base "is_between" ["value", "least", "greatest"] 2 spBetween)
    (mi : mg "isinstance" = none) (mt : mg "tuple" = none) (ml : mg "len" = none) (mall : mg "all" = none) {tk : Tok} (gN : mg "MOST_NUMBERS" = some (.int 40 tk)) : FnOk P w K mg base CX0 3 f fd ["row"] spCkRow := by
  refine F.ok sc__check_row (fun vs H Q E h => ?_) (fun cdv A outer s H vs Q E hr h => ?_)
  · obtain ⟨v, row, rfl, _⟩ := h
    rfl
  · obtain ⟨v, row, rfl, ⟨t, rfl, ht⟩, l1, l40, k⟩ := h
    have nd := sc__check_row.nd
    have hr2 : Room 2 _ := hr.mono (by decide)
    have hr1 : Room 1 _ := hr.mono (by decide)
    refine ⟨_, pss_cons (ps_if (PW.pt (pw_or (pt_not (pt_val (pe_callB call_isi (by rfl) mi (by decide +kernel) (pa_cons (pv 0) (pa_cons (pe_bltn (v := .ty "tuple") (by rfl) mt (by decide +kernel) rfl) pa_nil)))))
        (pw_or1 (pt_not (pt_val (pe_dn D2 hr2 (pa_cons (pe_callB call_len_seq (by rfl) ml PySem.boot_len (pa_cons (pv 0) pa_nil)) (pa_cons pe_int (pa_cons (pe_gi gN) pa_nil))))))))) (pss_one ps_never) pss_nil)
      (pss_one (ps_if (pt_not (pt_val (pe_callB (cr_all rfl) (by rfl) mall (by decide +kernel) (pa_cons (pe_lc (own := [("number", 1)]) (g := gName 1) (tt := tYes) (te := tCall spIsInt [] E0 (tCons (tVar 1) tNil)) rfl nd (pi_tup (pv 0))
          (blkOk_by (own := [("number", 1)]) (N := ["row", "number"]) (sc := defScope s__check_row) (by decide +kernel)) (fun _ _ _ _ _ => pg_name (i := 1) nd rfl (Or.inl rfl)) (fun _ _ _ _ _ => pts_nil) (fun _ _ _ _ _ => pe_dn D1 hr1 (pa_cons (pv 1) pa_nil))) pa_nil)))) (pss_one ps_never) pss_nil)), ?_⟩
    refine ⟨_, rfl, _, _, _, _, true, rfl, .ty _, .base (.tup ht), kit_ty (by decide +kernel), true, rfl, iteF ?_⟩
    refine ⟨_, rfl, t, _, rfl, .inr (SqT.of ht), _, _, _, rfl, _, rfl, ?_⟩
    rw [List.length_map, decide_eq_true (show (1 : Int) ≤ (row.length : Int) by omega), decide_eq_true (show (row.length : Int) ≤ 40 by omega)]
    refine iteF ?_
    refine ⟨_, rfl, t, rfl, ⟨_, SqT.of ht⟩, fun D nD => ?_⟩
    refine lc_tup (K := K) (a := t) (xs := row.map V.int) (fun i H' => H' D = some (.lst ((List.replicate i true).map V.bl)) ∧ Same H H') ⟨upd_same, Same_new nD⟩ (fun i H' _ ⟨_, s5⟩ => SqT.of (s5 _ _ ht)) ?_ ?_
    · rintro i x H' hx ⟨hD, s5⟩
      obtain ⟨z, hz, rfl⟩ : ∃ z : Int, row[i]? = some z ∧ x = .int z := by
        rw [List.getElem?_map] at hx
        cases e : row[i]? with
        | none => rw [e] at hx; cases hx
        | some z => rw [e] at hx; exact ⟨z, rfl, (Option.some.inj hx).symm⟩
      have hil : i < row.length := (List.getElem?_eq_some_iff.mp hz).1
      refine ⟨rfl, tyes_of ?_⟩
      rw [if_pos rfl]
      refine ⟨_, rfl, z, rfl, _, hD, ?_, ?_, Same_mut s5 nD⟩
      · rw [List.length_map, List.length_replicate]
        exact small1000 (by omega)
      · rw [upd_same, List.replicate_succ', List.map_append]
        rfl
    · rintro H' ⟨hD, s5⟩
      refine ⟨D, _, rfl, SqL.of hD, _, rfl, ?_⟩
      rw [show (List.replicate (row.map V.int).length true).all id = true by rw [List.all_replicate]; simp]
      exact iteF (k H' s5)
def spHave : Sp := fun vs H Q _ => ∃ (u : V) (l : Addr) (row : List Int) (es : List Ent), vs = [u, .ref l] ∧ TupV H u es ∧ H l = some (.lst (row.map V.int)) ∧ row.length ≤ 900 ∧ es.length ≤ 12 ∧ (∀ j, j < es.length → 1 ≤ lo es j ∧ lo es j ≤ hi es j ∧ hi es j ≤ row.length) ∧
  ∀ b : Bool, (b = true ↔ Lvs row es) → Q (.bl b) H
theorem sc__have_places : FnScope ["entries", "ascending", "rank", "value", "low", "high"] ["entries", "ascending"] (defScope s__have_places) := ⟨rfl, rfl, rfl, by decide +kernel, rfl, by decide +kernel, by decide +kernel⟩
theorem ok__have_places {f : Addr} {fd : FuncData} (F : Fun K "_have_places" "_have_places" s__have_places f fd) (mmax : mg "max" = none) : FnOk P w K mg base CX0 1 f fd ["entries", "ascending"] spHave := by
  refine F.ok sc__have_places (fun vs H Q E h => ?_) (fun cdv A outer s H vs Q E hr h => ?_)
  · obtain ⟨u, l, row, es, rfl, _⟩ := h
    rfl
  · obtain ⟨u, l, row, es, rfl, ⟨a, vs, rfl, ha, he⟩, hlr, hrl, h12, hb, k⟩ := h
    have nd := sc__have_places.nd
    have hl : vs.length = es.length := he.len
    refine ⟨_, pss_cons (ps_set (i := 2) nd rfl (Or.inl rfl) pe_int)
      (pss_cons (ps_for PassesOwn.never rfl (pi_tup (pv 0)) (pg_tup rfl (pgs_cons (pg_name (i := 3) nd rfl (Or.inl rfl)) (pgs_cons (pg_name (i := 4) nd rfl (Or.inl rfl)) (pgs_cons (pg_name (i := 5) nd rfl (Or.inl rfl)) pgs_nil))))
        (pss_cons (ps_set (i := 2) nd rfl (Or.inl rfl) (pe_callB (call_max2 rfl) (by rfl) mmax (by decide +kernel) (pa_cons (pv 4) (pa_cons (pe_op op_add (pv 2) pe_int) pa_nil))))
        (pss_cons (ps_while PassesOwn.never (PW.pt (pw_and (pt_cmpR op_le (pv 2) (pv 5) (nomark _)) (pw_and1 (pt_cmpR op_ne (pe_ix ix_list (pv 1) (pe_op op_sub (pv 2) pe_int) (fun _ _ => rfl)) (pv 3) (nomark _)))))
          (pss_one (ps_aug (i := 2) nd rfl (Or.inl rfl) pe_int ip_add)))
        (pss_one (ps_if (pt_cmpR op_gt (pv 2) (pv 5) (nomark _)) (pss_one (ps_ret pe_bl)) pss_nil)))))
      (pss_one (ps_ret pe_bl))), ?_⟩
    refine ⟨_, rfl, a, rfl, ⟨_, SqT.of ha⟩, for_tup (K := K) (a := a) (xs := vs)
      (fun i σ H' => H' = H ∧ ∃ (L : Int) (y3 y4 y5 : Option V), σ = [some (.ref a), some (.ref l), some (.int L), y3, y4, y5] ∧ 0 ≤ L ∧ L ≤ row.length ∧ (Lvs row es ↔ Lv row (es.drop i) L))
      ⟨rfl, 0, none, none, none, rfl, Int.le_refl _, by omega, Iff.rfl⟩ (fun i σ H' _ ⟨e, _⟩ => by rw [e]; exact SqT.of ha) ?_ ?_⟩
    · rintro i x σ H1 hx ⟨rfl, L, y3, y4, y5, rfl, L0, L1, hiff⟩
      obtain ⟨e, hei, t, rfl, ht⟩ := pr_at' he hx
      have hil : i < es.length := (List.getElem?_eq_some_iff.mp hei).1
      have hb' := hb i hil
      rw [lo_of hei, hi_of hei] at hb'
      have hd : es.drop i = e :: es.drop (i + 1) := by
        have h1 : es[i] = e := (List.getElem?_eq_some_iff.mp hei).2
        rw [← h1]
        exact List.drop_eq_getElem_cons hil
      rw [hd] at hiff
      refine ⟨t, _, rfl, SqT.of ht, rfl, _, _, rfl, _, _, rfl, _, _, rfl, rfl, ?_⟩
      refine ⟨_, rfl, _, rfl, _, _, rfl, rfl, _, _, rfl, ?_⟩
      rw [max_if]
      refine ⟨fun m σ H' => H' = H1 ∧ ∃ r : Int, m = (e.2.2 + 1 - r).toNat ∧ σ = [some (.ref a), some (.ref l), some (.int r), some (.int e.1), some (.int e.2.1), some (.int e.2.2)] ∧ max e.2.1 (L + 1) ≤ r ∧ ∀ x, max e.2.1 (L + 1) ≤ x → x < r → rat row x ≠ e.1,
        ⟨_, rfl, _, rfl, rfl, Int.le_refl _, fun x h1 h2 => by omega⟩, ?_⟩
      rintro m σ H' ⟨rfl, r, rfl, rfl, hr1, hr2⟩
      refine ⟨_, rfl, _, rfl, _, _, rfl, rfl, _, rfl, ?_⟩
      refine ite2 (fun c => ?_) (fun c => ?_)
      · have c' : r ≤ e.2.2 := of_decide_eq_true c
        refine ⟨_, rfl, _, rfl, _, _, rfl, rfl, l, _, _, _, rfl, rfl, SqL.of hlr, at_of (j := (r - 1).toNat) (by omega) (rat_get (by omega) (by omega)), _, rfl, rfl, _, rfl, ?_⟩
        refine ite2 (fun c2 => ?_) (fun c2 => ?_)
        · have c3 : rat row r ≠ e.1 := fun z => by rw [z] at c2; simp at c2
          refine ⟨fun σ' H'' => H'' = H' ∧ σ' = [some (.ref a), some (.ref l), some (.int (r + 1)), some (.int e.1), some (.int e.2.1), some (.int e.2.2)], fun σ' H'' h => ?_, ?_⟩
          · obtain ⟨rfl, rfl⟩ := h
            refine ⟨(e.2.2 + 1 - (r + 1)).toNat, by omega, rfl, r + 1, rfl, rfl, by omega, fun x h1 h2 => ?_⟩
            by_cases hx2 : x = r
            · rw [hx2]; exact c3
            · exact hr2 x h1 (by omega)
          · exact ⟨_, rfl, _, _, rfl, rfl, rfl, rfl⟩
        · have c3 : rat row r = e.1 := by
            by_cases z : rat row r = e.1
            · exact z
            · exact absurd (by simp [z]) c2
          refine ⟨_, rfl, _, rfl, _, _, rfl, rfl, _, rfl, ?_⟩
          rw [decide_eq_false (show ¬ e.2.2 < r by omega)]
          refine iteF ?_
          exact ⟨rfl, r, _, _, _, rfl, by omega, by omega, hiff.trans (Lv.yes hr1 c' c3 hr2)⟩
      · have c' : ¬ r ≤ e.2.2 := fun z => c (decide_eq_true z)
        refine iteF ?_
        refine ⟨_, rfl, _, rfl, _, _, rfl, rfl, _, rfl, ?_⟩
        rw [decide_eq_true (show e.2.2 < r by omega)]
        refine iteT ?_
        exact k false ⟨fun z => Bool.noConfusion z, fun z => absurd (hiff.mp z) (Lv.no fun x h1 h2 => hr2 x h1 (by omega))⟩
    · rintro σ H1 ⟨rfl, L, y3, y4, y5, rfl, L0, L1, hiff⟩
      rw [hl, List.drop_length] at hiff
      exact k true ⟨fun _ => hiff.mpr trivial, fun _ => rfl⟩
/-- leaves(row, summary) -/
def spLeavesP (C : Addr) : Sp := fun vs H Q _ => ∃ (v u : V) (row : List Int) (n : Int) (es : List Ent), vs = [v, u] ∧ WayV H v row ∧ 1 ≤ row.length ∧ row.length ≤ 40 ∧ SumV C H u n es ∧ Valid n es ∧
  ∀ H' (b : Bool), Same H H' → (∀ s : List Int, s.Perm row → s.Pairwise (· ≤ ·) → (b = true ↔ ((s.length : Int) = n ∧ Lvs s es))) → Q (.bl b) H'
theorem sc_leaves : FnScope ["row", "summary"] ["row", "summary"] (defScope s_leaves) := ⟨rfl, rfl, rfl, by decide +kernel, rfl, by decide +kernel, by decide +kernel⟩
theorem ok_leaves {f : Addr} {fd : FuncData} (F : Fun K "leaves" "leaves" s_leaves f fd) (T : SumT K mg C) (DCR : Dn P w K mg base "_check_row" ["row"] 3 spCkRow) (DCk : Dn P w K mg base "check_summary" ["summary"] 1 (spCkSum C)) (DH : Dn P w K mg base "_have_places" ["entries", "ascending"] 1 spHave)
    (DE : Pr P w K mg base C "entries" 1 (getSp C "_entries")) (DM : Pr P w K mg base C "many" 1 (getSp C "_many")) (ml : mg "len" = none) (mso : mg "sorted" = none) : FnOk P w K mg base CX0 4 f fd ["row", "summary"] (spLeavesP C) := by
  refine F.ok sc_leaves (fun vs H Q E h => ?_) (fun cdv A outer s H vs Q E hr h => ?_)
  · obtain ⟨v, u, row, n, es, rfl, _⟩ := h
    rfl
  · obtain ⟨v, u, row, n, es, rfl, hw, l1, l40, hS, hv, k⟩ := h
    have nd := sc_leaves.nd
    have hr3 : Room 3 _ := hr.mono (by decide)
    have hr2 : Room 2 _ := hr.mono (by decide)
    have hr1 : Room 1 _ := hr.mono (by decide)
    refine ⟨_, pss_cons (ps_expr (pe_dn DCR hr3 (pa_cons (pv 0) pa_nil)))
      (pss_cons (ps_expr (pe_dn DCk hr1 (pa_cons (pv 1) pa_nil)))
      (pss_one (ps_ret (pe_and (pe_cmpR op_eq (pe_callB call_len_seq (by rfl) ml PySem.boot_len (pa_cons (pv 0) pa_nil)) (pe_pr DM T.ic.cl hr2 (pv 1)) (nomark _))
        (pe_one (pe_dn DH hr1 (pa_cons (pe_pr DE T.ic.cl hr2 (pv 1)) (pa_cons (pe_callB cr_sortedT (by rfl) mso (by decide +kernel) (pa_cons (pv 0) pa_nil)) pa_nil)))))))), ?_⟩
    refine ⟨_, rfl, v, row, rfl, hw, l1, l40, fun H1 s1 => ?_⟩
    have hS1 := hS.mono s1
    refine ⟨_, rfl, u, n, es, rfl, hS1, ?_⟩
    obtain ⟨t, rfl, ht⟩ := hw
    have ht1 := s1 _ _ ht
    obtain ⟨p, dx, ue, rfl, hp, hue⟩ := id hS1
    refine ⟨_, rfl, t, _, rfl, .inr (SqT.of ht1), _, rfl, p, dx, _, rfl, hp, p, dx, _, _, rfl, hp, sfl_many _ _, rfl, _, rfl, ?_⟩
    rw [List.length_map]
    refine ite2 (fun c => ?_) (fun c => ?_)
    · have e1 : (row.length : Int) = n := V.int.inj (of_decide_eq_true c)
      refine ⟨_, rfl, p, dx, _, rfl, hp, p, dx, _, _, rfl, hp, sfl_entries _ _, ?_⟩
      refine ⟨_, rfl, t, row, rfl, SqT.of ht1, fun ns' q perm asc nq => ?_⟩
      have tq := Same_new (o := .lst (ns'.map V.int)) nq
      have pl := perm.length_eq
      refine ⟨_, q, ns', es, rfl, hue.mono tq, upd_same, by omega, hv.len, fun j hj => ?_, fun b hb => ?_⟩
      · have := hv.ent j hj
        omega
      · refine k _ b (s1.trans tq) fun s2 p2 a2 => ?_
        have e2 : s2 = ns' := List.Perm.eq_of_pairwise (fun a b _ _ h1 h2 => Int.le_antisymm h1 h2) a2 asc (p2.trans perm.symm)
        subst e2
        rw [hb]
        exact ⟨fun h => ⟨by omega, h⟩, fun h => h.2⟩
    · have e1 : ¬ (row.length : Int) = n := fun z => c (decide_eq_true (by rw [z]))
      refine k _ false s1 fun s2 p2 a2 => ⟨fun z => Bool.noConfusion z, fun z => absurd z.1 ?_⟩
      rw [p2.length_eq]
      exact e1
end
end SR

set_option Elab.async false
set_option linter.all false
set_option maxRecDepth 100000
set_option maxHeartbeats 4000000
/-! check_value of values that are fine. -/
namespace SR
open PySem PySem.Spec PyProof.Rows L2

section
variable {P : Program} {w : World} {K : PySem.W.Frag} {mg : Str → Option Value} {base : Heap} {C C_NoRow fI : Addr}
def spCkV : Sp := fun vs H Q _ => ∃ z : Int, vs = [.int z] ∧ -10 ^ 30 ≤ z ∧ z ≤ 10 ^ 30 ∧ Q .non H
theorem sc_check_value : FnScope ["thing"] ["thing"] (defScope s_check_value) := ⟨rfl, rfl, rfl, by decide +kernel, rfl, by decide +kernel, by decide +kernel⟩
theorem ok_check_value {f : Addr} {fd : FuncData} (F : Fun K "check_value" "check_value" s_check_value f fd)  (D_is_value : Dn P w K mg base "is_value" ["thing"] 3 (spIsValue))  : FnOk P w K mg base CX0 4 f fd ["thing"] (spCkV) := by
  refine F.ok sc_check_value (fun vs H Q E h => ?_) (fun cdv A outer s H vs Q E hr h => ?_)
  · obtain ⟨z, rfl, _⟩ := h
    rfl
  · obtain ⟨z, rfl, z1, z2, k⟩ := h
    have nd := sc_check_value.nd
    have hr3 : Room 3 _ := hr.mono (by decide)
    refine ⟨_, pss_one (ps_if (pt_not (pt_val (pe_dn D_is_value hr3 (pa_cons (pv 0) pa_nil)))) (pss_one ps_never) pss_nil), ?_⟩
    refine ⟨_, rfl, z, rfl, ?_⟩
    rw [decide_eq_true z1, decide_eq_true z2]
    exact ⟨true, rfl, iteF k⟩
-- @prem check_value check_value  : D_is_value
end
end SR

set_option Elab.async false
set_option linter.all false
set_option maxRecDepth 100000
set_option maxHeartbeats 4000000
/-! Rows that tell. -/
namespace SR
open PySem PySem.Spec PyProof.Rows L2

section
variable {P : Program} {w : World} {K : PySem.W.Frag} {mg : Str → Option Value} {base : Heap} {C C_NoRow fI : Addr}
def spFirstRk (C : Addr) : Sp := fun vs H Q _ => ∃ (v : V) (n z start : Int) (ts : List Ent), vs = [v, .int z, .int start] ∧ SumV C H v n ts ∧ ts.length ≤ 12 ∧
  ((∃ j, j < ts.length ∧ SR.hi ts j < rkN ts z start (j + 1)) → ∀ H', Same H H' → Q .non H') ∧
  ((∀ j, j < ts.length → rkN ts z start (j + 1) ≤ SR.hi ts j) → ∀ H' p, Same H H' → H p = none → H' p = some (.lst ((rkL ts z start ts.length).map V.int)) → Q (.ref p) H')
theorem sc__first_ranks : FnScope ["tight", "value", "start", "ranks", "rank", "kept", "low", "high"] ["tight", "value", "start"] (defScope s__first_ranks) := ⟨rfl, rfl, rfl, by decide +kernel, rfl, by decide +kernel, by decide +kernel⟩
theorem ok__first_ranks {f : Addr} {fd : FuncData} (F : Fun K "_first_ranks" "_first_ranks" s__first_ranks f fd)  (T : SumT K mg C) (DE : Pr P w K mg base C "entries" 1 (getSp C "_entries")) (m_max : mg "max" = none)  : FnOk P w K mg base CX0 3 f fd ["tight", "value", "start"] (spFirstRk C) := by
  refine F.ok sc__first_ranks (fun vs H Q E h => ?_) (fun cdv A outer s H vs Q E hr h => ?_)
  · obtain ⟨v, n, z, start, ts, rfl, _⟩ := h
    rfl
  · obtain ⟨v, n, z, start, ts, rfl, hS, h12, kN, kS⟩ := h
    have nd := sc__first_ranks.nd
    have hr2 : Room 2 _ := hr.mono (by decide)
    refine ⟨_, pss_cons (ps_set (i := 3) nd rfl (Or.inl rfl) (pe_lst pa_nil))
        (pss_cons (ps_set (i := 4) nd rfl (Or.inl rfl) pe_int)
        (pss_cons (ps_for PassesOwn.never rfl (pi_tup (pe_pr DE T.ic.cl hr2 (pv 0))) (pg_tup rfl (pgs_cons (pg_name (i := 5) nd rfl (Or.inl rfl)) (pgs_cons (pg_name (i := 6) nd rfl (Or.inl rfl)) (pgs_cons (pg_name (i := 7) nd rfl (Or.inl rfl)) pgs_nil))))
        (pss_cons (ps_set (i := 4) nd rfl (Or.inl rfl) (pe_callB (call_max2 rfl) (by rfl) m_max (by decide +kernel) (pa_cons (pv 6) (pa_cons (pe_op op_add (pv 4) pe_int) pa_nil))))
        (pss_cons (ps_if (pt_cmpR op_ge (pv 5) (pv 1) (nomark _)) (pss_one (ps_set (i := 4) nd rfl (Or.inl rfl) (pe_callB (call_max2 rfl) (by rfl) m_max (by decide +kernel) (pa_cons (pv 4) (pa_cons (pv 2) pa_nil))))) pss_nil)
        (pss_cons (ps_if (pt_cmpR op_gt (pv 4) (pv 7) (nomark _)) (pss_one (ps_ret pe_non)) pss_nil)
        (pss_one (ps_expr (pe_bm PySem.F.plainAttrs_list PySem.F.slot_list_append PySem.F.type_list_append mt_append (pv 3) (pa_cons (pv 4) pa_nil))))))))
        (pss_one (ps_ret (pv 3))))), ?_⟩
    obtain ⟨p, dx, u, rfl, hp, a, vs, rfl, ha, he⟩ := hS
    have hl : vs.length = ts.length := he.len
    refine ⟨Nat.zero_le _, fun q nq => ?_⟩
    have s0 := Same_new (o := .lst []) nq
    dsimp only [gName]
    refine ⟨_, rfl, p, dx, _, rfl, s0 _ _ hp, p, dx, _, _, rfl, s0 _ _ hp, sfl_entries _ _, a, rfl, ⟨_, SqT.of (s0 _ _ ha)⟩, ?_⟩
    refine for_tup (K := K) (a := a) (xs := vs) (fun i σ H' => ∃ (y5 y6 y7 : Option V), σ = [some (.ref p), some (.int z), some (.int start), some (.ref q), some (.int (rkN ts z start i)), y5, y6, y7] ∧ H' q = some (.lst ((rkL ts z start i).map V.int)) ∧ Same H H' ∧ ∀ j, j < i → rkN ts z start (j + 1) ≤ SR.hi ts j)
      ⟨none, none, none, rfl, upd_same, s0, fun j hj => absurd hj (Nat.not_lt_zero j)⟩ (fun i σ H' _ ⟨_, _, _, _, _, s5, _⟩ => SqT.of (s5 _ _ ha)) ?_ ?_
    · rintro i x σ H' hx ⟨y5, y6, y7, rfl, hq, s5, hj⟩
      obtain ⟨e, hei, t, rfl, ht⟩ := pr_at' he hx
      have hil : i < ts.length := (List.getElem?_eq_some_iff.mp hei).1
      have ht' := s5 _ _ ht
      have er := rkN_succ ts z start i
      rw [vl_of hei, lo_of hei] at er
      refine ⟨t, _, rfl, SqT.of ht', rfl, _, _, rfl, _, _, rfl, _, _, rfl, rfl, ?_⟩
      refine ⟨_, rfl, _, rfl, _, _, rfl, rfl, _, _, rfl, ?_⟩
      rw [max_if]
      dsimp only [gName]
      refine seq_ifj (fun σ H1 => σ = [some (.ref p), some (.int z), some (.int start), some (.ref q), some (.int (rkN ts z start (i + 1))), some (.int e.1), some (.int e.2.1), some (.int e.2.2)] ∧ H1 = H') (fun N hN => ?_) ?_
      · refine ⟨_, rfl, _, rfl, _, _, rfl, rfl, _, rfl, ite2 (fun c => ?_) (fun c => ?_)⟩
        · have c' : z ≤ e.1 := of_decide_eq_true c
          refine ⟨_, rfl, _, rfl, _, _, rfl, ?_⟩
          rw [max_if]
          refine hN _ _ ⟨?_, rfl⟩
          rw [er, if_pos c']
          rfl
        · have c' : ¬ z ≤ e.1 := fun h => c (decide_eq_true h)
          refine hN _ _ ⟨?_, rfl⟩
          rw [er, if_neg c']
          rfl
      rintro σ H1 ⟨rfl, rfl⟩
      refine ⟨_, rfl, _, rfl, _, _, rfl, rfl, _, rfl, ite2 (fun c => ?_) (fun c => ?_)⟩
      · have c' : e.2.2 < rkN ts z start (i + 1) := of_decide_eq_true c
        exact kN ⟨i, hil, by rw [hi_of hei]; exact c'⟩ H1 s5
      · have c' : ¬ e.2.2 < rkN ts z start (i + 1) := fun h => c (decide_eq_true h)
        refine ⟨_, rfl, .inl ⟨rfl, _, SqL.of hq⟩, _, rfl, q, _, _, rfl, rfl, hq, ?_, _, _, _, rfl, ?_, Same_mut s5 nq, fun j hj2 => ?_⟩
        · rw [List.length_map, rkL_len]
          exact small1000 (by omega)
        · rw [upd_same, rkL_succ, List.map_append]
          rfl
        · by_cases ej : j = i
          · rw [ej, hi_of hei]; omega
          · exact hj j (by omega)
    · rintro σ H' ⟨y5, y6, y7, rfl, hq, s5, hj⟩
      rw [hl] at hq hj
      exact ⟨_, rfl, kS hj H' q s5 nq hq⟩
-- @prem _first_ranks _first_ranks  : T DE m_max
end
end SR

set_option Elab.async false
set_option linter.all false
set_option maxRecDepth 100000
set_option maxHeartbeats 4000000
/-! dict(zip(xs, ys)): integers as keys. -/
namespace SR
open PySem PySem.Spec PyProof.Rows L2
def tDz (K : PySem.W.Frag) (ta : TA) : TE := fun σ H Q => ta σ H fun vs H1 => ∃ (a b : Addr) (is : List Int) (ys : List V), vs = [.ref a, .ref b] ∧ SqL K H1 a (is.map V.int) ∧ SqL K H1 b ys ∧ is.length = ys.length ∧
  ∀ d, H1 d = none → Q (.ref d) (upd H1 d (.dK (mergeK [] ((is.map Sum.inl).zip ys))))
/-- keys and values as they lie -/
theorem zip_kv : ∀ {is : List Int} {us : List Value} {ys : List V} {ws : List Value}, Vals (is.map V.int) us → Vals ys ws → is.length = ys.length → KV ((is.map (Sum.inl (β := Str))).zip ys) ((is.map (Sum.inl (β := Str))).zip ws)
  | [], _, _, _, _, _, _ => .nil
  | i :: is, _, y :: ys, _, .cons _ t, .cons ry t2, e => .cons ⟨rfl, ry⟩ (zip_kv t t2 (by simpa using e))
theorem zip_at : ∀ {is : List Int} {us ws : List Value} {j : Nat} {key v : Value}, Vals (is.map V.int) us → us[j]? = some key → ws[j]? = some v → ∃ i : Int, ((is.map (Sum.inl (β := Str))).zip ws)[j]? = some (Sum.inl i, v) ∧ RelV (.int i) key
  | [], _, _, _, _, _, .nil, h, _ => by simp at h
  | i :: is, _, [], _, _, _, _, _, h => by simp at h
  | i :: is, _, w :: ws, 0, _, _, .cons r _, h1, h2 => by
    simp at h1 h2
    subst h1 h2
    exact ⟨i, rfl, r⟩
  | i :: is, _, w :: ws, j + 1, _, _, .cons _ t, h1, h2 => by
    obtain ⟨k, a, b⟩ := zip_at (is := is) (ws := ws) (j := j) t (by simpa using h1) (by simpa using h2)
    exact ⟨k, by simpa using a, b⟩
section
variable {X : Cx} {e e2 : Expr} {ta : TA} {p p2 pos pos2 : Pos}
theorem pe_dz (calm : X.calm = true) (hg : Gl X "dict") (hm : X.mg "dict" = none) (hg2 : Gl X "zip") (hm2 : X.mg "zip" = none) (ha : PA X [e, e2] ta)
    (hs : starEach [e, e2] X.env = (false, eval e X.env) :: starEach [e2] X.env := by rfl) (hpl : (backTo pos2 (starEach [e2] X.env)).any (·.1) = false := by rfl)
    (hs1 : starEach [Expr.Call (.Name "zip" p2) [e, e2] [] pos2] X.env = (false, eval (.Call (.Name "zip" p2) [e, e2] [] pos2) X.env) :: starEach [] X.env := by rfl) :
    PE X (.Call (.Name "dict" p) [.Call (.Name "zip" p2) [e, e2] [] pos2] [] pos) (tDz X.K ta) := by
  refine ⟨fun pins s σ H Q I h => ?_⟩
  refine Call_ (ld_blt I hg hm PyProof.Rows.boot_dict (PyProof.Rows.callWith_type1 ?_ hs1 rfl))
  rw [hs1]
  show wpAny _ _ (spliced ((false, eval (.Call (.Name "zip" p2) [e, e2] [] pos2) X.env) :: [])) _ _ s
  refine Calls.spliced_cons ?_
  refine Call_ (ld_blt I hg2 hm2 PyProof.Rows.boot_zip (PyProof.Rows.callWith_type1 (thn (ha.run pos2 pins s σ H _ I h) fun us s1 hh => ?_) hs hpl))
  obtain ⟨vs, H1, I1, r1, a, b, is, ys, rfl, ha1, hb1, le, q⟩ := hh
  obtain ⟨u1, u2, rfl, rfl, rfl⟩ : ∃ u1 u2, us = [u1, u2] ∧ u1 = .ref a ∧ u2 = .ref b := by
    cases r1 with
    | cons r rr =>
      cases rr with
      | cons r' rr =>
        cases rr
        exact ⟨_, _, rfl, r, r'⟩
  obtain ⟨xs1, rv1, l1, z1⟩ := I1.list ha1
  obtain ⟨xs2, rv2, l2, z2⟩ := I1.list hb1
  have la : a < s1.heap.objs.size := l1.lt
  have lb : b < s1.heap.objs.size := l2.lt
  have n1 : xs1.length = is.length := by rw [← rv1.length, List.length_map]
  have n2 : xs2.length = ys.length := rv2.length.symm
  refine call_zip_2 l1.isList l2.isList fun h1 hz hTI hTO hi1 hi2 hsz hk => ?_
  refine Calls.spliced_nil ?_
  have I2 : Inv X pins σ H1 { s1 with heap := h1 } := I1.kept (t' := s1.toks) hk
  have kl1 := l1.isList.at fun o e => hk _ o e
  have kl2 := l2.isList.at fun o e => hk _ o e
  refine PySem.call_dict_pairs (s := { s1 with heap := h1 }) (knd := mixKind X.prog X.w) (kvs := (is.map (Sum.inl (β := Str))).zip xs2)
    (PairArg.zip _ _ _ _ _ a b (PySem.W.ktu_apart s1.heap.objs.size a b la lb) _ _) (I2.ok.hd calm) ⟨hz, hTI, ⟨_, _, hTO⟩, hi1, hi2, kl1, kl2⟩ ⟨?_, fun j key v h => ?_⟩ ?_ fun h2 tk hd hk2 => ?_
  · simp [List.length_zip, n1]
  · obtain ⟨i, e1, e2⟩ := zip_at (ws := xs2) rv1 (by simpa using h.1) (by simpa using h.2)
    exact ⟨_, e1, kV_is (k := Sum.inl i) e2⟩
  · rw [List.length_map] at z1
    refine Nat.le_trans (Nat.min_le_left _ _) ?_
    rw [List.size_toArray, n1]
    exact z1
  · obtain ⟨d, ed⟩ : ∃ d, d = h1.objs.size := ⟨_, rfl⟩
    have hd : h2.DictOf (mixKind X.prog X.w) h1.objs.size (merged [] ((is.map (Sum.inl (β := Str))).zip xs2)) := hd
    show EP X pins σ Q (.ref h1.objs.size) _
    rw [← ed] at hd ⊢
    have big : s1.heap.objs.size ≤ d := by rw [ed, hsz]; exact Nat.le_add_right _ _
    have kp : ∀ c o, s1.heap.get? c = some o → h2.get? c = some o := fun c o e => by
      have lt := Heap.lt_size e
      refine hk2 c o (fun hm => ?_) (hk _ _ e)
      have hc : c = s1.heap.objs.size + 4 ∨ c = s1.heap.objs.size + 3 ∨ c = s1.heap.objs.size ∨ c = s1.heap.objs.size + 1 := by simpa using hm
      rcases hc with z | z | z | z
      · rw [z] at lt; exact absurd lt (Nat.not_lt.mpr (Nat.le_add_right _ _))
      · rw [z] at lt; exact absurd lt (Nat.not_lt.mpr (Nat.le_add_right _ _))
      · rw [z] at lt; exact absurd lt (Nat.lt_irrefl _)
      · rw [z] at lt; exact absurd lt (Nat.not_lt.mpr (Nat.le_add_right _ _))
    have nd : H1 d = none := I1.hok.fresh big
    have hsm : (d == sysModules) = false := beq_eq_false_iff_ne.mpr (Nat.ne_of_gt (Nat.lt_of_lt_of_le I1.big big))
    have hlen : (mergeK [] ((is.map (Sum.inl (β := Str))).zip ys)).length ≤ sizeLine := by
      refine Nat.le_trans (length_mergeK _ []) ?_
      rw [List.length_map] at z1
      rw [List.length_nil, Nat.zero_add, List.length_zip, List.length_map]
      exact Nat.le_trans (Nat.min_le_left _ _) z1
    exact ⟨.ref d, _, I1.laid (t' := tk) kp big (show ObjOk X.prog X.w _ _ _ (.dK (mergeK [] ((is.map (Sum.inl (β := Str))).zip ys))) from ⟨hlen, hsm, _, KV.merge (zip_kv rv1 rv2 le) .nil, hd⟩), rfl, q d nd⟩
end
/-- a comprehension over a dict's items -/
theorem lc_items {d D : Addr} {o : Obj} {kvs : List (Key × V)} {g : TG} {tt : TT} {te : TE} {vs : List Nat} {σ : L2.St} {H1 : Hp} {F : Hp → Prop} (Pv : Nat → Hp → Prop) (h0 : Pv 0 (upd H1 D (.lst [])))
    (hl : ∀ i H, i ≤ kvs.length → Pv i H → H d = some (.frz o (.dK kvs)))
    (hs : ∀ i k v t H, kvs[i]? = some (k, v) → Pv i H → H t = none → g (.ref t) (wipe σ vs) (upd H t (.tup [kV k, v])) fun σ2 H2 => wipe σ2 vs = wipe σ vs ∧ tt σ2 H2 fun b H3 =>
      if b = true then te σ2 H3 fun y H4 => ∃ acc, H4 D = some (.lst acc) ∧ acc.length < sizeLine ∧ Pv (i + 1) (upd H4 D (.lst (acc ++ [y]))) else Pv (i + 1) H3) (hd : ∀ H, Pv kvs.length H → F H) :
    ∃ W : Nat → Nat → Hp → Prop, (∃ m, W 0 m (upd H1 D (.lst []))) ∧ ∀ i m H, W i m H →
      ((Iti d o kvs).stop i H ∧ F H) ∨ ((Iti d o kvs).go i H ∧ ∃ N : Hp → Prop, (∀ H', N H' → ∃ m', m' < m ∧ W (i + 1) m' H') ∧ ∀ x H', (Iti d o kvs).yld i H x H' → g x (wipe σ vs) H' fun σ2 H2 => wipe σ2 vs = wipe σ vs ∧ tt σ2 H2 fun b H3 =>
        if b = true then te σ2 H3 fun y H4 => ∃ acc, H4 D = some (.lst acc) ∧ acc.length < sizeLine ∧ N (upd H4 D (.lst (acc ++ [y]))) else N H3) := by
  refine ⟨fun i m H => i ≤ kvs.length ∧ m = kvs.length - i ∧ Pv i H, ⟨_, Nat.zero_le _, rfl, h0⟩, fun i m H hw => ?_⟩
  obtain ⟨hi, rfl, p⟩ := hw
  have sq := hl i H hi p
  rcases Nat.lt_or_ge i kvs.length with lt | ge
  · refine .inr ⟨⟨sq, lt⟩, Pv (i + 1), fun H' p' => ⟨_, by omega, lt, rfl, p'⟩, ?_⟩
    rintro x H' ⟨t, k, v, hk, rfl, nt, rfl⟩
    exact hs i k v t H hk p nt
  · obtain rfl : i = kvs.length := Nat.le_antisymm hi ge
    exact .inl ⟨⟨sq, Nat.le_refl _⟩, hd H p⟩
theorem merge_nd : ∀ {more acc : List (Key × V)}, (more.map (·.1)).Nodup → (∀ x ∈ more, valV acc x.1 = none) → mergeK acc more = acc ++ more
  | [], acc, _, _ => by rw [List.append_nil]; rfl
  | x :: r, acc, nd, hn => by
    obtain ⟨n1, n2⟩ := List.nodup_cons.mp nd
    show mergeK (putK acc x.1 x.2) r = _
    have hx := hn x (List.mem_cons_self ..)
    rw [merge_nd n2 fun y hy => ?_, putK_new _ hx, List.append_assoc]
    · rfl
    · rw [valV_put, if_neg (fun e => n1 (List.mem_map.mpr ⟨y, hy, e⟩))]
      exact hn y (List.mem_cons_of_mem _ hy)
theorem valV_zip : ∀ (rks kv : List Int) (k : Int), valV ((rks.map (Sum.inl (β := Str))).zip (kv.map V.int)) (Sum.inl k) = (gZ rks kv k).map V.int
  | [], _, _ => rfl
  | _ :: _, [], _ => rfl
  | r :: rs, v :: vs, k => by
    have ih := valV_zip rs vs k
    rw [gZ_cons]
    by_cases h : r = k
    · rw [if_pos h, h]
      exact valV_pos rfl
    · rw [if_neg h, ← ih]
      unfold valV
      rw [List.map_cons, List.map_cons, List.zip_cons_cons, List.find?_cons_of_neg (by simpa using h)]
theorem zip_keys (rks kv : List Int) (h : rks.length = kv.length) (nd : rks.Pairwise (· < ·)) : (((rks.map (Sum.inl (β := Str))).zip (kv.map V.int)).map (·.1)).Nodup := by
  rw [List.map_fst_zip (by rw [List.length_map, List.length_map]; omega)]
  refine List.pairwise_map.mpr (nd.imp fun {a b} q e => ?_)
  have : a = b := Sum.inl.inj e
  omega
theorem dz_list (rks kv : List Int) (h : rks.length = kv.length) (nd : rks.Pairwise (· < ·)) : mergeK [] ((rks.map (Sum.inl (β := Str))).zip (kv.map V.int)) = (rks.map (Sum.inl (β := Str))).zip (kv.map V.int) := by
  rw [merge_nd (zip_keys rks kv h nd) (fun _ _ => rfl)]
  rfl
end SR

set_option Elab.async false
set_option linter.all false
set_option maxRecDepth 100000
set_option maxHeartbeats 4000000
/-! A row that tells. -/
namespace SR
open PySem PySem.Spec PyProof.Rows L2

section
variable {P : Program} {w : World} {K : PySem.W.Frag} {mg : Str → Option Value} {base : Heap} {C C_NoRow fI : Addr}
/-- the row that is filled from the entries at ranks and a greater number behind -/
def spFewRow (C : Addr) : Sp := fun vs H Q _ => ∃ (v : V) (l : Addr) (n z start : Int) (ts : List Ent) (rks : List Int), vs = [v, .ref l, .int z, .int start] ∧ SumV C H v n ts ∧ ts.length ≤ 12 ∧ 1 ≤ n ∧ n ≤ 40 ∧ H l = some (.lst (rks.map V.int)) ∧ rks.length = ts.length ∧ rks.Pairwise (· < ·) ∧
  ∀ H' p B g f, Same H H' → Bhd ts z start (fun j => rks.getD j 0) B → NumG ts z (fun j => rks.getD j 0) B g → f ≤ z - 1 → (∀ j, j < ts.length → f ≤ vl ts j) → H p = none → H' p = some (.tup ((fillRow g f n.toNat).map V.int)) → Q (.ref p) H'
theorem seq_any {t rest : TS} {D : Ends} {σ : L2.St} {H : Hp} (R : L2.St → Hp → Prop) (hc : ∀ N : L2.St → Hp → Prop, (∀ σ1 H1, R σ1 H1 → N σ1 H1) → t { D with nx := N } σ H) (hn : ∀ σ1 H1, R σ1 H1 → rest D σ1 H1) : tSeq t rest D σ H := hc _ hn
theorem sc__row_with_few : FnScope ["tight", "ranks", "value", "start", "kept", "numbers", "behind", "entry", "rank", "number"] ["tight", "ranks", "value", "start"] (defScope s__row_with_few) := ⟨rfl, rfl, rfl, by decide +kernel, rfl, by decide +kernel, by decide +kernel⟩
set_option maxHeartbeats 16000000 in
theorem ok__row_with_few {f : Addr} {fd : FuncData} (F : Fun K "_row_with_few" "_row_with_few" s__row_with_few f fd)  (T : SumT K mg C) (DE : Pr P w K mg base C "entries" 1 (getSp C "_entries")) (m_dict : mg "dict" = none) (m_zip : mg "zip" = none) (m_max : mg "max" = none) (D_filled : Dn P w K mg base "filled" ["many", "numbers", "first"] 1 (spFilled)) (m_min : mg "min" = none) (DM : Pr P w K mg base C "many" 1 (getSp C "_many"))  : FnOk P w K mg base CX0 3 f fd ["tight", "ranks", "value", "start"] (spFewRow C) := by
  refine F.ok sc__row_with_few (fun vs H Q E h => ?_) (fun cdv A outer s H vs Q E hr h => ?_)
  · obtain ⟨v, l, n, z, start, ts, rks, rfl, _⟩ := h
    rfl
  · obtain ⟨v, l, n, z, start, ts, rks, rfl, hS, h12, n1, n40, hr0, hrl, hup, k⟩ := h
    have nd := sc__row_with_few.nd
    have hr1 : Room 1 _ := hr.mono (by decide)
    have hr2 : Room 2 _ := hr.mono (by decide)
    refine ⟨_, pss_cons (ps_setLc (i := 4) (own := [("entry", 7)]) (g := gName 7) (tt := tYes) (te := tOp (rIxT K) (tVar 7) (tC (.int 0))) rfl nd rfl rfl (sw_true rfl rfl rfl (by decide +kernel)) (pi_tup (pe_pr DE T.ic.cl hr2 (pv 0))) (blkOk_by (own := [("entry", 7)]) (N := ["tight", "ranks", "value", "start", "kept", "numbers", "behind", "entry", "rank", "number"]) (sc := defScope s__row_with_few) (by decide +kernel)) (fun _ _ _ _ _ => (pg_name (i := 7) nd rfl (Or.inl rfl))) (fun _ _ _ _ _ => pts_nil) (fun _ _ _ _ _ => (pe_ix ix_tup (pv 7) pe_int (fun _ _ => rfl))))
        (pss_cons (ps_set (i := 5) nd rfl (Or.inl rfl) (pe_dz rfl (by rfl) m_dict (by rfl) m_zip (pa_cons (pv 1) (pa_cons (pv 4) pa_nil))))
        (pss_cons (ps_set (i := 6) nd rfl (Or.inl rfl) (pe_callB (cr_max rfl) (by rfl) m_max (by decide +kernel) (pa_cons (pe_op op_cat (pe_lst (pa_cons (pv 3) pa_nil)) (pe_lock (pe_lc (own := [("rank", 8), ("number", 9)]) (g := gTup K 2 (gCons (gName 8) (gCons (gName 9) gNil))) (tt := tTest (tOp (rI0 fun i j => .bl (decide (i ≤ j))) (tVar 9) (tVar 2))) (te := tOp (rI0 fun i j => .int (i + j)) (tVar 8) (tC (.int 1))) rfl nd (pi_items (pv 5)) (blkOk_by (own := [("rank", 8), ("number", 9)]) (N := ["tight", "ranks", "value", "start", "kept", "numbers", "behind", "entry", "rank", "number"]) (sc := defScope s__row_with_few) (by decide +kernel)) (fun _ _ _ _ _ => (pg_tup rfl (pgs_cons (pg_name (i := 8) nd rfl (Or.inl rfl)) (pgs_cons (pg_name (i := 9) nd rfl (Or.inl rfl)) pgs_nil)))) (fun _ _ _ _ _ => (pts_one (pt_cmpR op_le (pv 9) (pv 2) (nomark _)))) (fun _ _ _ _ _ => (pe_op op_add (pv 8) pe_int))))) pa_nil)))
        (pss_cons (ps_expr (pe_dsetd (pv 5) (pv 6) (pe_op op_add (pv 2) pe_int) ⟨rfl, rfl, rfl, rfl⟩))
        (pss_one (ps_ret (pe_dn D_filled hr1 (pa_cons (pe_pr DM T.ic.cl hr2 (pv 0)) (pa_cons (pv 5) (pa_cons (pe_callB (cr_min rfl) (by rfl) m_min (by decide +kernel) (pa_cons (pe_op op_cat (pe_lst (pa_cons (pe_op op_sub (pv 2) pe_int) pa_nil)) (pv 4)) pa_nil)) pa_nil))))))))), ?_⟩
    obtain ⟨p, dx, u, rfl, hp, a, vs, rfl, ha, he⟩ := hS
    have hl : vs.length = ts.length := he.len
    -- the values
    refine ⟨_, rfl, p, dx, _, rfl, hp, p, dx, _, _, rfl, hp, sfl_entries _ _, a, rfl, ⟨_, SqT.of ha⟩, fun D nD => ?_⟩
    refine lc_tup (K := K) (a := a) (xs := vs) (fun i H' => H' D = some (.lst (((ts.take i).map (·.1)).map V.int)) ∧ Same H H') ⟨upd_same, Same_new nD⟩ (fun i H' _ ⟨_, s5⟩ => SqT.of (s5 _ _ ha)) ?_ ?_
    · rintro i x H' hx ⟨hD, s5⟩
      obtain ⟨e, hei, t, rfl, ht⟩ := pr_at' he hx
      have hil : i < ts.length := (List.getElem?_eq_some_iff.mp hei).1
      refine ⟨rfl, tyes_of ?_⟩
      rw [if_pos rfl]
      refine ⟨_, rfl, t, _, _, _, rfl, rfl, SqT.of (s5 _ _ ht), rfl, _, hD, ?_, ?_, Same_mut s5 nD⟩
      · rw [List.length_map, List.length_map, List.length_take]
        exact small1000 (by omega)
      · rw [upd_same, List.take_add_one, hei, List.map_append, List.map_append]
        rfl
    rintro H1 ⟨hD, s1⟩
    rw [hl, List.take_length] at hD
    obtain ⟨kv, ekv⟩ : ∃ kv, kv = ts.map (·.1) := ⟨_, rfl⟩
    rw [← ekv] at hD
    have lkv : kv.length = ts.length := by rw [ekv, List.length_map]
    have hr1 := s1 _ _ hr0
    -- the dict
    refine ⟨_, rfl, _, rfl, l, D, rks, kv.map V.int, rfl, SqL.of hr1, SqL.of hD, by rw [List.length_map]; omega, fun d nd2 => ?_⟩
    have lrk : rks.length = kv.length := by omega
    rw [dz_list rks kv lrk hup]
    obtain ⟨kvs, ekvs⟩ : ∃ kvs, kvs = (rks.map (Sum.inl (β := Str))).zip (kv.map V.int) := ⟨_, rfl⟩
    have hval : ∀ k : Int, valV kvs (Sum.inl k) = (gZ rks kv k).map V.int := fun k => by rw [ekvs]; exact valV_zip rks kv k
    have lkvs : kvs.length = ts.length := by rw [ekvs, List.length_zip, List.length_map, List.length_map]; omega
    have akvs : ∀ (i : Nat) (k : Key) (v : V), kvs[i]? = some (k, v) → ∃ r x : Int, (rks.zip kv)[i]? = some (r, x) ∧ k = Sum.inl r ∧ v = .int x := by
      intro i k v h
      rw [ekvs] at h
      obtain ⟨h1, h2⟩ := List.getElem?_zip_eq_some.mp h
      rw [List.getElem?_map] at h1 h2
      cases e1 : rks[i]? with
      | none => rw [e1] at h1; cases h1
      | some r =>
        cases e2 : kv[i]? with
        | none => rw [e2] at h2; cases h2
        | some x =>
          rw [e1] at h1
          rw [e2] at h2
          exact ⟨r, x, List.getElem?_zip_eq_some.mpr ⟨e1, e2⟩, (Option.some.inj h1).symm, (Option.some.inj h2).symm⟩
    rw [← ekvs]
    have s2 : Same H1 (upd H1 d (.dK kvs)) := Same_new nd2
    have hd2 : upd H1 d (.dK kvs) d = some (.dK kvs) := upd_same
    obtain ⟨H2, e2⟩ : ∃ H2, H2 = upd H1 d (.dK kvs) := ⟨_, rfl⟩
    rw [← e2] at s2 hd2 ⊢
    clear e2
    -- behind
    dsimp only [gName]
    refine ⟨_, rfl, (by show 1 ≤ sizeLine; decide), fun z1 nz1 => ?_⟩
    have s3 := Same_new (o := .lst [.int start]) nz1
    have hd3 := s3 _ _ hd2
    have hz3 := show upd H2 z1 (.lst [.int start]) z1 = some (.lst [.int start]) from upd_same
    obtain ⟨H3, e3⟩ : ∃ H3, H3 = upd H2 z1 (.lst [.int start]) := ⟨_, rfl⟩
    rw [← e3] at s3 hd3 hz3 ⊢
    clear e3
    refine ⟨d, .dK kvs, hd3, ?_, fun od => ?_⟩
    · exact True.intro
    have hf3 : upd H3 d (.frz od (.dK kvs)) d = some (.frz od (.dK kvs)) := upd_same
    obtain ⟨H4, e4⟩ : ∃ H4, H4 = upd H3 d (.frz od (.dK kvs)) := ⟨_, rfl⟩
    have h34 : ∀ b o, H3 b = some o → b ≠ d → H4 b = some o := fun b o e n => by rw [e4, upd_ne n]; exact e
    rw [← e4] at hf3 ⊢
    obtain ⟨prs, eprs⟩ : ∃ prs, prs = rks.zip kv := ⟨_, rfl⟩
    have lprs : prs.length = ts.length := by rw [eprs, List.length_zip]; omega
    refine ⟨_, rfl, d, od, kvs, rfl, hf3, fun G nG => ?_⟩
    refine lc_items (o := od) (kvs := kvs) (fun i H' => H' G = some (.lst ((((prs.take i).filter fun x => decide (x.2 ≤ z)).map fun x => x.1 + 1).map V.int)) ∧ Same H4 H') ⟨upd_same, Same_new nG⟩ (fun i H' _ ⟨_, s5⟩ => s5 _ _ hf3) ?_ ?_
    · rintro i k0 v0 t H' hx ⟨hG, s5⟩ nt
      obtain ⟨r, x, hrx, rfl, rfl⟩ := akvs i k0 v0 hx
      rw [← eprs] at hrx
      have st := Same_new (o := .tup [.int r, .int x]) nt
      have hG2 := st _ _ hG
      have et : (prs.take (i + 1)).filter (fun x => decide (x.2 ≤ z)) = (prs.take i).filter (fun x => decide (x.2 ≤ z)) ++ [(r, x)].filter (fun x => decide (x.2 ≤ z)) := by
        rw [List.take_add_one, hrx, List.filter_append]; rfl
      refine ⟨t, _, rfl, SqT.of upd_same, rfl, _, _, rfl, _, _, rfl, rfl, rfl, ?_⟩
      refine ⟨_, rfl, _, rfl, _, _, rfl, rfl, _, rfl, ite2 (fun c => ?_) (fun c => ?_)⟩
      · refine ⟨_, rfl, _, _, rfl, rfl, _, hG2, ?_, ?_, Same_mut (s5.trans st) nG⟩
        · rw [List.length_map, List.length_map]
          have := List.length_filter_le (fun x : Int × Int => decide (x.2 ≤ z)) (prs.take i)
          rw [List.length_take] at this
          exact small1000 (by omega)
        · rw [upd_same, et, List.filter_cons_of_pos (p := fun x : Int × Int => decide (x.2 ≤ z)) c, List.map_append, List.map_append]
          rfl
      · refine ⟨?_, s5.trans st⟩
        rw [et, List.filter_cons_of_neg (p := fun x : Int × Int => decide (x.2 ≤ z)) c, List.filter_nil, List.append_nil]
        exact hG2
    rintro H5 ⟨hG, s5⟩
    rw [List.take_of_length_le (by omega)] at hG
    refine ⟨s5 _ _ hf3, ?_⟩
    have gd : G ≠ d := fun e => by rw [e, hf3] at nG; cases nG
    obtain ⟨H6, e6⟩ : ∃ H6, H6 = upd H5 d (.dK kvs) := ⟨_, rfl⟩
    have hd6 : H6 d = some (.dK kvs) := by rw [e6]; exact upd_same
    have hG6 : H6 G = some (.lst ((bhL rks kv z).map V.int)) := by
      rw [e6, upd_ne gd, hG, eprs]; rfl
    have s36 : Same H3 H6 := fun b o e => by
      by_cases c : b = d
      · rw [c] at e ⊢
        rw [hd3] at e
        rw [hd6]; exact e
      · rw [e6, upd_ne c]
        exact s5 _ _ (h34 b o e c)
    rw [← e6]
    have hz6 := s36 _ _ hz3
    have lbh : (bhL rks kv z).length ≤ 12 := by
      unfold bhL
      rw [List.length_map]
      have := List.length_filter_le (fun x : Int × Int => decide (x.2 ≤ z)) (rks.zip kv)
      rw [List.length_zip] at this
      omega
    refine ⟨z1, G, [.int start], (bhL rks kv z).map V.int, rfl, rfl, hz6, hG6, ?_, fun L nL => ?_⟩
    · rw [List.length_map]
      exact Nat.le_of_lt (small1000 (by simp; omega))
    have s7 := Same_new (o := .lst ([.int start] ++ (bhL rks kv z).map V.int)) nL
    have hd7 := s7 _ _ hd6
    refine ⟨L, start :: bhL rks kv z, rfl, SqL.of upd_same, by simp, fun B hB hle => ?_⟩
    have hBh : Bhd ts z start (fun j => rks.getD j 0) B := bhd_of hrl (by rw [← ekv]; exact hB) (by rw [← ekv]; exact hle)
    have hNum := num_of (B := B) (z := z) hup hrl
    rw [← ekv] at hNum
    have s17 : Same H1 (upd H6 L (.lst ([.int start] ++ (bhL rks kv z).map V.int))) := ((s2.trans s3).trans s36).trans s7
    obtain ⟨H7, e7⟩ : ∃ H7, H7 = upd H6 L (.lst ([.int start] ++ (bhL rks kv z).map V.int)) := ⟨_, rfl⟩
    rw [← e7] at hd7 s17 ⊢
    clear e7
    dsimp only [gName]
    refine seq_any (fun σ H8 => ∃ kvs', σ = [some (.ref p), some (.ref l), some (.int z), some (.int start), some (.ref D), some (.ref d), some (.int B), none, none, none] ∧ Same H1 H8 ∧ H8 d = some (.dK kvs') ∧
      ∀ k : Int, valV kvs' (Sum.inl k) = ((gZ rks kv k).or (if k = B then some (z + 1) else none)).map V.int) (fun N hN => ?_) ?_
    · refine ⟨_, rfl, d, rfl, .inl ⟨kvs, .inl hd7⟩, _, rfl, _, rfl, _, _, rfl, rfl, kvs, Sum.inl B, hd7, rfl, ?_, fun v hv => ?_, fun hn => ?_⟩
      · exact small1000 (by omega)
      · refine hN _ _ ⟨kvs, rfl, s17, hd7, fun k => ?_⟩
        rw [hval k]
        have hB' := hval B
        rw [hv] at hB'
        cases e : gZ rks kv k with
        | some b => rfl
        | none =>
          have kB : k ≠ B := fun q => by rw [q] at e; rw [e] at hB'; cases hB'
          rw [if_neg kB]
          rfl
      · refine hN _ _ ⟨putK kvs (Sum.inl B) (.int (z + 1)), rfl, Same_mut s17 nd2, upd_same, fun k => ?_⟩
        have hB' := hval B
        rw [hn] at hB'
        rw [valV_put, hval k]
        by_cases q : k = B
        · rw [if_pos (by rw [q]), q]
          cases e : gZ rks kv B with
          | some b => rw [e] at hB'; cases hB'
          | none => rw [if_pos rfl]; rfl
        · rw [if_neg (fun e => q (Sum.inl.inj e)), if_neg q, Option.or_none]
    rintro σ H8 ⟨kvs', rfl, s8, hd8, hv8⟩
    have hp8 := s8 _ _ (s1 _ _ hp)
    have hD8 := s8 _ _ hD
    refine ⟨_, rfl, p, dx, _, rfl, hp8, p, dx, _, _, rfl, hp8, sfl_many _ _, _, rfl, _, rfl, _, _, rfl, rfl, (by show 1 ≤ sizeLine; decide), fun z2 nz2 => ?_⟩
    have s9 := Same_new (o := .lst [.int (z - 1)]) nz2
    have hD9 := s9 _ _ hD8
    refine ⟨_, rfl, z2, D, [.int (z - 1)], kv.map V.int, rfl, rfl, upd_same, hD9, ?_, fun L2 nL2 => ?_⟩
    · rw [List.length_map]
      exact Nat.le_of_lt (small1000 (by simp; omega))
    have s10 := Same_new2 (o := .lst ([.int (z - 1)] ++ kv.map V.int)) s9 nL2
    refine ⟨L2, (z - 1) :: kv, rfl, SqL.of upd_same, by simp, fun f hf hfle => ?_⟩
    refine ⟨n, f, d, kvs', _, rfl, by omega, n40, s10 _ _ hd8, hv8, fun H' x s11 nx hx => ?_⟩
    have sA := (s1.trans (s8.trans s10)).trans s11
    refine k H' x B _ f sA hBh hNum (hfle _ (List.mem_cons_self ..)) (fun j hj => hfle _ (List.mem_cons_of_mem _ ?_)) ((s1.trans (s8.trans s10)).free nx) hx
    rw [ekv]
    exact List.mem_map.mpr ⟨_, List.mem_of_getElem? (ent_at hj), rfl⟩
-- @prem _row_with_few _row_with_few  : T DE m_dict m_zip m_max D_filled m_min DM
end
end SR

set_option Elab.async false
set_option linter.all false
set_option maxRecDepth 100000
set_option maxHeartbeats 4000000
/-! The rows that tell. -/
namespace SR
open PySem PySem.Spec PyProof.Rows L2

section
variable {P : Program} {w : World} {K : PySem.W.Frag} {mg : Str → Option Value} {base : Heap} {C C_NoRow fI : Addr}
/-- what the rows are -/
structure Telling (n : Int) (es es2 : List Ent) (Rs : List (List Int)) : Prop where
  ok : ∀ R ∈ Rs, (R.length : Int) = n ∧ R.Pairwise (· ≤ ·) ∧ Lvs R es
  ne : Rs ≠ []
  all : ∀ j, j < es2.length → ∀ start, 1 ≤ start → start ≤ n → RkFit (tightL n es) (vl es2 j) start → ∃ R ∈ Rs, TellR n (tightL n es) (vl es2 j) start R
/-- the list of rows at q, so far -/
structure RowsQ (n : Int) (es : List Ent) (q : Addr) (m : Nat) (T : Int → Int → Prop) (H0 H' : Hp) : Prop where
  rows : ∃ us Rs, H' q = some (.lst us) ∧ WaysV H' us Rs ∧ (∀ R ∈ Rs, (R.length : Int) = n ∧ R.Pairwise (· ≤ ·) ∧ Lvs R es) ∧ Rs ≠ [] ∧ Rs.length ≤ m ∧ ∀ w start, T w start → RkFit (tightL n es) w start → ∃ R ∈ Rs, TellR n (tightL n es) w start R
  keep : ∀ b o, H0 b = some o → b ≠ q → H' b = some o
theorem RowsQ.weak {n : Int} {es : List Ent} {q : Addr} {m m' : Nat} {T T' : Int → Int → Prop} {H0 H' H2 : Hp} (h : RowsQ n es q m T H0 H') (s : Same H' H2) (hm : m ≤ m') (hT : ∀ w st, T' w st → RkFit (tightL n es) w st → T w st) : RowsQ n es q m' T' H0 H2 := by
  obtain ⟨us, Rs, a, b, c, d, e, f⟩ := h.rows
  exact ⟨⟨us, Rs, s _ _ a, Paired.mapP b fun _ _ ⟨t, e1, e2⟩ => ⟨t, e1, s _ _ e2⟩, c, d, Nat.le_trans e hm, fun w st t fit => f w st (hT w st t fit) fit⟩, fun x o e n => s _ _ (h.keep x o e n)⟩
def spTell (C : Addr) : Sp := fun vs H Q _ => ∃ (v u : V) (n n2 : Int) (es es2 : List Ent), vs = [v, u] ∧ SumV C H v n (tightL n es) ∧ Valid n es ∧ Fits n es ∧ n ≤ 40 ∧ SumV C H u n2 es2 ∧ es2.length ≤ 12 ∧
  ∀ H' p us Rs, Same H H' → H p = none → H' p = some (.lst us) → WaysV H' us Rs → Telling n es es2 Rs → Q (.ref p) H'
theorem sc__telling_rows : FnScope ["tight", "other", "rows", "value", "start", "ranks", "kept", "_"] ["tight", "other"] (defScope s__telling_rows) := ⟨rfl, rfl, rfl, by decide +kernel, rfl, by decide +kernel, by decide +kernel⟩
set_option maxHeartbeats 16000000 in
theorem ok__telling_rows {f : Addr} {fd : FuncData} (F : Fun K "_telling_rows" "_telling_rows" s__telling_rows f fd)  (D_row_for : DnX P w K mg base "row_for" ["summary"] 11 (spRowFor C C_NoRow)) (m_sorted : mg "sorted" = none) (T : SumT K mg C) (DE : Pr P w K mg base C "entries" 1 (getSp C "_entries")) (m_range : mg "range" = none) (DM : Pr P w K mg base C "many" 1 (getSp C "_many")) (D__first_ranks : Dn P w K mg base "_first_ranks" ["tight", "value", "start"] 3 (spFirstRk C)) (D__row_with_few : Dn P w K mg base "_row_with_few" ["tight", "ranks", "value", "start"] 3 (spFewRow C))  : FnOk P w K mg base CX0 12 f fd ["tight", "other"] (spTell C) := by
  refine F.ok sc__telling_rows (fun vs H Q E h => ?_) (fun cdv A outer s H vs Q E hr h => ?_)
  · obtain ⟨v, u, n, n2, es, es2, rfl, _⟩ := h
    rfl
  · obtain ⟨v, u, n, n2, es, es2, rfl, hS, hv, hF, n40, hS2, h12, k⟩ := h
    have nd := sc__telling_rows.nd
    have hr2 : Room 2 _ := hr.mono (by decide)
    have hr3 : Room 3 _ := hr.mono (by decide)
    have hr11 : Room 11 _ := hr.mono (by decide)
    refine ⟨_, pss_cons (ps_set (i := 2) nd rfl (Or.inl rfl) (pe_lst (pa_cons (pe_dn0 D_row_for hr11 (pa_cons (pv 0) pa_nil)) pa_nil)))
        (pss_cons (ps_for PassesOwn.never rfl (pi_list (pe_callB (cr_sortedSet rfl) (by rfl) m_sorted (by decide +kernel) (pa_cons (pe_scI (own := [("kept", 6), ("_", 7)]) (g := gTup K 3 (gCons (gName 6) (gCons (gName 7) (gCons (gName 7) gNil)))) (tt := tYes) (te := tVar 6) rfl nd (pi_tup (pe_pr DE T.ic.cl hr2 (pv 1))) (blkOk_by (own := [("kept", 6), ("_", 7)]) (N := ["tight", "other", "rows", "value", "start", "ranks", "kept", "_"]) (sc := defScope s__telling_rows) (by decide +kernel)) (fun _ _ _ _ _ => (pg_tup rfl (pgs_cons (pg_name (i := 6) nd rfl (Or.inl rfl)) (pgs_cons (pg_name (i := 7) nd rfl (Or.inl rfl)) (pgs_cons (pg_name (i := 7) nd rfl (Or.inl rfl)) pgs_nil))))) (fun _ _ _ _ _ => pts_nil) (fun _ _ _ _ _ => (pv 6))) pa_nil))) (pg_name (i := 3) nd rfl (Or.inl rfl))
        (pss_one (ps_for PassesOwn.never rfl (pi_range2 (by rfl) m_range (pa_cons pe_int (pa_cons (pe_op op_add (pe_pr DM T.ic.cl hr2 (pv 0)) pe_int) pa_nil))) (pg_name (i := 4) nd rfl (Or.inl rfl))
        (pss_cons (ps_set (i := 5) nd rfl (Or.inl rfl) (pe_dn D__first_ranks hr3 (pa_cons (pv 0) (pa_cons (pv 3) (pa_cons (pv 4) pa_nil)))))
        (pss_one (ps_if (pt_cmp (pc_notN (pv 5))) (pss_one (ps_expr (pe_bm PySem.F.plainAttrs_list PySem.F.slot_list_append PySem.F.type_list_append mt_append (pv 2) (pa_cons (pe_dn D__row_with_few hr3 (pa_cons (pv 0) (pa_cons (pv 5) (pa_cons (pv 3) (pa_cons (pv 4) pa_nil))))) pa_nil)))) pss_nil))))))
        (pss_one (ps_ret (pv 2)))), ?_⟩
    refine ⟨_, rfl, v, n, tightL n es, rfl, hS, hv.tight hF, n40, fun hf => absurd (fits_tt hF) hf, fun _ H1 p0 row s1 np hp0 hl has hlv => ⟨(by show 1 ≤ sizeLine; decide), fun q nq => ?_⟩⟩
    have sq := Same_new (o := .lst [.ref p0]) nq
    obtain ⟨px, dx, ux, rfl, hpx, hux⟩ := id hS
    obtain ⟨p2, dx2, u2, rfl, hp2, a2, vs2, rfl, ha2, he2⟩ := id hS2
    have l2 : vs2.length = es2.length := he2.len
    have s1q := s1.trans sq
    have hq0 := show upd H1 q (.lst [.ref p0]) q = some (.lst [.ref p0]) from upd_same
    have nqH : H q = none := s1.free nq
    have hp0q := sq _ _ hp0
    obtain ⟨Ha, ea⟩ : ∃ Ha, Ha = upd H1 q (.lst [.ref p0]) := ⟨_, rfl⟩
    rw [← ea] at hq0 s1q hp0q ⊢
    clear ea sq
    dsimp only [gName]
    -- the set of values
    refine ⟨_, rfl, p2, dx2, _, rfl, s1q _ _ hp2, p2, dx2, _, _, rfl, s1q _ _ hp2, sfl_entries _ _, a2, rfl, ⟨_, SqT.of (s1q _ _ ha2)⟩, fun D nD => ?_⟩
    refine sc_tupI (a := a2) (xs := vs2) (fun i H' => ∃ (S : Int → Bool) (m : Nat), H' D = some (SetO w D S m) ∧ m ≤ i ∧ (∀ x, S x = true ↔ ∃ j, j < i ∧ vl es2 j = x) ∧ Same Ha H') ⟨NoI, 0, upd_same, Nat.le_refl _, fun x => ⟨fun h => Bool.noConfusion h, fun ⟨j, hj, _⟩ => absurd hj (Nat.not_lt_zero j)⟩, Same_new nD⟩
      (fun i H' _ ⟨_, _, _, _, _, s5⟩ => SqT.of (s5 _ _ (s1q _ _ ha2))) ?_ ?_
    · rintro i x H' hx ⟨S, m, hD, hm, hSm, s5⟩
      obtain ⟨e, hei, t, rfl, ht⟩ := pr_at' he2 hx
      have ht' := s5 _ _ (s1q _ _ ht)
      have hil : i < es2.length := (List.getElem?_eq_some_iff.mp hei).1
      refine ⟨t, _, rfl, SqT.of ht', rfl, _, _, rfl, _, _, rfl, _, _, rfl, rfl, rfl, tyes_of ?_⟩
      rw [if_pos rfl]
      refine ⟨_, rfl, D, e.1, S, m, rfl, rfl, hD, ?_, fun j => S j || decide (j = e.1), _, upd_same, ?_, fun y => ?_, Same_mut s5 nD⟩
      · exact Nat.lt_of_lt_of_le (show m + 1 < 64 by omega) (by decide)
      · split <;> omega
      · dsimp only
        rw [Bool.or_eq_true, decide_eq_true_eq, hSm y]
        constructor
        · rintro (⟨j, hj, h⟩ | h)
          · exact ⟨j, by omega, h⟩
          · exact ⟨i, by omega, by rw [vl_of hei, h]⟩
        · rintro ⟨j, hj, h⟩
          by_cases c : j = i
          · exact .inr (by rw [← h, c, vl_of hei])
          · exact .inl ⟨j, by omega, h⟩
    rintro Hb ⟨S, m, hD, hm, hSm, sb⟩
    rw [l2] at hm hSm
    refine ⟨D, S, m, rfl, hD, by omega, fun ns L hasc hmem hlen nL => ?_⟩
    have sL := Same_new (o := .lst (ns.map V.int)) nL
    have hL := show upd Hb L (.lst (ns.map V.int)) L = some (.lst (ns.map V.int)) from upd_same
    have hq1 := sL _ _ (sb _ _ hq0)
    have hp01 := sL _ _ (sb _ _ hp0q)
    have sHc := (s1q.trans sb).trans sL
    obtain ⟨Hc, ec⟩ : ∃ Hc, Hc = upd Hb L (.lst (ns.map V.int)) := ⟨_, rfl⟩
    rw [← ec] at hL hq1 hp01 sHc ⊢
    have lq : L ≠ q := fun e => by rw [e] at nL; rw [sb _ _ hq0] at nL; cases nL
    clear ec sL
    refine ⟨L, rfl, ⟨_, SqL.of hL⟩, ?_⟩
    refine for_list (K := K) (a := L) (xs := ns.map V.int) (fun i σ H' => ∃ (y3 y4 y5 : Option V), σ = [some (.ref px), some (.ref p2), some (.ref q), y3, y4, y5, none, none] ∧ RowsQ n es q (1 + i * 40) (fun w st => ∃ j, j < i ∧ ns[j]? = some w ∧ 1 ≤ st ∧ st ≤ n) Hc H') ?_ ?_ ?_ ?_
    · refine ⟨none, none, none, rfl, ⟨[.ref p0], [row], hq1, .cons ⟨p0, rfl, hp01⟩ .nil, fun R hR => ?_, by simp, by simp, fun w st ⟨j, hj, _⟩ => absurd hj (Nat.not_lt_zero j)⟩, fun b o e _ => e⟩
      rw [List.mem_singleton.mp hR]
      exact ⟨hl, has, lvs_tt hlv⟩
    · rintro i σ H' _ ⟨y3, y4, y5, rfl, hR⟩
      exact SqL.of (hR.keep _ _ hL lq)
    · rintro i x σ H' hx ⟨y3, y4, y5, rfl, hR⟩
      obtain ⟨w0, hw0, rfl⟩ : ∃ w0, ns[i]? = some w0 ∧ x = .int w0 := by
        rw [List.getElem?_map] at hx
        cases e : ns[i]? with
        | none => rw [e] at hx; cases hx
        | some z => rw [e] at hx; exact ⟨z, rfl, (Option.some.inj hx).symm⟩
      have hil : i < 12 := by
        have := (List.getElem?_eq_some_iff.mp hw0).1
        omega
      have keepT : ∀ {G : Hp} {T : Int → Int → Prop} {m : Nat}, RowsQ n es q m T Hc G → SumV C G (.ref px) n (tightL n es) := fun {G T m} h => by
        obtain ⟨at', vt, e1, hat, het⟩ := hux
        have nq' : ∀ {b : Addr} {o : HO}, H b = some o → (∀ xs, o ≠ .lst xs) → G b = some o := fun {b o} e hn => h.keep b o (sHc _ _ e) (ne_of (sHc _ _ e) hq1 (hn _))
        exact ⟨px, dx, ux, rfl, nq' hpx (fun _ z => nomatch z), at', vt, e1, nq' hat (fun _ z => nomatch z), Paired.mapP het fun _ _ ⟨t, ev, et⟩ => ⟨t, ev, nq' et (fun _ z => nomatch z)⟩⟩
      have hSn := keepT hR
      obtain ⟨px', dx', ux', e', hpx', hux'⟩ := id hSn
      cases e'
      dsimp only [gName]
      refine ⟨_, rfl, px, dx', _, rfl, hpx', px, dx', _, _, rfl, hpx', sfl_many _ _, _, _, rfl, rfl, _, _, rfl, ⟨by omega, by omega, by omega, by omega⟩, ?_⟩
      refine for_range (lo := 1) (n := (n + 1 - 1).toNat) (fun j σ H2 => ∃ (y4 y5 : Option V), σ = [some (.ref px), some (.ref p2), some (.ref q), some (.int w0), y4, y5, none, none] ∧ RowsQ n es q (1 + i * 40 + j) (fun w st => (∃ j, j < i ∧ ns[j]? = some w ∧ 1 ≤ st ∧ st ≤ n) ∨ (w = w0 ∧ 1 ≤ st ∧ st < 1 + j)) Hc H2)
        ⟨y4, y5, rfl, hR.weak (Same.refl H') (Nat.le_refl _) fun w st t _ => t.elim id fun ⟨_, a, b⟩ => by omega⟩ ?_ ?_
      · rintro j σ H2 hj ⟨y4, y5, rfl, hR2⟩
        have hS2' := keepT hR2
        have lt := tight_len n es
        have le := hv.len
        have next : ∀ {G : Hp}, Same H2 G → ¬ RkFit (tightL n es) w0 (1 + j) → RowsQ n es q (1 + i * 40 + (j + 1)) (fun w st => (∃ j, j < i ∧ ns[j]? = some w ∧ 1 ≤ st ∧ st ≤ n) ∨ (w = w0 ∧ 1 ≤ st ∧ st < 1 + ((j + 1 : Nat) : Int))) Hc G := fun {G} s nf => hR2.weak s (by omega) fun w st t fit => by
          rcases t with t | ⟨rfl, a, b⟩
          · exact .inl t
          · by_cases c : st = 1 + j
            · rw [c] at fit; exact absurd fit nf
            · exact .inr ⟨rfl, a, by omega⟩
        refine ⟨_, rfl, _, rfl, _, rfl, .ref px, n, w0, 1 + j, tightL n es, rfl, hS2', by omega, fun hno G sG => ?_, fun fit G lr sG nG hlr => ?_⟩
        · refine ⟨_, rfl, false, rfl, iteF ?_⟩
          obtain ⟨x, hx1, hx2⟩ := hno
          exact ⟨_, _, rfl, next sG fun f => by have := f x hx1; omega⟩
        · refine ⟨_, rfl, true, rfl, iteT ?_⟩
          have hRG := hR2.weak (T' := fun w st => (∃ j, j < i ∧ ns[j]? = some w ∧ 1 ≤ st ∧ st ≤ n) ∨ (w = w0 ∧ 1 ≤ st ∧ st < 1 + (j : Int))) sG (Nat.le_refl _) fun w st t _ => t
          have hSG := keepT hRG
          have up : (rkL (tightL n es) w0 (1 + j) (tightL n es).length).Pairwise (· < ·) := by
            unfold rkL
            rw [List.pairwise_map]
            exact List.pairwise_lt_range.imp fun h => rkN_up _ _ _ _ (by omega)
          obtain ⟨us, Rs, a1, b1, c1, d1, e1, f1⟩ := hRG.rows
          refine ⟨_, rfl, .inl ⟨rfl, _, SqL.of a1⟩, _, rfl, _, rfl, _, rfl, _, rfl, .ref px, lr, n, w0, 1 + j, tightL n es, _, rfl, hSG, by omega, hv.n1, n40, hlr, rkL_len .., up, fun G2 p3 B g f sG2 hB hN hf1 hf2 np3 hp3 => ?_⟩
          have a2 := sG2 _ _ a1
          have TR : TellR n (tightL n es) w0 (1 + j) (fillRow g f n.toNat) := ⟨B, g, f, hB, hN, hf1, hf2, rfl⟩
          have lus : us.length = Rs.length := Paired.length b1
          refine ⟨q, us, _, rfl, rfl, a2, small1000 (by omega), _, _, rfl, ⟨us ++ [.ref p3], Rs ++ [fillRow g f n.toNat], upd_same, ?_, fun R hR => ?_, by simp, ?_, fun w st t fit' => ?_⟩, fun b o e ne => ?_⟩
          · refine pr_app (Paired.mapP b1 fun v w' ⟨t2, ev, et2⟩ => ⟨t2, ev, ?_⟩) (.cons ⟨p3, rfl, ?_⟩ .nil)
            · rw [upd_ne (ne_of (sG2 _ _ et2) a2 (by intro z; cases z))]; exact sG2 _ _ et2
            · rw [upd_ne (ne_of hp3 a2 (by intro z; cases z))]; exact hp3
          · rcases List.mem_append.mp hR with h | h
            · exact c1 R h
            · rw [List.mem_singleton.mp h]
              exact tell_sound hv fit TR
          · rw [List.length_append, List.length_singleton]; omega
          · by_cases c : w = w0 ∧ st = 1 + j
            · exact ⟨_, List.mem_append_right _ (List.mem_singleton.mpr rfl), by rw [c.1, c.2]; exact TR⟩
            · obtain ⟨R, hR, tR⟩ := f1 w st (t.elim .inl fun ⟨h1, h2, h3⟩ => .inr ⟨h1, h2, by
                have : st ≠ 1 + j := fun z => c ⟨h1, z⟩
                omega⟩) fit'
              exact ⟨R, List.mem_append_left _ hR, tR⟩
          · rw [upd_ne ne]
            exact sG2 _ _ (hRG.keep b o e ne)
      · rintro σ H2 ⟨y4, y5, rfl, hR2⟩
        refine ⟨_, y4, y5, rfl, hR2.weak (Same.refl H2) (by omega) fun w st t _ => ?_⟩
        obtain ⟨j, hj, h1, h2, h3⟩ := t
        by_cases c : j = i
        · rw [c, hw0] at h1
          exact .inr ⟨(Option.some.inj h1).symm, h2, by omega⟩
        · exact .inl ⟨j, by omega, h1, h2, h3⟩
    · rintro σ H' ⟨y3, y4, y5, rfl, hR⟩
      obtain ⟨us, Rs, a, b, c, d, e, f⟩ := hR.rows
      refine ⟨_, rfl, k H' q us Rs ?_ nqH a b ⟨c, d, fun j hj st h1 h2 fit => ?_⟩⟩
      · exact fun b o e => hR.keep b o (sHc _ _ e) (ne_of_none e nqH)
      · have hm2 : vl es2 j ∈ ns := (hmem _).mpr ((hSm _).mpr ⟨j, hj, rfl⟩)
        obtain ⟨i, hi⟩ := List.mem_iff_getElem?.mp hm2
        refine f _ _ ⟨i, ?_, hi, h1, h2⟩ fit
        rw [List.length_map]
        exact (List.getElem?_eq_some_iff.mp hi).1
-- @prem _telling_rows _telling_rows  : D_row_for m_sorted T DE m_range DM D__first_ranks D__row_with_few
end
end SR

set_option Elab.async false
set_option linter.all false
set_option maxRecDepth 100000
set_option maxHeartbeats 4000000
/-! lacking_row, within. -/
namespace SR
open PySem PySem.Spec PyProof.Rows L2

section
variable {P : Program} {w : World} {K : PySem.W.Frag} {mg : Str → Option Value} {base : Heap} {C C_NoRow fI : Addr}
def spLack (C N : Addr) : Sp := fun vs H Q E => ∃ (v u : V) (n n2 : Int) (es es2 : List Ent), vs = [v, u] ∧ SumV C H v n es ∧ Valid n es ∧ SumV C H u n2 es2 ∧ Valid n2 es2 ∧ n ≤ 40 ∧ (¬ Fits n es → ∀ H', Same H H' → E (.ref N) none H') ∧
  (Fits n es → (∀ H' p R, Same H H' → H' p = some (.tup (R.map V.int)) → (R.length : Int) = n → R.Pairwise (· ≤ ·) → Lvs R es → ¬ (n = n2 ∧ Lvs R es2) → Q (.ref p) H') ∧
    (∀ H', Same H H' → (∀ s : List Int, s.Pairwise (· ≤ ·) → (s.length : Int) = n → Lvs s es → n = n2 ∧ Lvs s es2) → Q .non H'))
theorem sc_lacking_row : FnScope ["one", "other", "tight", "row"] ["one", "other"] (defScope s_lacking_row) := ⟨rfl, rfl, rfl, by decide +kernel, rfl, by decide +kernel, by decide +kernel⟩
theorem ok_lacking_row {f : Addr} {fd : FuncData} (F : Fun K "lacking_row" "lacking_row" s_lacking_row f fd)  (D_check_summary : Dn P w K mg base "check_summary" ["summary"] 1 (spCkSum C)) (D_surely_short : DnX P w K mg base "surely_short" ["summary"] 10 (spShort C C_NoRow)) (D__telling_rows : Dn P w K mg base "_telling_rows" ["tight", "other"] 12 (spTell C)) (D_leaves : Dn P w K mg base "leaves" ["row", "summary"] 4 (spLeavesP C))  : FnOk P w K mg base (L2N.CX P w) 13 f fd ["one", "other"] (spLack C C_NoRow) := by
  refine F.okXN sc_lacking_row (fun vs H Q E h => ?_) (fun cdv A outer s H vs Q E hr h => ?_)
  · obtain ⟨v, u, n, n2, es, es2, rfl, _⟩ := h
    rfl
  · obtain ⟨v, u, n, n2, es, es2, rfl, hS, hv, hS2, hv2, n40, kE, kF⟩ := h
    have nd := sc_lacking_row.nd
    have hr1 : Room 1 _ := hr.mono (by decide)
    have hr4 : Room 4 _ := hr.mono (by decide)
    have hr10 : Room 10 _ := hr.mono (by decide)
    have hr12 : Room 12 _ := hr.mono (by decide)
    refine ⟨_, pss_cons (ps_expr (pe_dn D_check_summary hr1 (pa_cons (pv 0) pa_nil)))
        (pss_cons (ps_expr (pe_dn D_check_summary hr1 (pa_cons (pv 1) pa_nil)))
        (pss_cons (ps_set (i := 2) nd rfl (Or.inl rfl) (pe_dnX (W := fun cls d _ H => E cls d H) D_surely_short hr10 (L2N.takes_of rfl rfl rfl rfl) (pa_cons (pv 0) pa_nil)))
        (pss_cons (ps_for (passes_of rfl) rfl (pi_list (pe_dn D__telling_rows hr12 (pa_cons (pv 2) (pa_cons (pv 1) pa_nil)))) (pg_name (i := 3) nd rfl (Or.inl rfl))
        (pss_one (ps_if (pt_not (pt_val (pe_dn D_leaves hr4 (pa_cons (pv 3) (pa_cons (pv 1) pa_nil))))) (pss_one (ps_ret (pv 3))) pss_nil)))
        (pss_one (ps_ret pe_non))))), ?_⟩
    refine ⟨_, rfl, v, n, es, rfl, hS, ?_⟩
    refine ⟨_, rfl, u, n2, es2, rfl, hS2, ?_⟩
    refine ⟨_, rfl, v, n, es, rfl, hS, hv, n40, kE, fun hF H1 p s1 hp1 => ?_⟩
    obtain ⟨kR, kN⟩ := kF hF
    refine ⟨_, rfl, _, rfl, .ref p, u, n, n2, es, es2, rfl, hp1, hv, hF, n40, hS2.mono s1, hv2.len, fun H2 q us Rs s2 nq hq hw hT => ?_⟩
    have s12 := s1.trans s2
    have lus : us.length = Rs.length := Paired.length hw
    refine ⟨q, rfl, ⟨_, SqL.of hq⟩, ?_⟩
    refine for_list (K := K) (a := q) (xs := us) (fun i σ H' => ∃ y3 : Option V, σ = [some v, some u, some (.ref p), y3] ∧ Same H2 H' ∧ ∀ R ∈ Rs.take i, n = n2 ∧ Lvs R es2) ⟨none, rfl, Same.refl H2, fun R hR => by simp at hR⟩ (fun i σ H' _ ⟨_, _, s5, _⟩ => SqL.of (s5 _ _ hq)) ?_ ?_
    · rintro i x σ H' hx ⟨y3, rfl, s5, hall⟩
      obtain ⟨R, hR, t, rfl, ht⟩ := pr_at' hw hx
      have hm := List.mem_of_getElem? hR
      obtain ⟨o1, o2, o3⟩ := hT.ok R hm
      have n1 := hv.n1
      refine ⟨_, rfl, _, rfl, .ref t, u, R, n2, es2, rfl, ⟨t, rfl, s5 _ _ ht⟩, by omega, by omega, hS2.mono (s12.trans s5), hv2, fun H3 b s3 hb => ?_⟩
      have hb2 := hb R (List.Perm.refl _) o2
      refine ⟨b, rfl, ?_⟩
      cases b with
      | false =>
        refine iteT ⟨_, rfl, kR H3 t R ((s12.trans s5).trans s3) (s3 _ _ (s5 _ _ ht)) o1 o2 o3 fun z => ?_⟩
        exact Bool.noConfusion (hb2.mpr ⟨by omega, z.2⟩)
      | true =>
        have ok := hb2.mp rfl
        refine iteF ⟨_, rfl, s5.trans s3, fun R' hR' => ?_⟩
        rw [List.take_add_one, hR] at hR'
        rcases List.mem_append.mp hR' with h | h
        · exact hall R' h
        · have e : R' = R := by simpa using h
          rw [e]
          exact ⟨by omega, ok.2⟩
    · rintro σ H' ⟨y3, rfl, s5, hall⟩
      rw [lus, List.take_length] at hall
      refine kN H' (s12.trans s5) fun s a1 a2 a3 => ?_
      obtain ⟨R0, hR0⟩ : ∃ R, R ∈ Rs := List.exists_mem_of_ne_nil _ hT.ne
      have e := (hall R0 hR0).1
      refine ⟨e, ?_⟩
      subst e
      refine tell_all hv hv2 a1 a2 a3 fun j hj st h1 h2 fit => ?_
      obtain ⟨R, hR, tR⟩ := hT.all j hj st h1 h2 fit
      exact ⟨R, tR, (hall R hR).2⟩
-- @prem lacking_row lacking_row X : D_check_summary D_surely_short D__telling_rows D_leaves
def spWithin (C N : Addr) : Sp := fun vs H Q E => ∃ (v u : V) (n n2 : Int) (es es2 : List Ent), vs = [v, u] ∧ SumV C H v n es ∧ Valid n es ∧ SumV C H u n2 es2 ∧ Valid n2 es2 ∧ n ≤ 40 ∧ (¬ Fits n es → ∀ H', Same H H' → E (.ref N) none H') ∧
  (Fits n es → ∀ H' b, Same H H' → (b = true ↔ ∀ s : List Int, s.Pairwise (· ≤ ·) → (s.length : Int) = n → Lvs s es → n = n2 ∧ Lvs s es2) → Q (.bl b) H')
theorem sc_within : FnScope ["one", "other"] ["one", "other"] (defScope s_within) := ⟨rfl, rfl, rfl, by decide +kernel, rfl, by decide +kernel, by decide +kernel⟩
theorem ok_within {f : Addr} {fd : FuncData} (F : Fun K "within" "within" s_within f fd)  (D_lacking_row : DnX P w K mg base "lacking_row" ["one", "other"] 13 (spLack C C_NoRow))  : FnOk P w K mg base (L2N.CX P w) 14 f fd ["one", "other"] (spWithin C C_NoRow) := by
  refine F.okXN sc_within (fun vs H Q E h => ?_) (fun cdv A outer s H vs Q E hr h => ?_)
  · obtain ⟨v, u, n, n2, es, es2, rfl, _⟩ := h
    rfl
  · obtain ⟨v, u, n, n2, es, es2, rfl, hS, hv, hS2, hv2, n40, kE, kF⟩ := h
    have nd := sc_within.nd
    have hr13 : Room 13 _ := hr.mono (by decide)
    refine ⟨_, pss_one (ps_ret (pe_cmp (pc_isN (pe_dnX (W := fun cls d _ H => E cls d H) D_lacking_row hr13 (L2N.takes_of rfl rfl rfl rfl) (pa_cons (pv 0) (pa_cons (pv 1) pa_nil)))) rfl)), ?_⟩
    refine ⟨_, rfl, _, rfl, v, u, n, n2, es, es2, rfl, hS, hv, hS2, hv2, n40, kE, fun hF => ⟨fun H1 p R s1 hp o1 o2 o3 hno => ?_, fun H1 s1 hall => ?_⟩⟩
    · exact kF hF H1 false s1 ⟨fun h => Bool.noConfusion h, fun h => absurd (h R o2 o1 o3) hno⟩
    · exact kF hF H1 true s1 ⟨fun _ => hall, fun _ => rfl⟩
-- @prem within within X : D_lacking_row
end
end SR

set_option Elab.async false
set_option linter.all false
set_option maxRecDepth 100000
set_option maxHeartbeats 4000000
/-! Rows counted: _choices, _last_place, _with_kept, _with_others. -/
namespace SR
open PySem PySem.Spec PyProof.Rows L2

abbrev othSc : Scope := { kind := .function, names := [(Str.ofString ".0", .local), (Str.ofString "end", .cell), (Str.ofString "sum", .globalImplicit), (Str.ofString "range", .globalImplicit), (Str.ofString "size", .cell), (Str.ofString "ways", .cell)], isGenerator := false, isCoroutine := false }
/-- the counts as they lie: up to n -/
def cntsL (f : Nat → Nat) (n : Nat) : List Int := (List.range (n + 1)).map fun k => ((f k : Nat) : Int)
theorem cntsL_len (f : Nat → Nat) (n : Nat) : (cntsL f n).length = n + 1 := by unfold cntsL; rw [List.length_map, List.length_range]
theorem cntsL_at {f : Nat → Nat} {n k : Nat} (h : k ≤ n) : ((cntsL f n).map V.int)[k]? = some (.int ((f k : Nat) : Int)) := by
  unfold cntsL
  rw [List.map_map, List.getElem?_map, List.getElem?_range (by omega)]
  rfl
theorem sum_range (h : Nat → Nat) : ∀ k, ((List.range (k + 1)).map fun s => ((h s : Nat) : Int)).sum = ((sumTo h k : Nat) : Int)
  | 0 => by simp [sumTo]
  | k + 1 => by
    rw [List.range_succ, List.map_append, List.sum_append, sum_range h k]
    show _ + (((h (k + 1) : Nat) : Int) + 0) = ((sumTo h k + h (k + 1) : Nat) : Int)
    omega
section
variable {P : Program} {w : World} {K : PySem.W.Frag} {mg : Str → Option Value} {base : Heap} {C C_NoRow fI : Addr}
/-- a size may be none at all, or less -/
def spChoices : Sp := fun vs H Q _ => ∃ (size : Int) (m : Nat), vs = [.int size, .int m] ∧ size ≤ 2 ^ 105 ∧ m ≤ 50 ∧ Q (.int ((chs size.toNat m : Nat) : Int)) H
theorem sc__choices : FnScope ["size", "many"] ["size", "many"] (defScope s__choices) := ⟨rfl, rfl, rfl, by decide +kernel, rfl, by decide +kernel, by decide +kernel⟩
theorem ok__choices {f : Addr} {fd : FuncData} (F : Fun K "_choices" "_choices" s__choices f fd)  (m_comb : mg "comb" = some (.builtin "math.comb"))  : FnOk P w K mg base CX0 1 f fd ["size", "many"] (spChoices) := by
  refine F.ok sc__choices (fun vs H Q E h => ?_) (fun cdv A outer s H vs Q E hr h => ?_)
  · obtain ⟨size, m, rfl, _⟩ := h
    rfl
  · obtain ⟨size, m, rfl, h1, h2, k⟩ := h
    have nd := sc__choices.nd
    refine ⟨_, pss_cons (ps_if (pt_cmpR op_eq (pv 1) pe_int (nomark _)) (pss_one (ps_ret pe_int)) pss_nil)
        (pss_one (ps_ret (pe_ifExp (pt_cmpR op_gt (pv 0) pe_int (nomark _)) (pe_callBfun cr_comb (by rfl) m_comb (pa_cons (pe_op op_sub (pe_op op_add (pv 0) (pv 1)) pe_int) (pa_cons (pv 1) pa_nil))) pe_int))), ?_⟩
    refine ⟨_, rfl, rfl, _, rfl, ite2 (fun c => ?_) (fun c => ?_)⟩
    · have e : (m : Int) = 0 := V.int.inj (of_decide_eq_true c)
      have em : m = 0 := by omega
      subst em
      exact k
    · have hm : m ≠ 0 := fun z => c (by rw [z]; rfl)
      obtain ⟨j, rfl⟩ : ∃ j, m = j + 1 := ⟨m - 1, by omega⟩
      refine ⟨_, rfl, _, _, rfl, rfl, _, rfl, ite2 (fun d => ?_) (fun d => ?_)⟩
      · have d' : 0 < size := of_decide_eq_true d
        refine ⟨_, rfl, _, rfl, _, _, rfl, rfl, _, _, rfl, rfl, _, rfl, size.toNat + j, j + 1, ?_, by omega, by omega, k⟩
        dsimp only
        rw [show size + ((j + 1 : Nat) : Int) - 1 = ((size.toNat + j : Nat) : Int) by omega]
      · have d' : ¬ 0 < size := of_decide_eq_false (by simpa using d)
        rw [show size.toNat = 0 by omega, chs_none] at k
        exact k
-- @prem _choices _choices  : m_comb
/-- pairs (low, high) in a list -/
def SpanV (H : Hp) (v : V) (e : Ent) : Prop := ∃ t : Addr, v = .ref t ∧ H t = some (.tup [.int e.2.1, .int e.2.2])
theorem SpanV.mono {H H' : Hp} (s : Same H H') {v : V} {e : Ent} (h : SpanV H v e) : SpanV H' v e := let ⟨t, a, b⟩ := h; ⟨t, a, s _ _ b⟩
def spLastP : Sp := fun vs H Q _ => ∃ (l : Addr) (us : List V) (es : List Ent) (j : Int), vs = [.ref l, .int j] ∧ H l = some (.lst us) ∧ Paired (SpanV H) us es ∧ (∀ r, lastP es j = some r → Q (.int r) H) ∧ (lastP es j = none → Q .non H)
theorem sc__last_place : FnScope ["spans", "start", "rank", "low", "high"] ["spans", "start"] (defScope s__last_place) := ⟨rfl, rfl, rfl, by decide +kernel, rfl, by decide +kernel, by decide +kernel⟩
theorem ok__last_place {f : Addr} {fd : FuncData} (F : Fun K "_last_place" "_last_place" s__last_place f fd)  (m_max : mg "max" = none)  : FnOk P w K mg base CX0 1 f fd ["spans", "start"] (spLastP) := by
  refine F.ok sc__last_place (fun vs H Q E h => ?_) (fun cdv A outer s H vs Q E hr h => ?_)
  · obtain ⟨l, us, es, j, rfl, _⟩ := h
    rfl
  · obtain ⟨l, us, es, j, rfl, hl, hus, kS, kN⟩ := h
    have nd := sc__last_place.nd
    refine ⟨_, pss_cons (ps_set (i := 2) nd rfl (Or.inl rfl) (pv 1))
        (pss_cons (ps_for PassesOwn.never rfl (pi_list (pv 0)) (pg_tup rfl (pgs_cons (pg_name (i := 3) nd rfl (Or.inl rfl)) (pgs_cons (pg_name (i := 4) nd rfl (Or.inl rfl)) pgs_nil)))
        (pss_cons (ps_set (i := 2) nd rfl (Or.inl rfl) (pe_callB (call_max2 rfl) (by rfl) m_max (by decide +kernel) (pa_cons (pv 3) (pa_cons (pe_op op_add (pv 2) pe_int) pa_nil))))
        (pss_one (ps_if (pt_cmpR op_gt (pv 2) (pv 4) (nomark _)) (pss_one (ps_ret pe_non)) pss_nil))))
        (pss_one (ps_ret (pv 2)))), ?_⟩
    refine ⟨_, rfl, ?_⟩
    dsimp only [gName]
    have ll : us.length = es.length := Paired.length hus
    refine ⟨_, rfl, l, rfl, ⟨_, SqL.of hl⟩, ?_⟩
    refine for_list (K := K) (a := l) (xs := us) (fun i σ H' => ∃ (r : Int) (y3 y4 : Option V), σ = [some (.ref l), some (.int j), some (.int r), y3, y4] ∧ H' = H ∧ lastP es j = lastP (es.drop i) r) ⟨j, none, none, rfl, rfl, rfl⟩ (fun i σ H' _ ⟨_, _, _, _, e, _⟩ => by rw [e]; exact SqL.of hl) ?_ ?_
    · rintro i x σ H' hx ⟨r, y3, y4, rfl, rfl, hr⟩
      obtain ⟨e, hei, t, rfl, ht⟩ := pr_at' hus hx
      have hil : i < es.length := (List.getElem?_eq_some_iff.mp hei).1
      have hd : es.drop i = e :: es.drop (i + 1) := by
        have h1 : es[i] = e := (List.getElem?_eq_some_iff.mp hei).2
        rw [← h1]
        exact List.drop_eq_getElem_cons hil
      rw [hd] at hr
      refine ⟨t, _, rfl, SqT.of ht, rfl, _, _, rfl, _, _, rfl, rfl, ?_⟩
      refine ⟨_, rfl, _, rfl, _, _, rfl, rfl, _, _, rfl, ?_⟩
      rw [max_if]
      refine ⟨_, rfl, _, rfl, _, _, rfl, rfl, _, rfl, ite2 (fun c => ?_) (fun c => ?_)⟩
      · have c' : e.2.2 < max e.2.1 (r + 1) := of_decide_eq_true c
        refine kN ?_
        rw [hr]
        show (if max e.2.1 (r + 1) > e.2.2 then none else _) = none
        exact if_pos c'
      · have c' : ¬ e.2.2 < max e.2.1 (r + 1) := fun z => c (decide_eq_true z)
        refine ⟨_, _, _, rfl, rfl, ?_⟩
        rw [hr]
        show (if max e.2.1 (r + 1) > e.2.2 then none else lastP (es.drop (i + 1)) (max e.2.1 (r + 1))) = _
        exact if_neg c'
    · rintro σ H' ⟨r, y3, y4, rfl, rfl, hr⟩
      rw [ll, List.drop_length] at hr
      exact ⟨_, rfl, kS r hr⟩
-- @prem _last_place _last_place  : m_max
/-- behind each beginning any of a size of numbers -/
def spOth : Sp := fun vs H Q _ => ∃ (l : Addr) (f : Nat → Nat) (n : Nat) (size : Int), vs = [.ref l, .int size] ∧ H l = some (.lst ((cntsL f n).map V.int)) ∧ n ≤ 45 ∧ size ≤ 2 ^ 105 ∧ (∀ k, k ≤ n → f k ≤ 2 ^ 6600) ∧
  ∀ H' q, Same H H' → H q = none → H' q = some (.lst ((cntsL (oth f size.toNat) n).map V.int)) → Q (.ref q) H'
theorem sc__with_others : FnScope ["ways", "size", "end", "start"] ["ways", "size"] (defScope s__with_others) := ⟨rfl, rfl, rfl, by decide +kernel, rfl, by decide +kernel, by decide +kernel⟩
set_option maxHeartbeats 16000000 in
theorem ok__with_others {f : Addr} {fd : FuncData} (F : Fun K "_with_others" "_with_others" s__with_others f fd)  (m_range : mg "range" = none) (m_len : mg "len" = none) (m_sum : mg "sum" = none) (D__choices : Dn P w K mg base "_choices" ["size", "many"] 1 (spChoices))  : FnOk P w K mg base CX0 2 f fd ["ways", "size"] (spOth) := by
  refine F.ok sc__with_others (fun vs H Q E h => ?_) (fun cdv A outer s H vs Q E hr h => ?_)
  · obtain ⟨l, f, n, size, rfl, _⟩ := h
    rfl
  · obtain ⟨l, f, n, size, rfl, hl, hn, hs, hf, k⟩ := h
    have nd := sc__with_others.nd
    have hr1 : Room 1 _ := hr.mono (by decide)
    refine ⟨_, pss_one (ps_ret (pe_lc (own := [("end", 2)]) (g := gName 2) (tt := tYes) (te := tCB (rSum K) (tCons (tLc (iRng1 (tCons (tOp (rI0 fun i j => .int (i + j)) (tVar 2) (tC (.int 1))) tNil)) (gName 3) (tYes) (tOp (rI CMulW fun i j => .int (i * j)) (tOp (rIxL K) (tVar 0) (tVar 3)) (tCall (spChoices) [] E0 (tCons (tVar 1) (tCons (tOp (rI0 fun i j => .int (i - j)) (tVar 2) (tVar 3)) tNil)))) [3]) tNil)) rfl nd (pi_range1 (by rfl) m_range (pa_cons (pe_callB call_len_seq (by rfl) m_len PySem.boot_len (pa_cons (pv 0) pa_nil)) pa_nil)) (blkOk_by (own := [("end", 2)]) (N := ["ways", "size", "end", "start"]) (sc := defScope s__with_others) (by decide +kernel)) (fun _ _ _ _ _ => (pg_name (i := 2) nd rfl (Or.inr rfl))) (fun _ _ _ _ _ => pts_nil) (fun _ _ _ _ _ => (pe_callB (cr_sum rfl) (by rfl) m_sum (by decide +kernel) (pa_cons (pe_lc (own := [("start", 3)]) (g := gName 3) (tt := tYes) (te := tOp (rI CMulW fun i j => .int (i * j)) (tOp (rIxL K) (tVar 0) (tVar 3)) (tCall (spChoices) [] E0 (tCons (tVar 1) (tCons (tOp (rI0 fun i j => .int (i - j)) (tVar 2) (tVar 3)) tNil)))) rfl nd (pi_range1 (by rfl) m_range (pa_cons (pe_op op_add (pv 2) pe_int) pa_nil)) (blkOk_eq (blkOk_by (own := [("start", 3)]) (N := ["ways", "size", "end", "start"]) (sc := othSc) (by decide +kernel)) rfl) (fun _ _ _ _ _ => (pg_name (i := 3) nd rfl (Or.inl rfl))) (fun _ _ _ _ _ => pts_nil) (fun _ _ _ _ _ => (pe_op op_mulW (pe_ix ix_list (pv 0) (pv 3) (fun _ _ => rfl)) (pe_dn D__choices hr1 (pa_cons (pv 1) (pa_cons (pe_op op_sub (pv 2) (pv 3)) pa_nil)))))) pa_nil))))), ?_⟩
    refine ⟨_, rfl, l, _, rfl, .inl (SqL.of hl), _, rfl, by omega, by rw [List.length_map, cntsL_len]; omega, fun D nD => ?_⟩
    rw [List.length_map, cntsL_len]
    refine lc_range (lo := 0) (n := n + 1) (fun i H' => H' D = some (.lst (((cntsL (oth f size.toNat) n).take i).map V.int)) ∧ Same H H') ⟨upd_same, Same_new nD⟩ ?_ ?_
    · rintro i H' hi ⟨hD, s5⟩
      refine ⟨rfl, tyes_of ?_⟩
      rw [if_pos rfl]
      refine ⟨_, rfl, _, _, rfl, rfl, _, rfl, by omega, by omega, fun B nB => ?_⟩
      rw [show (0 + (i : Int) + 1).toNat = i + 1 by omega]
      refine lc_range (lo := 0) (n := i + 1) (fun j H6 => H6 B = some (.lst (((List.range j).map fun s => ((f s * chs size.toNat (i - s) : Nat) : Int)).map V.int)) ∧ Same H' H6) ⟨upd_same, Same_new nB⟩ ?_ ?_
      · rintro j H6 hj ⟨hB, s6⟩
        refine ⟨rfl, tyes_of ?_⟩
        rw [if_pos rfl]
        refine ⟨_, rfl, _, rfl, l, _, _, _, rfl, rfl, SqL.of (s6 _ _ (s5 _ _ hl)), at_of (j := j) (by omega) (cntsL_at (by omega)), _, rfl, _, rfl, _, rfl, _, _, rfl, rfl, size, i - j, ?_, hs, by omega, ?_⟩
        · dsimp only
          rw [show 0 + (i : Int) - (0 + (j : Int)) = ((i - j : Nat) : Int) by omega]
          rfl
        · have b1 := log_small (hf j (by omega))
          have b2 := log_small (chs_le (s := size.toNat) (m := i - j) (by omega) (by omega))
          refine ⟨_, _, rfl, rfl, ?_, _, hB, ?_, ?_, Same_mut s6 nB⟩
          · show (((f j : Nat) : Int)).natAbs.log2 + (((chs size.toNat (i - j) : Nat) : Int)).natAbs.log2 < 1000000
            rw [Int.natAbs_natCast, Int.natAbs_natCast]
            omega
          · rw [List.length_map, List.length_map, List.length_range]
            exact small1000 (by omega)
          · rw [upd_same, List.range_succ, List.map_append, List.map_append]
            dsimp only
            rw [← Int.natCast_mul]
            rfl
      rintro H6 ⟨hB, s6⟩
      refine ⟨B, _, rfl, SqL.of hB, ?_⟩
      rw [sum_range]
      have hk : (cntsL (oth f size.toNat) n)[i]? = some ((oth f size.toNat i : Nat) : Int) := by unfold cntsL; rw [List.getElem?_map, List.getElem?_range hi]; rfl
      refine ⟨_, s6 _ _ hD, ?_, ?_, Same_mut (s5.trans s6) nD⟩
      · rw [List.length_map, List.length_take, cntsL_len]
        exact small1000 (by omega)
      · rw [upd_same]
        exact congrArg (fun z => some (HO.lst z)) (int_take hk)
    · rintro H2 ⟨hD, s2⟩
      rw [← cntsL_len (oth f size.toNat) n, List.take_length] at hD
      exact k _ _ s2 nD hD
-- @prem _with_others _with_others  : m_range m_len m_sum D__choices
end
end SR

set_option Elab.async false
set_option linter.all false
set_option maxRecDepth 100000
set_option maxHeartbeats 4000000
/-! Rows counted: _with_kept. -/
namespace SR
open PySem PySem.Spec PyProof.Rows L2

theorem for_enumL {K : PySem.W.Frag} {a : Addr} {xs : List V} {g : TG} {tb : TS} {D : Ends} {σ : L2.St} {H : Hp} (Pv : Nat → L2.St → Hp → Prop) (h0 : Pv 0 σ H) (hq : ∀ i σ H, Pv i σ H → SqL K H a xs)
    (hs : ∀ (i : Nat) (x : V) (T : Addr) (σ : L2.St) (H : Hp), xs[i]? = some x → Pv i σ H → H T = none → g (.ref T) σ (upd H T (.tup [.int (i : Nat), x])) fun σ2 H2 => tb { D with nx := Pv (i + 1), ct := Pv (i + 1), bk := D.nx } σ2 H2) (hd : ∀ σ H, Pv xs.length σ H → D.nx σ H) :
    ∃ W : Nat → Nat → L2.St → Hp → Prop, (∃ m, W 0 m σ H) ∧ ∀ i m σ H, W i m σ H →
      ((Ite K a).stop i H ∧ D.nx σ H) ∨ ((Ite K a).go i H ∧ ∃ N : L2.St → Hp → Prop, (∀ σ' H', N σ' H' → ∃ m', m' < m ∧ W (i + 1) m' σ' H') ∧ ∀ v H', (Ite K a).yld i H v H' → g v σ H' fun σ2 H2 => tb { D with nx := N, ct := N, bk := D.nx } σ2 H2) := by
  refine ⟨fun i m σ H => m = xs.length - i ∧ i ≤ xs.length ∧ Pv i σ H, ⟨xs.length, rfl, Nat.zero_le _, h0⟩, ?_⟩
  rintro i m σ H ⟨rfl, hi, p⟩
  have qx := hq i σ H p
  by_cases hlt : i < xs.length
  · have hx : xs[i]? = some xs[i] := List.getElem?_eq_getElem hlt
    refine .inr ⟨⟨xs, _, qx, hx⟩, Pv (i + 1), fun σ' H' p' => ⟨xs.length - (i + 1), by omega, rfl, hlt, p'⟩, fun v H' y => ?_⟩
    obtain ⟨T, x', rfl, hT, rfl, f1⟩ := y
    exact hs i x' T σ H (f1 xs qx) p hT
  · have e : i = xs.length := by omega
    subst e
    exact .inl ⟨⟨xs, qx, Nat.le_refl _⟩, hd σ H p⟩
def okS (es : List Ent) (j k : Nat) : Bool := match lastP es j with
  | some l => decide (l ≤ k)
  | none => false
theorem okS_some {es : List Ent} {j k : Nat} {l : Int} (h : lastP es j = some l) : okS es j k = decide (l ≤ k) := by unfold okS; rw [h]
theorem okS_none {es : List Ent} {j k : Nat} (h : lastP es j = none) : okS es j k = false := by unfold okS; rw [h]
/-- what the first i beginnings give -/
def accS (f : Nat → Nat) (es : List Ent) : Nat → Nat → Nat
  | 0, _ => 0
  | i + 1, k => accS f es i k + if okS es i k = true then f i else 0
theorem acc_sum (f : Nat → Nat) (es : List Ent) (k : Nat) : ∀ m, accS f es (m + 1) k = sumTo (fun j => if okS es j k = true then f j else 0) m
  | 0 => by show 0 + _ = _; rw [Nat.zero_add]; rfl
  | m + 1 => by
    show accS f es (m + 1) k + _ = sumTo _ m + _
    rw [acc_sum f es k m]
theorem acc_is (f : Nat → Nat) (es : List Ent) {n k : Nat} (h : k ≤ n) : accS f es (n + 1) k = sumTo (fun j => if okS es j k = true then f j else 0) k := by
  rw [acc_sum]
  obtain ⟨d, hd⟩ : ∃ d, n = k + d := ⟨n - k, by omega⟩
  subst hd
  clear h
  induction d with
  | zero => rfl
  | succ d ih =>
    show sumTo _ (k + d) + (if okS es (k + d + 1) k = true then _ else 0) = _
    rw [ih, if_neg, Nat.add_zero]
    intro z
    unfold okS at z
    cases e : lastP es ((k + d + 1 : Nat) : Int) with
    | none => rw [e] at z; cases z
    | some l =>
      rw [e] at z
      have := lastP_ge e
      have := of_decide_eq_true z
      omega
theorem lastP_le : ∀ {es : List Ent} {j l n : Int}, (∀ e ∈ es, e.2.2 ≤ n) → j ≤ n → lastP es j = some l → l ≤ n
  | [], j, l, n, _, hj, h => by have := Option.some.inj h; omega
  | e :: es, j, l, n, he, hj, h => by
    unfold lastP at h
    have := he e (List.mem_cons_self ..)
    split at h
    · cases h
    · exact lastP_le (fun x hx => he x (List.mem_cons_of_mem _ hx)) (by omega) h
theorem cntsL_set {f g : Nat → Nat} {n j : Nat} (hj : j ≤ n) (h2 : ∀ k, k ≤ n → k ≠ j → g k = f k) : ((cntsL f n).map V.int).set j (.int ((g j : Nat) : Int)) = (cntsL g n).map V.int := by
  refine List.ext_getElem? fun k => ?_
  rw [List.getElem?_set]
  by_cases e : j = k
  · subst e
    rw [if_pos rfl, if_pos (by rw [List.length_map, cntsL_len]; omega), cntsL_at hj]
  · rw [if_neg e]
    by_cases hk : k ≤ n
    · rw [cntsL_at hk, cntsL_at hk, h2 k hk (fun z => e z.symm)]
    · rw [List.getElem?_eq_none (by rw [List.length_map, cntsL_len]; omega), List.getElem?_eq_none (by rw [List.length_map, cntsL_len]; omega)]
theorem zeros_flat (n : Nat) : (List.replicate (n + 1) [V.int 0]).flatten = (cntsL (fun _ => 0) n).map V.int := by
  have : ∀ m, (List.replicate m [V.int 0]).flatten = ((List.range m).map fun _ => ((0 : Nat) : Int)).map V.int := by
    intro m
    induction m with
    | zero => rfl
    | succ m ih =>
      rw [List.replicate_succ', List.flatten_append, ih, List.range_succ, List.map_append, List.map_append]
      rfl
  exact this (n + 1)
section
variable {P : Program} {w : World} {K : PySem.W.Frag} {mg : Str → Option Value} {base : Heap} {C C_NoRow fI : Addr}
def spKeptW : Sp := fun vs H Q _ => ∃ (l sp : Addr) (us : List V) (es : List Ent) (f : Nat → Nat) (n : Nat), vs = [.ref l, .ref sp] ∧ H l = some (.lst ((cntsL f n).map V.int)) ∧ H sp = some (.lst us) ∧ Paired (SpanV H) us es ∧ n ≤ 45 ∧ (∀ e ∈ es, e.2.2 ≤ n) ∧
  ∀ H' q, Same H H' → H q = none → H' q = some (.lst ((cntsL (fun k => sumTo (fun j => if okS es j k = true then f j else 0) k) n).map V.int)) → Q (.ref q) H'
theorem sc__with_kept : FnScope ["ways", "spans", "longer", "start", "several", "last", "end"] ["ways", "spans"] (defScope s__with_kept) := ⟨rfl, rfl, rfl, by decide +kernel, rfl, by decide +kernel, by decide +kernel⟩
set_option maxHeartbeats 16000000 in
theorem ok__with_kept {f : Addr} {fd : FuncData} (F : Fun K "_with_kept" "_with_kept" s__with_kept f fd)  (m_len : mg "len" = none) (m_enumerate : mg "enumerate" = none) (D__last_place : Dn P w K mg base "_last_place" ["spans", "start"] 1 (spLastP)) (m_range : mg "range" = none)  : FnOk P w K mg base CX0 2 f fd ["ways", "spans"] (spKeptW) := by
  refine F.ok sc__with_kept (fun vs H Q E h => ?_) (fun cdv A outer s H vs Q E hr h => ?_)
  · obtain ⟨l, sp, us, es, f, n, rfl, _⟩ := h
    rfl
  · obtain ⟨l, sp, us, es, f, n, rfl, hl, hsp, hus, hn, hes, k⟩ := h
    have nd := sc__with_kept.nd
    have hr1 : Room 1 _ := hr.mono (by decide)
    refine ⟨_, pss_cons (ps_set (i := 2) nd rfl (Or.inl rfl) (pe_op op_rep (pe_lst (pa_cons pe_int pa_nil)) (pe_callB call_len_seq (by rfl) m_len PySem.boot_len (pa_cons (pv 0) pa_nil))))
        (pss_cons (ps_for PassesOwn.never rfl (pi_enum (by rfl) m_enumerate (pa_cons (pv 0) pa_nil)) (pg_tup rfl (pgs_cons (pg_name (i := 3) nd rfl (Or.inl rfl)) (pgs_cons (pg_name (i := 4) nd rfl (Or.inl rfl)) pgs_nil)))
        (pss_cons (ps_set (i := 5) nd rfl (Or.inl rfl) (pe_dn D__last_place hr1 (pa_cons (pv 1) (pa_cons (pv 3) pa_nil))))
        (pss_one (ps_if (pt_cmp (pc_notN (pv 5))) (pss_one (ps_for PassesOwn.never rfl (pi_range2 (by rfl) m_range (pa_cons (pv 5) (pa_cons (pe_callB call_len_seq (by rfl) m_len PySem.boot_len (pa_cons (pv 0) pa_nil)) pa_nil))) (pg_name (i := 6) nd rfl (Or.inl rfl))
        (pss_one (ps_augS (pv 2) (pv 6) pget_list (pv 4) ip_add set_list)))) pss_nil))))
        (pss_one (ps_ret (pv 2)))), ?_⟩
    have ll : ((cntsL f n).map V.int).length = n + 1 := by rw [List.length_map, cntsL_len]
    refine ⟨(by show 1 ≤ sizeLine; decide), fun z nz => ?_⟩
    have tz := Same_new (o := .lst [.int 0]) nz
    refine ⟨_, rfl, l, _, rfl, .inl (SqL.of (tz _ _ hl)), z, _, _, rfl, rfl, upd_same, by rw [ll]; omega, by rw [ll]; omega, ?_, fun q nq => ?_⟩
    · rw [ll]
      exact Nat.le_of_lt (small1000 (by show 1 * ((n + 1 : Nat) : Int).toNat ≤ _; omega))
    rw [ll, Int.toNat_natCast, zeros_flat]
    have tq := tz.trans (Same_new (o := .lst ((cntsL (fun _ => 0) n).map V.int)) nq)
    have nqH : H q = none := tz.free nq
    dsimp only [gName]
    refine ⟨_, rfl, l, _, rfl, SqL.of (tq _ _ hl), for_enumL (K := K) (a := l) (xs := (cntsL f n).map V.int) (fun i σ H' => ∃ (y3 y4 y5 y6 : Option V), σ = [some (.ref l), some (.ref sp), some (.ref q), y3, y4, y5, y6] ∧ H' q = some (.lst ((cntsL (accS f es i) n).map V.int)) ∧ Same H H')
      ⟨none, none, none, none, rfl, upd_same, tq⟩ (fun i σ H' ⟨_, _, _, _, _, _, s5⟩ => SqL.of (s5 _ _ hl)) ?_ ?_⟩
    · rintro i x T σ H' hx ⟨y3, y4, y5, y6, rfl, hq, s5⟩ hT
      have hi : i ≤ n := by have := (List.getElem?_eq_some_iff.mp hx).1; omega
      rw [cntsL_at hi] at hx
      have ex : x = .int ((f i : Nat) : Int) := (Option.some.inj hx).symm
      subst ex
      have tT := Same_new (o := .tup [.int (i : Nat), .int ((f i : Nat) : Int)]) hT
      have s6 := s5.trans tT
      have hq6 := tT _ _ hq
      refine ⟨T, _, rfl, SqT.of upd_same, rfl, _, _, rfl, _, _, rfl, rfl, ?_⟩
      dsimp only [gName]
      refine ⟨_, rfl, _, rfl, sp, us, es, (i : Int), rfl, s6 _ _ hsp, Paired.mapP hus fun _ _ h => SpanV.mono s6 h, fun r hr => ?_, fun hr => ?_⟩
      · have r1 := lastP_ge hr
        have r2 := lastP_le (n := (n : Int)) hes (by omega) hr
        obtain ⟨rn, rfl⟩ : ∃ rn : Nat, r = (rn : Int) := ⟨r.toNat, by omega⟩
        refine ⟨_, rfl, _, rfl, ?_⟩
        rw [decide_eq_false (show ¬ V.int (rn : Int) = V.non from fun z => nomatch z)]
        refine iteT ?_
        refine ⟨_, rfl, _, rfl, l, _, rfl, .inl (SqL.of (s6 _ _ hl)), _, _, rfl, ⟨by omega, by omega, by rw [ll]; omega, by rw [ll]; omega⟩, ?_⟩
        rw [ll, show (((n + 1 : Nat) : Int) - (rn : Int)).toNat = n + 1 - rn by omega]
        refine for_range (lo := (rn : Int)) (n := n + 1 - rn) (fun m σ H'' => ∃ y6 : Option V, σ = [some (.ref l), some (.ref sp), some (.ref q), some (.int (i : Nat)), some (.int ((f i : Nat) : Int)), some (.int (rn : Int)), y6] ∧ H'' q = some (.lst ((cntsL (fun k => accS f es i k + if rn ≤ k ∧ k < rn + m then f i else 0) n).map V.int)) ∧ Same H H'')
          ⟨_, rfl, ?_, s6⟩ ?_ ?_
        · rw [hq6]
          congr 3
          refine congrArg (fun g => cntsL g n) (funext fun k => ?_)
          rw [if_neg (by omega), Nat.add_zero]
        · rintro m σ H7 hm ⟨y6, rfl, hq7, s7⟩
          refine ⟨_, rfl, _, rfl, q, _, rn + m, _, rfl, by congr 1, SqL.of hq7, cntsL_at (by omega), _, rfl, _, _, rfl, rfl, q, _, _, rn + m, rfl, rfl, hq7, ?_, ?_⟩
          · unfold ixN
            rw [List.length_map, cntsL_len, if_pos (by omega), if_pos (by omega)]
            exact congrArg some (by omega)
          · refine ⟨_, rfl, ?_, Same_mut s7 nqH⟩
            rw [upd_same]
            have hne : ∀ k, k ≤ n → k ≠ rn + m → (accS f es i k + if rn ≤ k ∧ k < rn + (m + 1) then f i else 0) = accS f es i k + if rn ≤ k ∧ k < rn + m then f i else 0 := fun k hk hne => by
              by_cases c : rn ≤ k ∧ k < rn + m
              · rw [if_pos c, if_pos (by omega)]
              · rw [if_neg c, if_neg (by omega)]
            have e := cntsL_set (f := fun k => accS f es i k + if rn ≤ k ∧ k < rn + m then f i else 0) (g := fun k => accS f es i k + if rn ≤ k ∧ k < rn + (m + 1) then f i else 0) (n := n) (j := rn + m) (by omega) hne
            rw [← e]
            have e1 : ((accS f es i (rn + m) + if rn ≤ rn + m ∧ rn + m < rn + m then f i else 0 : Nat) : Int) + ((f i : Nat) : Int) = ((accS f es i (rn + m) + if rn ≤ rn + m ∧ rn + m < rn + (m + 1) then f i else 0 : Nat) : Int) := by
              rw [if_neg (by omega), if_pos (by omega)]
              omega
            dsimp only
            rw [e1]
        · rintro σ H7 ⟨y6, rfl, hq7, s7⟩
          refine ⟨_, _, _, _, rfl, ?_, s7⟩
          rw [hq7]
          congr 3
          refine List.map_congr_left fun k hk => ?_
          have hk' : k ≤ n := by have := List.mem_range.mp hk; omega
          dsimp only
          show ((accS f es i k + _ : Nat) : Int) = ((accS f es i k + if okS es i k = true then f i else 0 : Nat) : Int)
          rw [okS_some hr]
          congr 2
          by_cases c : rn ≤ k
          · rw [if_pos (by omega), if_pos (decide_eq_true (by omega))]
          · rw [if_neg (by omega), if_neg (by rw [decide_eq_true_iff]; omega)]
      · refine ⟨_, rfl, _, rfl, ?_⟩
        rw [decide_eq_true (show V.non = V.non from rfl)]
        refine iteF ⟨_, _, _, _, rfl, ?_, s6⟩
        rw [hq6]
        congr 3
        refine congrArg (fun g => cntsL g n) (funext fun k => ?_)
        show accS f es i k = accS f es i k + if okS es i k = true then f i else 0
        rw [okS_none hr]
        rfl
    · rintro σ H' ⟨y3, y4, y5, y6, rfl, hq, s5⟩
      rw [ll] at hq
      refine ⟨_, rfl, k H' q s5 nqH ?_⟩
      rw [hq]
      congr 3
      refine List.map_congr_left fun m hm => ?_
      have hm' : m ≤ n := by have := List.mem_range.mp hm; omega
      rw [acc_is f es hm']
-- @prem _with_kept _with_kept  : m_len m_enumerate D__last_place m_range
end
end SR

set_option Elab.async false
set_option linter.all false
set_option maxRecDepth 100000
set_option maxHeartbeats 4000000
/-! Rows counted: count_rows. -/
namespace SR
open PySem PySem.Spec PyProof.Rows L2

/-- the rows from a range that leave entries -/
def cntR (n : Int) (ts : List Ent) (a b : Int) : Nat := if ∀ e ∈ ts, a ≤ e.1 ∧ e.1 ≤ b then cntS ts a (b + 1 - a).toNat n.toNat else 0
/-- how far the values are done -/
def tDone (vs : List Int) (a : Int) (i : Nat) : Nat := if i = 0 then 0 else (vs.getD (i - 1) 0 + 1 - a).toNat
theorem zeros_some : ∀ m : Nat, (List.replicate m [V.int 0]).flatten = List.replicate m (V.int 0)
  | 0 => rfl
  | m + 1 => by
    show [V.int 0] ++ (List.replicate m [V.int 0]).flatten = V.int 0 :: List.replicate m (V.int 0)
    rw [zeros_some m]
    rfl
theorem start_cnts (ts : List Ent) (a : Int) (n : Nat) : [V.int 1] ++ (List.replicate n [V.int 0]).flatten = (cntsL (cntS ts a 0) n).map V.int := by
  rw [zeros_some]
  unfold cntsL
  rw [List.range_succ_eq_map, List.map_cons, List.map_cons, List.map_map, List.map_map]
  show V.int 1 :: List.replicate n (V.int 0) = V.int 1 :: _
  congr 1
  rw [eq_comm, List.eq_replicate_iff]
  refine ⟨by rw [List.length_map, List.length_range], fun y hy => ?_⟩
  obtain ⟨j, _, rfl⟩ := List.mem_map.mp hy
  rfl
section
variable {P : Program} {w : World} {K : PySem.W.Frag} {mg : Str → Option Value} {base : Heap} {C C_NoRow C_TooLong fI : Addr}
def spCount (C N : Addr) : Sp := fun vs H Q E => ∃ (v : V) (n a b : Int) (es : List Ent), vs = [v, .int a, .int b] ∧ SumV C H v n es ∧ Valid n es ∧ n ≤ 40 ∧ -10 ^ 30 ≤ a ∧ a ≤ 10 ^ 30 ∧ -10 ^ 30 ≤ b ∧ b ≤ 10 ^ 30 ∧ (¬ Fits n es → ∀ H', Same H H' → E (.ref N) none H') ∧
  (Fits n es → ∀ H', Same H H' → Q (.int ((cntR n (tightL n es) a b : Nat) : Int)) H')
theorem sc_count_rows : FnScope ["summary", "least", "greatest", "tight", "values", "ways", "following", "value", "_", "kept", "low", "high"] ["summary", "least", "greatest"] (defScope s_count_rows) := ⟨rfl, rfl, rfl, by decide +kernel, rfl, by decide +kernel, by decide +kernel⟩
set_option maxHeartbeats 16000000 in
theorem ok_count_rows {f : Addr} {fd : FuncData} (F : Fun K "count_rows" "count_rows" s_count_rows f fd)  (D_surely_tightened : DnX P w K mg base "surely_tightened" ["summary"] 9 (spSure C C_NoRow)) (D_check_value : Dn P w K mg base "check_value" ["thing"] 4 (spCkV)) (D_check_short : DnX P w K mg base "check_short" ["summary"] 3 (spCkShort C C_TooLong)) (m_sorted : mg "sorted" = none) (T : SumT K mg C) (DE : Pr P w K mg base C "entries" 1 (getSp C "_entries")) (m_all : mg "all" = none) (D_is_between : Dn P w K mg base "is_between" ["value", "least", "greatest"] 2 (spBetween)) (DM : Pr P w K mg base C "many" 1 (getSp C "_many")) (D__with_others : Dn P w K mg base "_with_others" ["ways", "size"] 2 (spOth)) (D__with_kept : Dn P w K mg base "_with_kept" ["ways", "spans"] 2 (spKeptW))  : FnOk P w K mg base (L2N.CX P w) 10 f fd ["summary", "least", "greatest"] (spCount C C_NoRow) := by
  refine F.okXN sc_count_rows (fun vs H Q E h => ?_) (fun cdv A outer s H vs Q E hr h => ?_)
  · obtain ⟨v, n, a, b, es, rfl, _⟩ := h
    rfl
  · obtain ⟨v, n, a, b, es, rfl, hS, hv, n40, a1, a2, b1, b2, kE, kF⟩ := h
    have nd := sc_count_rows.nd
    have hr2 : Room 2 _ := hr.mono (by decide)
    have hr3 : Room 3 _ := hr.mono (by decide)
    have hr4 : Room 4 _ := hr.mono (by decide)
    have hr9 : Room 9 _ := hr.mono (by decide)
    refine ⟨_, pss_cons (ps_set (i := 3) nd rfl (Or.inl rfl) (pe_dnX (W := fun cls d _ H => E cls d H) D_surely_tightened hr9 (L2N.takes_of rfl rfl rfl rfl) (pa_cons (pv 0) pa_nil)))
        (pss_cons (ps_expr (pe_dn D_check_value hr4 (pa_cons (pv 1) pa_nil)))
        (pss_cons (ps_expr (pe_dn D_check_value hr4 (pa_cons (pv 2) pa_nil)))
        (pss_cons (ps_expr (pe_dnX (W := fun cls d _ H => E cls d H) D_check_short hr3 (L2N.takes_of rfl rfl rfl rfl) (pa_cons (pv 3) pa_nil)))
        (pss_cons (ps_set (i := 4) nd rfl (Or.inl rfl) (pe_callB (cr_sortedSet rfl) (by rfl) m_sorted (by decide +kernel) (pa_cons (pe_scI (own := [("value", 7), ("_", 8)]) (g := gTup K 3 (gCons (gName 7) (gCons (gName 8) (gCons (gName 8) gNil)))) (tt := tYes) (te := tVar 7) rfl nd (pi_tup (pe_pr DE T.ic.cl hr2 (pv 3))) (blkOk_by (own := [("value", 7), ("_", 8)]) (N := ["summary", "least", "greatest", "tight", "values", "ways", "following", "value", "_", "kept", "low", "high"]) (sc := defScope s_count_rows) (by decide +kernel)) (fun _ _ _ _ _ => (pg_tup rfl (pgs_cons (pg_name (i := 7) nd rfl (Or.inl rfl)) (pgs_cons (pg_name (i := 8) nd rfl (Or.inl rfl)) (pgs_cons (pg_name (i := 8) nd rfl (Or.inl rfl)) pgs_nil))))) (fun _ _ _ _ _ => pts_nil) (fun _ _ _ _ _ => (pv 7))) pa_nil)))
        (pss_cons (ps_if (pt_not (pt_val (pe_callB (cr_all rfl) (by rfl) m_all (by decide +kernel) (pa_cons (pe_lc (own := [("value", 7)]) (g := gName 7) (tt := tYes) (te := tCall (spBetween) [] E0 (tCons (tVar 7) (tCons (tVar 1) (tCons (tVar 2) tNil)))) rfl nd (pi_list (pv 4)) (blkOk_by (own := [("value", 7)]) (N := ["summary", "least", "greatest", "tight", "values", "ways", "following", "value", "_", "kept", "low", "high"]) (sc := defScope s_count_rows) (by decide +kernel)) (fun _ _ _ _ _ => (pg_name (i := 7) nd rfl (Or.inl rfl))) (fun _ _ _ _ _ => pts_nil) (fun _ _ _ _ _ => (pe_dn D_is_between hr2 (pa_cons (pv 7) (pa_cons (pv 1) (pa_cons (pv 2) pa_nil)))))) pa_nil)))) (pss_one (ps_ret pe_int)) pss_nil)
        (pss_cons (ps_set (i := 5) nd rfl (Or.inl rfl) (pe_op op_cat (pe_lst (pa_cons pe_int pa_nil)) (pe_op op_rep (pe_lst (pa_cons pe_int pa_nil)) (pe_pr DM T.ic.cl hr2 (pv 3)))))
        (pss_cons (ps_set (i := 6) nd rfl (Or.inl rfl) (pv 1))
        (pss_cons (ps_for (passes_of rfl) rfl (pi_list (pv 4)) (pg_name (i := 7) nd rfl (Or.inr rfl))
        (pss_cons (ps_set (i := 5) nd rfl (Or.inl rfl) (pe_dn D__with_others hr2 (pa_cons (pv 5) (pa_cons (pe_op op_sub (pv 7) (pv 6)) pa_nil))))
        (pss_cons (ps_set (i := 5) nd rfl (Or.inl rfl) (pe_dn D__with_kept hr2 (pa_cons (pv 5) (pa_cons (pe_lc (own := [("kept", 9), ("low", 10), ("high", 11)]) (g := gTup K 3 (gCons (gName 9) (gCons (gName 10) (gCons (gName 11) gNil)))) (tt := tTest (tOp (rEq) (tVar 9) (tVar 7))) (te := tTup ((tCons (tVar 10) (tCons (tVar 11) tNil)))) rfl nd (pi_tup (pe_pr DE T.ic.cl hr2 (pv 3))) (blkOk_by (own := [("kept", 9), ("low", 10), ("high", 11)]) (N := ["summary", "least", "greatest", "tight", "values", "ways", "following", "value", "_", "kept", "low", "high"]) (sc := defScope s_count_rows) (by decide +kernel)) (fun _ _ _ _ _ => (pg_tup rfl (pgs_cons (pg_name (i := 9) nd rfl (Or.inl rfl)) (pgs_cons (pg_name (i := 10) nd rfl (Or.inl rfl)) (pgs_cons (pg_name (i := 11) nd rfl (Or.inl rfl)) pgs_nil))))) (fun _ _ _ _ _ => (pts_one (pt_cmpR op_eq (pv 9) (pv 7) (nomark _)))) (fun _ _ _ _ _ => (pe_tup (pa_cons (pv 10) (pa_cons (pv 11) pa_nil))))) pa_nil))))
        (pss_one (ps_set (i := 6) nd rfl (Or.inl rfl) (pe_op op_add (pv 7) pe_int))))))
        (pss_one (ps_ret (pe_ix ix_list (pe_dn D__with_others hr2 (pa_cons (pv 5) (pa_cons (pe_op op_sub (pe_op op_add (pv 2) pe_int) (pv 6)) pa_nil))) (pe_pr DM T.ic.cl hr2 (pv 3)) (fun _ _ => rfl)))))))))))), ?_⟩
    have n1 := hv.n1
    refine ⟨_, rfl, v, n, es, rfl, hS, hv, kE, fun hF H1 p s1 hp1 => ?_⟩
    have kF := kF hF
    have vt := hv.tight hF
    refine ⟨_, rfl, a, rfl, a1, a2, ?_⟩
    refine ⟨_, rfl, b, rfl, b1, b2, ?_⟩
    refine ⟨_, rfl, _, n, _, rfl, hp1, fun h => absurd n40 (by omega), fun _ => ?_⟩
    obtain ⟨ts, ets⟩ : ∃ ts, ts = tightL n es := ⟨_, rfl⟩
    rw [← ets] at vt kF hp1
    obtain ⟨p1, dx, us1, e1, hq1, ae, vs, rfl, hae, he⟩ := id hp1
    cases e1
    have hl : vs.length = ts.length := he.len
    have h12 := vt.len
    have ascT : ts.Pairwise fun x y => x.1 ≤ y.1 := by
      rw [List.pairwise_iff_getElem]
      intro i j hi hj hij
      have := vt.asc' (i := i) (j := j) (by omega) hj
      rw [vl_of (List.getElem?_eq_getElem hi), vl_of (List.getElem?_eq_getElem hj)] at this
      exact this
    have tb : ∀ e ∈ ts, -10 ^ 30 ≤ e.1 ∧ e.1 ≤ 10 ^ 30 ∧ 1 ≤ e.2.1 ∧ e.2.1 ≤ e.2.2 ∧ e.2.2 ≤ n := fun e he => by
      obtain ⟨j, hj, rfl⟩ := List.mem_iff_getElem.mp he
      exact vt.at (List.getElem?_eq_getElem hj)
    -- the values, each once
    refine ⟨_, rfl, p, dx, _, rfl, hq1, p, dx, _, _, rfl, hq1, sfl_entries _ _, ae, rfl, ⟨_, SqT.of hae⟩, fun D nD => ?_⟩
    refine sc_tupI (a := ae) (xs := vs) (fun i H' => ∃ (S : Int → Bool) (m : Nat), H' D = some (SetO w D S m) ∧ m ≤ i ∧ (∀ x, S x = true ↔ ∃ j, j < i ∧ vl ts j = x) ∧ Same H1 H') ⟨NoI, 0, upd_same, Nat.le_refl _, fun x => ⟨fun h => Bool.noConfusion h, fun ⟨j, hj, _⟩ => absurd hj (Nat.not_lt_zero j)⟩, Same_new nD⟩
      (fun i H' _ ⟨_, _, _, _, _, s5⟩ => SqT.of (s5 _ _ hae)) ?_ ?_
    · rintro i x H' hx ⟨S, m, hD, hm, hSm, s5⟩
      obtain ⟨e, hei, t, rfl, ht⟩ := pr_at' he hx
      have ht' := s5 _ _ ht
      have hil : i < ts.length := (List.getElem?_eq_some_iff.mp hei).1
      refine ⟨t, _, rfl, SqT.of ht', rfl, _, _, rfl, _, _, rfl, _, _, rfl, rfl, rfl, tyes_of ?_⟩
      rw [if_pos rfl]
      refine ⟨_, rfl, D, e.1, S, m, rfl, rfl, hD, ?_, fun j => S j || decide (j = e.1), _, upd_same, ?_, fun y => ?_, Same_mut s5 nD⟩
      · exact Nat.lt_of_lt_of_le (show m + 1 < 64 by omega) (by decide)
      · split <;> omega
      · dsimp only
        rw [Bool.or_eq_true, decide_eq_true_eq, hSm y]
        constructor
        · rintro (⟨j, hj, h⟩ | h)
          · exact ⟨j, by omega, h⟩
          · exact ⟨i, by omega, by rw [vl_of hei, h]⟩
        · rintro ⟨j, hj, h⟩
          by_cases c : j = i
          · exact .inr (by rw [← h, c, vl_of hei])
          · exact .inl ⟨j, by omega, h⟩
    rintro H2 ⟨S, m, hD, hm, hSm, s2⟩
    rw [hl] at hm hSm
    refine ⟨D, S, m, rfl, hD, by omega, fun ns L hasc hmem hlen nL => ?_⟩
    have sL := Same_new (o := .lst (ns.map V.int)) nL
    have hL := show upd H2 L (.lst (ns.map V.int)) L = some (.lst (ns.map V.int)) from upd_same
    have s13 := s2.trans sL
    obtain ⟨H3, e3⟩ : ∃ H3, H3 = upd H2 L (.lst (ns.map V.int)) := ⟨_, rfl⟩
    rw [← e3] at hL s13 ⊢
    clear e3 sL
    have s03 := s1.trans s13
    have hin : ∀ x, x ∈ ns ↔ ∃ e ∈ ts, e.1 = x := fun x => by
      rw [hmem, hSm]
      constructor
      · rintro ⟨j, hj, rfl⟩
        exact ⟨_, List.mem_of_getElem? (ent_at hj), rfl⟩
      · rintro ⟨e, he, rfl⟩
        obtain ⟨j, hj, rfl⟩ := List.mem_iff_getElem.mp he
        exact ⟨j, hj, vl_of (List.getElem?_eq_getElem hj)⟩
    have hnl : ns.length ≤ 12 := by omega
    dsimp only [gName]
    -- all of them in the range
    refine ⟨_, rfl, L, rfl, ⟨_, SqL.of hL⟩, fun B nB => ?_⟩
    refine lc_list (K := K) (a := L) (xs := ns.map V.int) (fun i H' => H' B = some (.lst (((ns.take i).map fun x => decide (a ≤ x) && decide (x ≤ b)).map V.bl)) ∧ Same H3 H') ⟨upd_same, Same_new nB⟩ (fun i H' _ ⟨_, s5⟩ => SqL.of (s5 _ _ hL)) ?_ ?_
    · rintro i y H' hy ⟨hB, s5⟩
      obtain ⟨x, hx, rfl⟩ : ∃ x, ns[i]? = some x ∧ y = .int x := by
        rw [List.getElem?_map] at hy
        cases e : ns[i]? with
        | none => rw [e] at hy; cases hy
        | some x => rw [e] at hy; exact ⟨x, rfl, (Option.some.inj hy).symm⟩
      have hi : i < ns.length := (List.getElem?_eq_some_iff.mp hx).1
      refine ⟨rfl, tyes_of ?_⟩
      rw [if_pos rfl]
      refine ⟨_, rfl, _, rfl, _, rfl, x, a, b, rfl, _, hB, ?_, ?_, Same_mut s5 nB⟩
      · rw [List.length_map, List.length_map, List.length_take]
        exact small1000 (by omega)
      · rw [upd_same, List.take_add_one, hx, List.map_append, List.map_append]
        rfl
    rintro H4 ⟨hB, s4⟩
    rw [List.length_map, List.take_length] at hB
    refine ⟨B, _, rfl, SqL.of hB, _, rfl, ?_⟩
    have hall : ((ns.map fun x => decide (a ≤ x) && decide (x ≤ b)).all id) = decide (∀ e ∈ ts, a ≤ e.1 ∧ e.1 ≤ b) := by
      rw [List.all_map]
      by_cases c : ∀ e ∈ ts, a ≤ e.1 ∧ e.1 ≤ b
      · rw [decide_eq_true c, List.all_eq_true]
        intro x hx
        obtain ⟨e, he, rfl⟩ := (hin x).mp hx
        have := c e he
        show (decide (a ≤ e.1) && decide (e.1 ≤ b)) = true
        rw [decide_eq_true this.1, decide_eq_true this.2]; rfl
      · rw [decide_eq_false c, List.all_eq_false]
        obtain ⟨e, hne⟩ := Classical.not_forall.mp c
        obtain ⟨he, hne⟩ := Classical.not_imp.mp hne
        refine ⟨e.1, (hin _).mpr ⟨e, he, rfl⟩, fun z => hne ?_⟩
        have z' : (decide (a ≤ e.1) && decide (e.1 ≤ b)) = true := z
        rw [Bool.and_eq_true] at z'
        exact ⟨of_decide_eq_true z'.1, of_decide_eq_true z'.2⟩
    rw [hall]
    have s04 := s03.trans s4
    by_cases hc : ∀ e ∈ ts, a ≤ e.1 ∧ e.1 ≤ b
    case neg =>
      rw [decide_eq_false hc]
      refine iteT ?_
      have := kF H4 s04
      unfold cntR at this
      rw [if_neg hc] at this
      exact this
    rw [decide_eq_true hc]
    refine iteF ?_
    dsimp only [tNext]
    have kF2 : ∀ H', Same H H' → Q (.int ((cntS ts a (b + 1 - a).toNat n.toNat : Nat) : Int)) H' := fun H' s => by
      have := kF H' s
      unfold cntR at this
      rw [if_pos hc] at this
      exact this
    have hL4 := s4 _ _ hL
    have hq4 := (s13.trans s4) _ _ hq1
    obtain ⟨N, hN⟩ : ∃ N : Nat, n = (N : Int) := ⟨n.toNat, by omega⟩
    subst hN
    -- [1] + [0] * many
    refine ⟨(by show 1 ≤ sizeLine; decide), fun z1 nz1 => ⟨(by show 1 ≤ sizeLine; decide), fun z2 nz2 => ?_⟩⟩
    have t2 := Same_new2 (o := .lst [.int 0]) (Same_new (o := .lst [.int 1]) nz1) nz2
    have hz1 := Same_new (o := .lst [.int 0]) nz2 _ _ (show upd H4 z1 (.lst [.int 1]) z1 = some (.lst [.int 1]) from upd_same)
    refine ⟨_, rfl, p, dx, _, rfl, t2 _ _ hq4, p, dx, _, _, rfl, t2 _ _ hq4, sfl_many _ _, z2, _, _, rfl, rfl, upd_same, by omega, by omega, ?_, fun z3 nz3 => ?_⟩
    · exact Nat.le_of_lt (small1000 (by show 1 * (N : Int).toNat ≤ _; omega))
    rw [Int.toNat_natCast]
    have t3 := t2.trans (Same_new (o := .lst (List.replicate N [V.int 0]).flatten) nz3)
    have lz : (List.replicate N [V.int 0]).flatten.length = N := by rw [zeros_some, List.length_replicate]
    refine ⟨z1, z3, _, _, rfl, rfl, Same_new (o := .lst (List.replicate N [V.int 0]).flatten) nz3 _ _ hz1, upd_same, ?_, fun W0 nW0 => ?_⟩
    · rw [lz]
      exact Nat.le_of_lt (small1000 (by show 1 + N ≤ _; omega))
    rw [start_cnts ts a N]
    have t4 := t3.trans (Same_new (o := .lst ((cntsL (cntS ts a 0) N).map V.int)) nW0)
    have hW0 := show upd (upd (upd (upd H4 z1 (.lst [.int 1])) z2 (.lst [.int 0])) z3 (.lst (List.replicate N [V.int 0]).flatten)) W0 (.lst ((cntsL (cntS ts a 0) N).map V.int)) W0 = some (.lst ((cntsL (cntS ts a 0) N).map V.int)) from upd_same
    obtain ⟨H5, e5⟩ : ∃ H5, H5 = upd (upd (upd (upd H4 z1 (.lst [.int 1])) z2 (.lst [.int 0])) z3 (.lst (List.replicate N [V.int 0]).flatten)) W0 (.lst ((cntsL (cntS ts a 0) N).map V.int)) := ⟨_, rfl⟩
    rw [← e5] at t4 hW0 ⊢
    clear e5 t3 t2 hz1
    dsimp only [gName]
    refine ⟨_, rfl, ?_⟩
    dsimp only [gName]
    have s05 := s04.trans t4
    have hL5 := t4 _ _ hL4
    have hq5 := t4 _ _ hq4
    have hae5 := (s13.trans s4).trans t4 _ _ hae
    have he5 := he.mono ((s13.trans s4).trans t4)
    have h105 : (2 * 10 ^ 30 + 4 : Int) ≤ 2 ^ 105 := by decide
    have h110 : (2 * 10 ^ 30 + 100 : Nat) ≤ 2 ^ 110 := by decide
    have nsv : ∀ x ∈ ns, a ≤ x ∧ x ≤ b := fun x hx => by
      obtain ⟨e, he, rfl⟩ := (hin x).mp hx
      exact hc e he
    have tI : ∀ i, i ≤ ns.length → a + (tDone ns a i : Int) = (if i = 0 then a else ns.getD (i - 1) 0 + 1) ∧ a + (tDone ns a i : Int) ≤ b + 1 + (if i = 0 then 2 * 10 ^ 30 else 0) ∧ (tDone ns a i : Int) ≤ 2 * 10 ^ 30 + 1 := fun i hi => by
      unfold tDone
      by_cases c : i = 0
      · rw [if_pos c, if_pos c, if_pos c]
        omega
      · rw [if_neg c, if_neg c, if_neg c]
        have hm : ns.getD (i - 1) 0 ∈ ns := by
          rw [List.getD_eq_getElem?_getD, List.getElem?_eq_getElem (show i - 1 < ns.length by omega)]
          exact List.getElem_mem _
        have := nsv _ hm
        omega
    have hfb : ∀ t : Nat, (t : Int) ≤ 2 * 10 ^ 30 + 2 → ∀ k, k ≤ N → cntS ts a t k ≤ 2 ^ 6600 := fun t ht k hk => Nat.le_trans (cnt_le_chs ts a t k) (chs_le (by omega) (by omega))
    have below : ∀ i (hi : i ≤ ns.length), ∀ e ∈ ts, a + (tDone ns a i : Int) ≤ e.1 → ∃ j, i ≤ j ∧ ∃ h : j < ns.length, ns[j] = e.1 := fun i hi e he hle => by
      obtain ⟨j, hj, ej⟩ := List.mem_iff_getElem.mp ((hin e.1).mpr ⟨e, he, rfl⟩)
      refine ⟨j, ?_, hj, ej⟩
      refine Classical.byContradiction fun z => ?_
      have h1 := (tI i hi).1
      rw [if_neg (by omega), List.getD_eq_getElem?_getD, List.getElem?_eq_getElem (show i - 1 < ns.length by omega)] at h1
      have h1' : a + (tDone ns a i : Int) = ns[i - 1] + 1 := h1
      by_cases c : j = i - 1
      · subst c
        omega
      · have := List.pairwise_iff_getElem.mp hasc j (i - 1) hj (by omega) (by omega)
        omega
    refine ⟨_, rfl, L, rfl, ⟨_, SqL.of hL5⟩, ?_⟩
    refine for_list (K := K) (a := L) (xs := ns.map V.int) (fun i σ H' => ∃ (W : Addr) (y7 : Option V), σ = [some v, some (.int a), some (.int b), some (.ref p), some (.ref L), some (.ref W), some (.int (a + (tDone ns a i : Int))), y7, none, none, none, none] ∧ H' W = some (.lst ((cntsL (cntS ts a (tDone ns a i)) N).map V.int)) ∧ Same H5 H')
      ⟨W0, none, by rw [show a + (tDone ns a 0 : Int) = a by show a + ((0 : Nat) : Int) = a; omega]; rfl, hW0, Same.refl _⟩ (fun i σ H' _ ⟨_, _, _, _, s6⟩ => SqL.of (s6 _ _ hL5)) ?_ ?_
    · rintro i y σ H' hy ⟨W, y7, rfl, hW, s6⟩
      obtain ⟨x, hx, rfl⟩ : ∃ x, ns[i]? = some x ∧ y = .int x := by
        rw [List.getElem?_map] at hy
        cases e : ns[i]? with
        | none => rw [e] at hy; cases hy
        | some x => rw [e] at hy; exact ⟨x, rfl, (Option.some.inj hy).symm⟩
      have hi : i < ns.length := (List.getElem?_eq_some_iff.mp hx).1
      have hxi : ns[i] = x := (List.getElem?_eq_some_iff.mp hx).2
      have hxb := nsv x (List.mem_of_getElem? hx)
      obtain ⟨q1, q2, q3⟩ := tI i (by omega)
      have hlow : a + (tDone ns a i : Int) ≤ x := by
        rw [q1]
        by_cases c : i = 0
        · rw [if_pos c]; exact hxb.1
        · rw [if_neg c, List.getD_eq_getElem?_getD, List.getElem?_eq_getElem (show i - 1 < ns.length by omega)]
          have := List.pairwise_iff_getElem.mp hasc (i - 1) i (by omega) hi (by omega)
          show ns[i - 1] + 1 ≤ x
          omega
      obtain ⟨t, et⟩ : ∃ t, t = tDone ns a i := ⟨_, rfl⟩
      obtain ⟨sz, esz⟩ : ∃ sz : Nat, sz = (x - (a + (t : Int))).toNat := ⟨_, rfl⟩
      rw [← et] at hW hlow q3 ⊢
      dsimp only [gName]
      refine ⟨_, rfl, _, rfl, _, rfl, _, _, rfl, rfl, W, cntS ts a t, N, x - (a + (t : Int)), rfl, hW, by omega, by omega, hfb t (by omega), fun H7 W7 s7 nW7 hW7 => ?_⟩
      rw [← esz, show oth (cntS ts a t) sz = cntS ts a (t + sz) from funext fun k => (cnt_gap (fun e he z => by
        obtain ⟨j, hj1, hj2, hj3⟩ := below i (by omega) e he (by rw [← et]; exact z.1)
        by_cases c : j = i
        · subst c; omega
        · have := List.pairwise_iff_getElem.mp hasc i j hi hj2 (by omega)
          omega) k).symm] at hW7
      dsimp only [gName]
      have hq7 := (s6.trans s7) _ _ hq5
      have hae7 := (s6.trans s7) _ _ hae5
      have he7 := he5.mono (s6.trans s7)
      refine ⟨_, rfl, _, rfl, p, dx, _, rfl, hq7, p, dx, _, _, rfl, hq7, sfl_entries _ _, ae, rfl, ⟨_, SqT.of hae7⟩, fun G nG => ?_⟩
      refine lc_tup (K := K) (a := ae) (xs := vs) (fun m H' => ∃ us : List V, H' G = some (.lst us) ∧ Paired (SpanV H') us ((ts.take m).filter fun e => decide (e.1 = x)) ∧ Same H7 H') ⟨[], upd_same, .nil, Same_new nG⟩ (fun m H' _ ⟨_, _, _, s8⟩ => SqT.of (s8 _ _ hae7)) ?_ ?_
      · rintro m y H8 hy ⟨us, hG, hus, s8⟩
        obtain ⟨e, hei, te, rfl, hte⟩ := pr_at' he7 hy
        have lus : us.length ≤ 12 := by
          rw [Paired.length hus]
          refine Nat.le_trans (List.length_filter_le _ _) ?_
          rw [List.length_take]
          omega
        have etk : (ts.take (m + 1)).filter (fun e => decide (e.1 = x)) = (ts.take m).filter (fun e => decide (e.1 = x)) ++ (if e.1 = x then [e] else []) := by
          rw [List.take_add_one, hei, List.filter_append]
          show _ ++ ([e].filter fun e => decide (e.1 = x)) = _
          rw [List.filter_cons]
          by_cases c : e.1 = x
          · rw [if_pos (decide_eq_true c), if_pos c]; rfl
          · rw [if_neg (by rw [decide_eq_true_iff]; exact c), if_neg c]; rfl
        refine ⟨te, _, rfl, SqT.of (s8 _ _ hte), rfl, _, _, rfl, _, _, rfl, _, _, rfl, rfl, rfl, ?_⟩
        refine ⟨_, rfl, _, rfl, rfl, _, rfl, ite2 (fun c => ?_) (fun c => ?_)⟩
        · have c' : e.1 = x := V.int.inj (of_decide_eq_true c)
          refine ⟨_, rfl, _, rfl, (by show 2 ≤ sizeLine; decide), fun z nz => ?_⟩
          have tz := Same_new (o := .tup [.int e.2.1, .int e.2.2]) nz
          have hG2 := tz _ _ hG
          refine ⟨us, hG2, small1000 (by omega), us ++ [.ref z], upd_same, ?_, Same_mut (s8.trans tz) nG⟩
          rw [etk, if_pos c']
          refine pr_app (Paired.mapP hus fun v w' ⟨t2, ev, et2⟩ => ⟨t2, ev, ?_⟩) (.cons ⟨z, rfl, ?_⟩ .nil)
          · have e3 := tz _ _ et2
            rw [upd_ne (ne_of e3 hG2 (by intro z; cases z))]; exact e3
          · rw [upd_ne (ne_of (show upd H8 z (.tup [.int e.2.1, .int e.2.2]) z = _ from upd_same) hG2 (by intro z; cases z)), upd_same]
        · have c' : ¬ e.1 = x := fun z => c (decide_eq_true (by rw [z]))
          refine ⟨us, hG, ?_, s8⟩
          rw [etk, if_neg c', List.append_nil]
          exact hus
      rintro H8 ⟨us, hG8, hus8, s8⟩
      rw [hl, List.take_length] at hus8
      refine ⟨W7, G, us, _, cntS ts a (t + sz), N, rfl, s8 _ _ hW7, hG8, hus8, by omega, fun e he => by have := tb e (List.mem_filter.mp he).1; omega, fun H9 W9 s9 nW9 hW9 => ?_⟩
      have ex : a + ((t + sz : Nat) : Int) = x := by omega
      have e9 : (fun k => sumTo (fun j => if okS (ts.filter fun e => decide (e.1 = x)) j k = true then cntS ts a (t + sz) j else 0) k) = cntS ts a (t + sz + 1) := by
        funext k
        show _ = sumTo (fun j => if okB ts (a + ((t + sz : Nat) : Int)) j k = true then cntS ts a (t + sz) j else 0) k
        rw [ex]
        rfl
      rw [e9] at hW9
      have et1 : tDone ns a (i + 1) = t + sz + 1 := by
        unfold tDone
        rw [if_neg (by omega), show i + 1 - 1 = i by omega, List.getD_eq_getElem?_getD, hx]
        show (x + 1 - a).toNat = _
        omega
      dsimp only [gName]
      refine ⟨_, rfl, _, _, rfl, rfl, ?_⟩
      dsimp only [gName]
      refine ⟨W9, some (.int x), ?_, by rw [et1]; exact hW9, ((s6.trans s7).trans s8).trans s9⟩
      rw [et1, show a + ((t + sz + 1 : Nat) : Int) = x + 1 by omega]
      rfl
    · rintro σ H' ⟨W, y7, rfl, hW, s6⟩
      rw [List.length_map] at hW ⊢
      obtain ⟨q1, q2, q3⟩ := tI ns.length (Nat.le_refl _)
      obtain ⟨t, et⟩ : ∃ t, t = tDone ns a ns.length := ⟨_, rfl⟩
      rw [← et] at hW q1 q2 q3 ⊢
      refine ⟨_, rfl, _, rfl, _, _, rfl, rfl, _, rfl, _, _, rfl, rfl, W, cntS ts a t, N, b + 1 - (a + (t : Int)), rfl, hW, by omega, by omega, hfb t (by omega), fun H7 W7 s7 nW7 hW7 => ?_⟩
      have hq7 := (s6.trans s7) _ _ hq5
      refine ⟨_, rfl, p, dx, _, rfl, hq7, p, dx, _, _, rfl, hq7, sfl_many _ _, W7, _, _, _, rfl, rfl, SqL.of hW7, at_of (j := N) rfl (cntsL_at (Nat.le_refl _)), ?_⟩
      have := kF2 H7 ((s05.trans s6).trans s7)
      rw [Int.toNat_natCast] at this
      rw [← cnt_gap (fun e he z => by
        obtain ⟨j, hj1, hj2, _⟩ := below ns.length (Nat.le_refl _) e he (by rw [← et]; exact z.1)
        omega) N]
      have eT : t + (b + 1 - (a + (t : Int))).toNat = (b + 1 - a).toNat := by
        by_cases c : ns.length = 0
        · rw [if_pos c] at q1
          omega
        · rw [if_neg c] at q2
          omega
      rw [eT]
      exact this
-- @prem count_rows count_rows X : D_surely_tightened D_check_value D_check_short m_sorted T DE m_all D_is_between DM D__with_others D__with_kept
end
end SR

set_option Elab.async false
set_option linter.all false
set_option maxRecDepth 100000
set_option maxHeartbeats 4000000
/-! Told numbers: _is_told, _check_told, _narrowed, _can_stand. -/
namespace SR
open PySem PySem.Spec PyProof.Rows L2

/-- a tuple of pairs (rank, number) -/
def TV (K : PySem.W.Frag) (H : Hp) (u : V) (T : List (Int × Int)) : Prop := ∃ (a : Addr) (ps : List Addr), u = .ref a ∧ SqT K H a (ps.map V.ref) ∧ Paired (fun p (t : Int × Int) => H p = some (.tup [.int t.1, .int t.2])) ps T
/-- one that the law made -/
def TP (H : Hp) (u : V) (T : List (Int × Int)) : Prop := ∃ (a : Addr) (ps : List Addr), u = .ref a ∧ PlT H a (ps.map V.ref) ∧ Paired (fun p (t : Int × Int) => H p = some (.tup [.int t.1, .int t.2])) ps T
theorem sqT_mono {K : PySem.W.Frag} {H H' : Hp} (s : Same H H') {a : Addr} {xs : List V} (h : SqT K H a xs) : SqT K H' a xs := by
  rcases h with (h | ⟨o, h⟩) | h
  · exact .inl (.inl (s _ _ h))
  · exact .inl (.inr ⟨o, s _ _ h⟩)
  · exact .inr h
theorem TV.mono {K : PySem.W.Frag} {H H' : Hp} (s : Same H H') {u : V} {T : List (Int × Int)} (h : TV K H u T) : TV K H' u T := let ⟨a, ps, e, q, r⟩ := h; ⟨a, ps, e, sqT_mono s q, Paired.mapP r fun _ _ e => s _ _ e⟩
theorem TP.mono {H H' : Hp} (s : Same H H') {u : V} {T : List (Int × Int)} (h : TP H u T) : TP H' u T := let ⟨a, ps, e, q, r⟩ := h; ⟨a, ps, e, q.mono s, Paired.mapP r fun _ _ e => s _ _ e⟩
theorem TP.tv {K : PySem.W.Frag} {H : Hp} {u : V} {T : List (Int × Int)} (h : TP H u T) : TV K H u T := let ⟨a, ps, e, q, r⟩ := h; ⟨a, ps, e, q.seq, r⟩
/-- told numbers that are fine: ranks of a row of n that rise, values that do not fall -/
structure ToldOk (n : Int) (T : List (Int × Int)) : Prop where
  len : T.length ≤ 12
  rk : Rkd n T
  va : ∀ p ∈ T, -10 ^ 30 ≤ p.2 ∧ p.2 ≤ 10 ^ 30
  up : T.Pairwise fun p q => p.1 < q.1 ∧ p.2 ≤ q.2
theorem ToldOk.cons {n : Int} {T : List (Int × Int)} (h : ToldOk n T) : Cons T := by
  have key : ∀ {T : List (Int × Int)}, (T.Pairwise fun p q => p.1 < q.1 ∧ p.2 ≤ q.2) → Cons T := by
    intro T
    induction T with
    | nil => intro _ p hp; cases hp
    | cons a T ih =>
      intro hp p hp1 q hq1
      rw [List.pairwise_cons] at hp
      rcases List.mem_cons.mp hp1 with rfl | hp2 <;> rcases List.mem_cons.mp hq1 with rfl | hq2
      · exact ⟨fun h => by omega, fun _ => rfl⟩
      · have := hp.1 q hq2
        exact ⟨fun _ => this.2, fun h => by omega⟩
      · have := hp.1 p hp2
        exact ⟨fun h => by omega, fun h => by omega⟩
      · exact ih hp.2 p hp2 q hq2
  exact key h.up
section
variable {P : Program} {w : World} {K : PySem.W.Frag} {mg : Str → Option Value} {base : Heap} {C C_NoRow fI : Addr}
def spIsTold : Sp := fun vs H Q _ => ∃ (n : Int) (q : Addr) (t : Int × Int), vs = [.int n, .ref q] ∧ H q = some (.tup [.int t.1, .int t.2]) ∧ 1 ≤ t.1 ∧ t.1 ≤ n ∧ -10 ^ 30 ≤ t.2 ∧ t.2 ≤ 10 ^ 30 ∧ Q (.bl true) H
theorem sc__is_told : FnScope ["many", "thing"] ["many", "thing"] (defScope s__is_told) := ⟨rfl, rfl, rfl, by decide +kernel, rfl, by decide +kernel, by decide +kernel⟩
theorem ok__is_told {f : Addr} {fd : FuncData} (F : Fun K "_is_told" "_is_told" s__is_told f fd)  (m_isinstance : mg "isinstance" = none) (m_tuple : mg "tuple" = none) (m_len : mg "len" = none) (D_is_between : Dn P w K mg base "is_between" ["value", "least", "greatest"] 2 (spBetween)) (D_is_value : Dn P w K mg base "is_value" ["thing"] 3 (spIsValue))  : FnOk P w K mg base CX0 4 f fd ["many", "thing"] (spIsTold) := by
  refine F.ok sc__is_told (fun vs H Q E h => ?_) (fun cdv A outer s H vs Q E hr h => ?_)
  · obtain ⟨n, q, t, rfl, _⟩ := h
    rfl
  · obtain ⟨n, q, t, rfl, hq, h1, h2, h3, h4, k⟩ := h
    have nd := sc__is_told.nd
    have hr2 : Room 2 _ := hr.mono (by decide)
    have hr3 : Room 3 _ := hr.mono (by decide)
    refine ⟨_, pss_one (ps_ret (pe_and (pe_callB call_isi (by rfl) m_isinstance (by decide +kernel) (pa_cons (pv 1) (pa_cons (pe_bltn (v := .ty "tuple") (by rfl) m_tuple (by decide +kernel) rfl) pa_nil))) (pe_and (pe_cmpR op_eq (pe_callB call_len_seq (by rfl) m_len PySem.boot_len (pa_cons (pv 1) pa_nil)) pe_int (nomark _)) (pe_and (pe_dn D_is_between hr2 (pa_cons (pe_ix ix_tup (pv 1) pe_int (fun _ _ => rfl)) (pa_cons pe_int (pa_cons (pv 0) pa_nil)))) (pe_one (pe_dn D_is_value hr3 (pa_cons (pe_ix ix_tup (pv 1) pe_int (fun _ _ => rfl)) pa_nil))))))), ?_⟩
    refine ⟨_, rfl, _, _, _, _, true, rfl, .ty _, .base (.tup hq), kit_ty (by decide +kernel), _, rfl, iteT ?_⟩
    refine ⟨_, rfl, q, _, rfl, .inr (SqT.of hq), rfl, _, rfl, iteT ?_⟩
    refine ⟨_, rfl, q, _, 0, _, rfl, rfl, SqT.of hq, rfl, _, rfl, t.1, 1, n, rfl, ?_⟩
    rw [decide_eq_true h1, decide_eq_true h2]
    refine ⟨_, rfl, iteT ?_⟩
    refine ⟨_, rfl, q, _, 1, _, rfl, rfl, SqT.of hq, rfl, t.2, rfl, ?_⟩
    rw [decide_eq_true h3, decide_eq_true h4]
    exact k
-- @prem _is_told _is_told  : m_isinstance m_tuple m_len D_is_between D_is_value
def spCkTold : Sp := fun vs H Q _ => ∃ (n : Int) (u : V) (T : List (Int × Int)), vs = [.int n, u] ∧ TP H u T ∧ ToldOk n T ∧ ∀ H', Same H H' → Q .non H'
theorem sc__check_told : FnScope ["many", "told", "before", "index", "thing"] ["many", "told"] (defScope s__check_told) := ⟨rfl, rfl, rfl, by decide +kernel, rfl, by decide +kernel, by decide +kernel⟩
theorem ok__check_told {f : Addr} {fd : FuncData} (F : Fun K "_check_told" "_check_told" s__check_told f fd) {tk_MOST_TOLD : Tok} {tk_GREATEST_VALUE : Tok} (m_isinstance : mg "isinstance" = none) (m_tuple : mg "tuple" = none) (m_len : mg "len" = none) (m_MOST_TOLD : mg "MOST_TOLD" = some (.int (12) tk_MOST_TOLD)) (m_GREATEST_VALUE : mg "GREATEST_VALUE" = some (.int (10 ^ 30) tk_GREATEST_VALUE)) (m_enumerate : mg "enumerate" = none) (D__is_told : Dn P w K mg base "_is_told" ["many", "thing"] 4 (spIsTold))  : FnOk P w K mg base CX0 5 f fd ["many", "told"] (spCkTold) := by
  refine F.ok sc__check_told (fun vs H Q E h => ?_) (fun cdv A outer s H vs Q E hr h => ?_)
  · obtain ⟨n, u, T, rfl, _⟩ := h
    rfl
  · obtain ⟨n, u, T, rfl, ⟨a, ps, rfl, hpl, hps⟩, ok, k⟩ := h
    have nd := sc__check_told.nd
    have hr4 : Room 4 _ := hr.mono (by decide)
    refine ⟨_, pss_cons (ps_if (PW.pt (pw_or (pt_not (pt_val (pe_callB call_isi (by rfl) m_isinstance (by decide +kernel) (pa_cons (pv 1) (pa_cons (pe_bltn (v := .ty "tuple") (by rfl) m_tuple (by decide +kernel) rfl) pa_nil))))) (pw_or1 (pt_cmpR op_gt (pe_callB call_len_seq (by rfl) m_len PySem.boot_len (pa_cons (pv 1) pa_nil)) (pe_gi m_MOST_TOLD) (nomark _))))) (pss_one ps_never) pss_nil)
        (pss_cons (ps_set (i := 2) nd rfl (Or.inl rfl) (pe_tup (pa_cons pe_int (pa_cons (pe_un un_neg (pe_gi m_GREATEST_VALUE)) pa_nil))))
        (pss_one (ps_for PassesOwn.never rfl (pi_enumT (by rfl) m_enumerate (pa_cons (pv 1) pa_nil)) (pg_tup rfl (pgs_cons (pg_name (i := 3) nd rfl (Or.inl rfl)) (pgs_cons (pg_name (i := 4) nd rfl (Or.inl rfl)) pgs_nil)))
        (pss_cons (ps_if (PW.pt (pw_or (pt_not (pt_val (pe_dn D__is_told hr4 (pa_cons (pv 0) (pa_cons (pv 4) pa_nil))))) (pw_or (pt_cmpR op_le (pe_ix ix_tup (pv 4) pe_int (fun _ _ => rfl)) (pe_ix ix_tup (pv 2) pe_int (fun _ _ => rfl)) (nomark _)) (pw_or1 (pt_cmpR op_lt (pe_ix ix_tup (pv 4) pe_int (fun _ _ => rfl)) (pe_ix ix_tup (pv 2) pe_int (fun _ _ => rfl)) (nomark _)))))) (pss_one ps_never) pss_nil)
        (pss_one (ps_set (i := 2) nd rfl (Or.inl rfl) (pv 4))))))), ?_⟩
    obtain ⟨o, ha, hod⟩ := id hpl
    have hl : ps.length = T.length := hps.length
    have h12 := ok.len
    refine ⟨_, rfl, _, _, _, _, true, rfl, .ty _, .fTuple ha, kit_ty (by decide +kernel), true, rfl, iteF ?_⟩
    refine ⟨_, rfl, a, _, rfl, .inr hpl.seq, _, _, rfl, rfl, _, rfl, ?_⟩
    rw [List.length_map, decide_eq_false (show ¬ (12 : Int) < (ps.length : Int) by omega)]
    refine iteF ?_
    refine ⟨_, rfl, (by show 2 ≤ sizeLine; decide), fun z nz => ?_⟩
    have tz := Same_new (o := .tup [.int 0, .int (-10 ^ 30)]) nz
    refine ⟨_, rfl, a, ps.map V.ref, rfl, (hpl.mono tz).seq, for_enumT (K := K) (a := a) (xs := ps.map V.ref) (fun i σ H' => ∃ (b : Addr) (r x : Int) (y3 y4 : Option V), σ = [some (.int n), some (.ref a), some (.ref b), y3, y4] ∧ H' b = some (.tup [.int r, .int x]) ∧ Same H H' ∧ ∀ t, T[i]? = some t → r < t.1 ∧ x ≤ t.2)
      ⟨z, 0, -10 ^ 30, none, none, rfl, upd_same, tz, fun t ht => ?_⟩ (fun i σ H' ⟨_, _, _, _, _, _, _, s5, _⟩ => (hpl.mono s5).seq) ?_ ?_⟩
    · have hm := List.mem_of_getElem? ht
      have := ok.rk t hm
      have := ok.va t hm
      exact ⟨by omega, by omega⟩
    · rintro i x Tt σ H' hx ⟨b, r, y, y3, y4, rfl, hb, s5, hn⟩ hT
      obtain ⟨q, rfl, t, ht, hq⟩ : ∃ q, x = .ref q ∧ ∃ t, T[i]? = some t ∧ H q = some (.tup [.int t.1, .int t.2]) := by
        rw [List.getElem?_map] at hx
        cases e : ps[i]? with
        | none => rw [e] at hx; cases hx
        | some q =>
          rw [e] at hx
          obtain ⟨t, ht, hq⟩ := paired_get hps e
          exact ⟨q, (Option.some.inj hx).symm, t, ht, hq⟩
      have s6 : Same H (upd H' Tt (.tup [.int (i : Nat), .ref q])) := Same_new2 s5 hT
      have hq6 := s6 _ _ hq
      have hb6 := Same_new (o := .tup [.int (i : Nat), .ref q]) hT _ _ hb
      have hm := List.mem_of_getElem? ht
      have hrk := ok.rk t hm
      have hva := ok.va t hm
      obtain ⟨g1, g2⟩ := hn t ht
      refine ⟨Tt, _, rfl, SqT.of upd_same, rfl, _, _, rfl, _, _, rfl, rfl, ?_⟩
      refine ⟨_, rfl, _, rfl, n, q, t, rfl, hq6, hrk.1, hrk.2, hva.1, hva.2, true, rfl, iteF ?_⟩
      refine ⟨_, rfl, q, _, 0, _, rfl, rfl, SqT.of hq6, rfl, _, rfl, b, _, 0, _, rfl, rfl, SqT.of hb6, rfl, _, _, rfl, rfl, _, rfl, ?_⟩
      rw [decide_eq_false (show ¬ t.1 ≤ r by omega)]
      refine iteF ?_
      refine ⟨_, rfl, q, _, 1, _, rfl, rfl, SqT.of hq6, rfl, _, rfl, b, _, 1, _, rfl, rfl, SqT.of hb6, rfl, _, _, rfl, rfl, _, rfl, ?_⟩
      rw [decide_eq_false (show ¬ t.2 < y by omega)]
      refine iteF ?_
      refine ⟨_, rfl, q, t.1, t.2, _, _, rfl, hq6, s6, fun t2 ht2 => ?_⟩
      have il : i + 1 < T.length := (List.getElem?_eq_some_iff.mp ht2).1
      have e1 := (List.getElem?_eq_some_iff.mp ht).2
      have e2 := (List.getElem?_eq_some_iff.mp ht2).2
      have := List.pairwise_iff_getElem.mp ok.up i (i + 1) (by omega) il (by omega)
      rw [e1, e2] at this
      exact this
    · rintro σ H' ⟨_, _, _, _, _, rfl, _, s5, _⟩
      exact k H' s5
-- @prem _check_told _check_told  : m_isinstance m_tuple m_len m_MOST_TOLD m_GREATEST_VALUE m_enumerate D__is_told
end
end SR

set_option Elab.async false
set_option linter.all false
set_option maxRecDepth 100000
set_option maxHeartbeats 4000000
/-! Told numbers: _narrowed. -/
namespace SR
open PySem PySem.Spec PyProof.Rows L2

theorem top_is {low m : Int} {l : List Int} (h1 : m ∈ low :: l) (h2 : ∀ x ∈ low :: l, x ≤ m) : m = topD low l := by
  obtain ⟨a, b⟩ := topD_ge l low
  have c : topD low l ≤ m := by
    rcases topD_in l low with e | e
    · rw [e]; exact h2 _ (List.mem_cons_self ..)
    · exact h2 _ (List.mem_cons_of_mem _ e)
  have d : m ≤ topD low l := by
    rcases List.mem_cons.mp h1 with e | e
    · rw [e]; exact a
    · exact b _ e
  omega
theorem bot_is {low m : Int} {l : List Int} (h1 : m ∈ low :: l) (h2 : ∀ x ∈ low :: l, m ≤ x) : m = botD low l := by
  obtain ⟨a, b⟩ := botD_le l low
  have c : m ≤ botD low l := by
    rcases botD_in l low with e | e
    · rw [e]; exact h2 _ (List.mem_cons_self ..)
    · exact h2 _ (List.mem_cons_of_mem _ e)
  have d : botD low l ≤ m := by
    rcases List.mem_cons.mp h1 with e | e
    · rw [e]; exact a
    · exact b _ e
  omega
theorem fm_take {β : Type} {T : List (Int × Int)} {i : Nat} {t : Int × Int} (h : T[i]? = some t) (p : Int × Int → Bool) (f : Int × Int → β) : ((T.take (i + 1)).filter p).map f = ((T.take i).filter p).map f ++ (if p t = true then [f t] else []) := by
  rw [List.take_add_one, h, List.filter_append, List.map_append]
  cases e : p t <;> simp [e]
theorem fm_len (T : List (Int × Int)) (i : Nat) (p : Int × Int → Bool) (f : Int × Int → Int) : (((T.take i).filter p).map f).length ≤ T.length := by
  rw [List.length_map]
  refine Nat.le_trans (List.length_filter_le _ _) ?_
  rw [List.length_take]
  exact Nat.min_le_right _ _
section
variable {P : Program} {w : World} {K : PySem.W.Frag} {mg : Str → Option Value} {base : Heap} {C C_NoRow fI : Addr}
theorem told_at {H : Hp} {ps : List Addr} {T : List (Int × Int)} (hps : Paired (fun p (t : Int × Int) => H p = some (.tup [.int t.1, .int t.2])) ps T) {i : Nat} {x : V} (hx : (ps.map V.ref)[i]? = some x) : ∃ q t, x = .ref q ∧ T[i]? = some t ∧ H q = some (.tup [.int t.1, .int t.2]) := by
  rw [List.getElem?_map] at hx
  cases e : ps[i]? with
  | none => rw [e] at hx; cases hx
  | some q =>
    rw [e] at hx
    obtain ⟨t, ht, hq⟩ := paired_get hps e
    exact ⟨q, t, (Option.some.inj hx).symm, ht, hq⟩
def spNarrow (K : PySem.W.Frag) (C : Addr) : Sp := fun vs H Q _ => ∃ (v u : V) (n : Int) (fs : List Ent) (T : List (Int × Int)), vs = [v, u] ∧ SumV C H v n fs ∧ Valid n fs ∧ TV K H u T ∧ T.length ≤ 20 ∧ (¬ Nar n fs T → ∀ H', Same H H' → Q .non H') ∧
  (Nar n fs T → ∀ H' p, Same H H' → SumV C H' (.ref p) n (tightL n (narE fs T)) → Q (.ref p) H')
theorem sc__narrowed : FnScope ["tight", "told", "entries", "value", "low", "high", "least", "greatest", "rank", "number"] ["tight", "told"] (defScope s__narrowed) := ⟨rfl, rfl, rfl, by decide +kernel, rfl, by decide +kernel, by decide +kernel⟩
set_option maxHeartbeats 16000000 in
theorem ok__narrowed {f : Addr} {fd : FuncData} (F : Fun K "_narrowed" "_narrowed" s__narrowed f fd)  (T : SumT K mg C) (DE : Pr P w K mg base C "entries" 1 (getSp C "_entries")) (m_max : mg "max" = none) (m_min : mg "min" = none) (D_tightened : Dn P w K mg base "tightened" ["summary"] 8 (spTight C)) (DS : DnMk P w K mg base C) (m_tuple : mg "tuple" = none) (DM : Pr P w K mg base C "many" 1 (getSp C "_many"))  : FnOk P w K mg base CX0 9 f fd ["tight", "told"] (spNarrow K C) := by
  refine F.ok sc__narrowed (fun vs H Q E h => ?_) (fun cdv A outer s H vs Q E hr h => ?_)
  · obtain ⟨v, u, n, fs, tl, rfl, _⟩ := h
    rfl
  · obtain ⟨v, u, n, fs, tl, rfl, hS, hv, ⟨a, ps, rfl, hpl, hps⟩, h20, kN, kS⟩ := h
    have nd := sc__narrowed.nd
    have hr2 : Room 2 _ := hr.mono (by decide)
    have hr7 : Room 7 _ := hr.mono (by decide)
    have hr8 : Room 8 _ := hr.mono (by decide)
    refine ⟨_, pss_cons (ps_set (i := 2) nd rfl (Or.inl rfl) (pe_lst pa_nil))
        (pss_cons (ps_for PassesOwn.never rfl (pi_tup (pe_pr DE T.ic.cl hr2 (pv 0))) (pg_tup rfl (pgs_cons (pg_name (i := 3) nd rfl (Or.inr rfl)) (pgs_cons (pg_name (i := 4) nd rfl (Or.inl rfl)) (pgs_cons (pg_name (i := 5) nd rfl (Or.inl rfl)) pgs_nil))))
        (pss_cons (ps_set (i := 6) nd rfl (Or.inl rfl) (pe_callB (cr_max rfl) (by rfl) m_max (by decide +kernel) (pa_cons (pe_op op_cat (pe_lst (pa_cons (pv 4) pa_nil)) (pe_lc (own := [("rank", 8), ("number", 9)]) (g := gTup K 2 (gCons (gName 8) (gCons (gName 9) gNil))) (tt := tTest (tOp (rI0 fun i j => .bl (decide (i < j))) (tVar 9) (tVar 3))) (te := tOp (rI0 fun i j => .int (i + j)) (tVar 8) (tC (.int 1))) rfl nd (pi_tup (pv 1)) (blkOk_by (own := [("rank", 8), ("number", 9)]) (N := ["tight", "told", "entries", "value", "low", "high", "least", "greatest", "rank", "number"]) (sc := defScope s__narrowed) (by decide +kernel)) (fun _ _ _ _ _ => (pg_tup rfl (pgs_cons (pg_name (i := 8) nd rfl (Or.inl rfl)) (pgs_cons (pg_name (i := 9) nd rfl (Or.inl rfl)) pgs_nil)))) (fun _ _ _ _ _ => (pts_one (pt_cmpR op_lt (pv 9) (pv 3) (nomark _)))) (fun _ _ _ _ _ => (pe_op op_add (pv 8) pe_int)))) pa_nil)))
        (pss_cons (ps_set (i := 7) nd rfl (Or.inl rfl) (pe_callB (cr_min rfl) (by rfl) m_min (by decide +kernel) (pa_cons (pe_op op_cat (pe_lst (pa_cons (pv 5) pa_nil)) (pe_lc (own := [("rank", 8), ("number", 9)]) (g := gTup K 2 (gCons (gName 8) (gCons (gName 9) gNil))) (tt := tTest (tOp (rI0 fun i j => .bl (decide (j < i))) (tVar 9) (tVar 3))) (te := tOp (rI0 fun i j => .int (i - j)) (tVar 8) (tC (.int 1))) rfl nd (pi_tup (pv 1)) (blkOk_by (own := [("rank", 8), ("number", 9)]) (N := ["tight", "told", "entries", "value", "low", "high", "least", "greatest", "rank", "number"]) (sc := defScope s__narrowed) (by decide +kernel)) (fun _ _ _ _ _ => (pg_tup rfl (pgs_cons (pg_name (i := 8) nd rfl (Or.inl rfl)) (pgs_cons (pg_name (i := 9) nd rfl (Or.inl rfl)) pgs_nil)))) (fun _ _ _ _ _ => (pts_one (pt_cmpR op_gt (pv 9) (pv 3) (nomark _)))) (fun _ _ _ _ _ => (pe_op op_sub (pv 8) pe_int)))) pa_nil)))
        (pss_cons (ps_if (pt_cmpR op_gt (pv 6) (pv 7) (nomark _)) (pss_one (ps_ret pe_non)) pss_nil)
        (pss_one (ps_expr (pe_bm PySem.F.plainAttrs_list PySem.F.slot_list_append PySem.F.type_list_append mt_append (pv 2) (pa_cons (pe_tup (pa_cons (pv 3) (pa_cons (pv 6) (pa_cons (pv 7) pa_nil)))) pa_nil))))))))
        (pss_one (ps_ret (pe_dn D_tightened hr8 (pa_cons (pe_mkS DS T hr7 (pa_cons (pe_pr DM T.ic.cl hr2 (pv 0)) (pa_cons (pe_callTy (T := "tuple") call_tupK (by rfl) m_tuple (by decide +kernel) (pa_cons (pv 2) pa_nil)) pa_nil))) pa_nil))))), ?_⟩
    obtain ⟨p, dx, us0, rfl, hp, ae, vs, rfl, hae, he⟩ := id hS
    have hl : vs.length = fs.length := he.len
    have hlp : ps.length = tl.length := hps.length
    have h12 := hv.len
    refine ⟨Nat.zero_le _, fun q nq => ?_⟩
    have s0 := Same_new (o := .lst []) nq
    dsimp only [gName]
    refine ⟨_, rfl, p, dx, _, rfl, s0 _ _ hp, p, dx, _, _, rfl, s0 _ _ hp, sfl_entries _ _, ae, rfl, ⟨_, SqT.of (s0 _ _ hae)⟩, ?_⟩
    refine for_tup (K := K) (a := ae) (xs := vs) (fun i σ H' => ∃ (y3 y4 y5 y6 y7 : Option V) (us : List V), σ = [some (.ref p), some (.ref a), some (.ref q), y3, y4, y5, y6, y7, none, none] ∧ H' q = some (.lst us) ∧ EntsV H' us ((narE fs tl).take i) ∧ Same H H' ∧ ∀ j, j < i → ∀ e, fs[j]? = some e → lstT e.2.1 e.1 tl ≤ grtT e.2.2 e.1 tl)
      ⟨none, none, none, none, none, [], rfl, upd_same, .nil, s0, fun j hj => by omega⟩ (fun i σ H' _ ⟨_, _, _, _, _, _, _, _, _, s5, _⟩ => SqT.of (s5 _ _ hae)) ?_ ?_
    · rintro i x σ H' hx ⟨y3, y4, y5, y6, y7, us, rfl, hq, hus, s5, hok⟩
      obtain ⟨e, hei, t, rfl, ht⟩ := pr_at' he hx
      have hil : i < fs.length := (List.getElem?_eq_some_iff.mp hei).1
      have lus : us.length = i := by rw [hus.len, List.length_take, nar_len]; omega
      refine ⟨t, _, rfl, SqT.of (s5 _ _ ht), rfl, _, _, rfl, _, _, rfl, _, _, rfl, rfl, ?_⟩
      dsimp only [gName]
      -- least
      refine ⟨_, rfl, (by show 1 ≤ sizeLine; decide), fun z1 nz1 => ?_⟩
      have t1 := Same_new (o := .lst [.int e.2.1]) nz1
      have hz1 := show upd H' z1 (.lst [.int e.2.1]) z1 = some (.lst [.int e.2.1]) from upd_same
      obtain ⟨H1, e1⟩ : ∃ H1, H1 = upd H' z1 (.lst [.int e.2.1]) := ⟨_, rfl⟩
      rw [← e1] at t1 hz1 ⊢
      clear e1
      have s1 := s5.trans t1
      refine ⟨_, rfl, a, rfl, ⟨_, sqT_mono s1 hpl⟩, fun D nD => ?_⟩
      refine lc_tup (K := K) (a := a) (xs := ps.map V.ref) (fun i H' => H' D = some (.lst ((((tl.take i).filter fun p => decide (p.2 < e.1)).map fun p => p.1 + 1).map V.int)) ∧ Same H1 H') ⟨upd_same, Same_new nD⟩ (fun i H' _ ⟨_, s6⟩ => sqT_mono (s1.trans s6) hpl) ?_ ?_
      · rintro k y H6 hy ⟨hD, s6⟩
        obtain ⟨tq, tt, rfl, htt, htq⟩ := told_at hps hy
        have s16 := s1.trans s6
        refine ⟨tq, _, rfl, SqT.of (s16 _ _ htq), rfl, _, _, rfl, _, _, rfl, rfl, rfl, ?_⟩
        refine ⟨_, rfl, _, rfl, _, _, rfl, rfl, _, rfl, ?_⟩
        refine ite2 (fun c => ?_) (fun c => ?_)
        · refine ⟨_, rfl, _, _, rfl, rfl, _, hD, ?_, ?_, Same_mut s6 nD⟩
          · rw [List.length_map]
            exact small1000 (by have := fm_len tl k (fun p => decide (p.2 < e.1)) (fun p => p.1 + 1); omega)
          · rw [upd_same, fm_take htt, if_pos (show decide (tt.2 < e.1) = true from c), List.map_append]
            rfl
        · refine ⟨?_, s6⟩
          rw [fm_take htt, if_neg (show ¬ decide (tt.2 < e.1) = true from c), List.append_nil]
          exact hD
      rintro H2 ⟨hD2, s2⟩
      rw [List.length_map, hlp, List.take_length] at hD2
      have lA := fm_len tl tl.length (fun p => decide (p.2 < e.1)) (fun p => p.1 + 1)
      rw [List.take_length] at lA
      refine ⟨z1, D, _, _, rfl, rfl, s2 _ _ hz1, hD2, ?_, fun L nL => ?_⟩
      · rw [List.length_map]
        exact Nat.le_of_lt (small1000 (by show 1 + _ ≤ _; omega))
      have t3 := Same_new (o := .lst ([.int e.2.1] ++ (((tl.filter fun p => decide (p.2 < e.1)).map fun p => p.1 + 1).map V.int))) nL
      refine ⟨L, e.2.1 :: ((tl.filter fun p => decide (p.2 < e.1)).map fun p => p.1 + 1), rfl, SqL.of upd_same, by simp, fun m1 hm1 hle1 => ?_⟩
      have em1 : m1 = lstT e.2.1 e.1 tl := top_is hm1 hle1
      subst em1
      have s3 := (s1.trans s2).trans t3
      obtain ⟨H3, e3⟩ : ∃ H3, H3 = upd H2 L (.lst ([.int e.2.1] ++ (((tl.filter fun p => decide (p.2 < e.1)).map fun p => p.1 + 1).map V.int))) := ⟨_, rfl⟩
      have s53 : Same H' H3 := by rw [e3]; exact (t1.trans s2).trans t3
      rw [← e3] at s3 ⊢
      clear e3 t3
      dsimp only [gName]
      -- greatest
      refine ⟨_, rfl, (by show 1 ≤ sizeLine; decide), fun z2 nz2 => ?_⟩
      have u1 := Same_new (o := .lst [.int e.2.2]) nz2
      have hz2 := show upd H3 z2 (.lst [.int e.2.2]) z2 = some (.lst [.int e.2.2]) from upd_same
      obtain ⟨H4, e4⟩ : ∃ H4, H4 = upd H3 z2 (.lst [.int e.2.2]) := ⟨_, rfl⟩
      rw [← e4] at u1 hz2 ⊢
      clear e4
      have s4 := s3.trans u1
      refine ⟨_, rfl, a, rfl, ⟨_, sqT_mono s4 hpl⟩, fun D2 nD2 => ?_⟩
      refine lc_tup (K := K) (a := a) (xs := ps.map V.ref) (fun i H' => H' D2 = some (.lst ((((tl.take i).filter fun p => decide (e.1 < p.2)).map fun p => p.1 - 1).map V.int)) ∧ Same H4 H') ⟨upd_same, Same_new nD2⟩ (fun i H' _ ⟨_, s6⟩ => sqT_mono (s4.trans s6) hpl) ?_ ?_
      · rintro k y H6 hy ⟨hD, s6⟩
        obtain ⟨tq, tt, rfl, htt, htq⟩ := told_at hps hy
        have s16 := s4.trans s6
        refine ⟨tq, _, rfl, SqT.of (s16 _ _ htq), rfl, _, _, rfl, _, _, rfl, rfl, rfl, ?_⟩
        refine ⟨_, rfl, _, rfl, _, _, rfl, rfl, _, rfl, ?_⟩
        refine ite2 (fun c => ?_) (fun c => ?_)
        · refine ⟨_, rfl, _, _, rfl, rfl, _, hD, ?_, ?_, Same_mut s6 nD2⟩
          · rw [List.length_map]
            exact small1000 (by have := fm_len tl k (fun p => decide (e.1 < p.2)) (fun p => p.1 - 1); omega)
          · rw [upd_same, fm_take htt, if_pos (show decide (e.1 < tt.2) = true from c), List.map_append]
            rfl
        · refine ⟨?_, s6⟩
          rw [fm_take htt, if_neg (show ¬ decide (e.1 < tt.2) = true from c), List.append_nil]
          exact hD
      rintro H5 ⟨hD5, s55⟩
      rw [List.length_map, hlp, List.take_length] at hD5
      have lB := fm_len tl tl.length (fun p => decide (e.1 < p.2)) (fun p => p.1 - 1)
      rw [List.take_length] at lB
      refine ⟨z2, D2, _, _, rfl, rfl, s55 _ _ hz2, hD5, ?_, fun L2 nL2 => ?_⟩
      · rw [List.length_map]
        exact Nat.le_of_lt (small1000 (by show 1 + _ ≤ _; omega))
      have t6 := Same_new (o := .lst ([.int e.2.2] ++ (((tl.filter fun p => decide (e.1 < p.2)).map fun p => p.1 - 1).map V.int))) nL2
      refine ⟨L2, e.2.2 :: ((tl.filter fun p => decide (e.1 < p.2)).map fun p => p.1 - 1), rfl, SqL.of upd_same, by simp, fun m2 hm2 hle2 => ?_⟩
      have em2 : m2 = grtT e.2.2 e.1 tl := bot_is hm2 hle2
      subst em2
      have s6 := (s4.trans s55).trans t6
      obtain ⟨H6, e6⟩ : ∃ H6, H6 = upd H5 L2 (.lst ([.int e.2.2] ++ (((tl.filter fun p => decide (e.1 < p.2)).map fun p => p.1 - 1).map V.int))) := ⟨_, rfl⟩
      have s56 : Same H' H6 := by rw [e6]; exact ((s53.trans u1).trans s55).trans t6
      rw [← e6] at s6 ⊢
      clear e6 t6
      dsimp only [gName]
      have e1 := vl_of hei
      have e2 := lo_of hei
      have e3 := hi_of hei
      refine ⟨_, rfl, _, rfl, _, _, rfl, rfl, _, rfl, ?_⟩
      refine ite2 (fun c => ?_) (fun c => ?_)
      · have c' : grtT e.2.2 e.1 tl < lstT e.2.1 e.1 tl := of_decide_eq_true c
        exact kN (fun z => by have := z.1 e (List.mem_of_getElem? hei); omega) _ s6
      · have c' : ¬ grtT e.2.2 e.1 tl < lstT e.2.1 e.1 tl := fun z => c (decide_eq_true z)
        refine ⟨_, rfl, .inl ⟨rfl, _, SqL.of (s56 _ _ hq)⟩, _, rfl, _, rfl, _, rfl, (by show 3 ≤ sizeLine; decide), fun z nz => ?_⟩
        have tz := Same_new (o := .tup [.int e.1, .int (lstT e.2.1 e.1 tl), .int (grtT e.2.2 e.1 tl)]) nz
        have hq2 := tz _ _ (s56 _ _ hq)
        refine ⟨q, us, _, rfl, rfl, hq2, small1000 (by omega), _, _, _, _, _, us ++ [.ref z], rfl, upd_same, ?_, Same_mut (s6.trans tz) nq, fun j hj e' he' => ?_⟩
        · have en : (narE fs tl)[i]? = some (e.1, lstT e.2.1 e.1 tl, grtT e.2.2 e.1 tl) := by rw [nar_at hil, e1, e2, e3]
          rw [List.take_add_one, en]
          refine pr_app (Paired.mapP hus fun v w' ⟨t2, ev, et2⟩ => ⟨t2, ev, ?_⟩) (.cons ⟨z, rfl, ?_⟩ .nil)
          · have et3 := tz _ _ (s56 _ _ et2)
            rw [upd_ne (ne_of et3 hq2 (by intro z; cases z))]; exact et3
          · rw [upd_ne (ne_of (show upd H6 z (.tup [.int e.1, .int (lstT e.2.1 e.1 tl), .int (grtT e.2.2 e.1 tl)]) z = _ from upd_same) hq2 (by intro z; cases z)), upd_same]
        · by_cases ej : j = i
          · subst ej
            rw [hei] at he'
            have := Option.some.inj he'
            rw [← this]
            omega
          · exact hok j (by omega) e' he'
    · rintro σ H' ⟨y3, y4, y5, y6, y7, us, rfl, hq, hus, s5, hok⟩
      rw [hl, ← nar_len (fs := fs) (T := tl), List.take_length] at hus
      have hb : NarB fs tl := fun e he => by
        obtain ⟨j, hj, rfl⟩ := List.mem_iff_getElem.mp he
        exact hok j (by omega) _ (List.getElem?_eq_getElem hj)
      have v2 := nar_valid hv hb
      refine ⟨_, rfl, p, dx, _, rfl, s5 _ _ hp, p, dx, _, _, rfl, s5 _ _ hp, sfl_many _ _, ?_⟩
      refine ⟨_, rfl, q, us, rfl, .inl ⟨SqL.of hq, fun z nz => ?_⟩⟩
      have tz := Same_new (o := .tup us) nz
      refine fun x dx nx nd' ne => sum_mk ⟨z, us, rfl, upd_same, hus.mono tz⟩ v2 nx nd' ne fun H7 s7 hs7 => ?_
      refine ⟨_, n, _, rfl, hs7, v2, ?_, ?_⟩
      · intro hf H8 s8
        exact kN (fun z => hf z.2) _ (((s5.trans tz).trans s7).trans s8)
      · intro hf H8 p8 s8 hp8
        exact kS ⟨hb, hf⟩ _ _ (((s5.trans tz).trans s7).trans s8) hp8
-- @prem _narrowed _narrowed  : T DE m_max m_min D_tightened DS m_tuple DM
end
end SR

set_option Elab.async false
set_option linter.all false
set_option maxRecDepth 100000
set_option maxHeartbeats 4000000
/-! Told numbers: _can_stand, can_have. -/
namespace SR
open PySem PySem.Spec PyProof.Rows L2

/-- a value can stand at a rank beside told numbers -/
def StandP (T : List (Int × Int)) (r x : Int) : Prop := (∀ p ∈ T, p.2 < x → p.1 < r) ∧ ∀ p ∈ T, x < p.2 → r < p.1
instance (T : List (Int × Int)) (r x : Int) : Decidable (StandP T r x) := inferInstanceAs (Decidable ((∀ p ∈ T, p.2 < x → p.1 < r) ∧ ∀ p ∈ T, x < p.2 → r < p.1))
/-- the ranks at which a value can be -/
def ranksL (n : Int) : List Int := (List.range n.toNat).map fun (i : Nat) => 1 + (i : Int)
def canL (n : Int) (es : List Ent) (T : List (Int × Int)) (x : Int) : List Int := ((ranksL n).filter fun r => decide (StandP T r x)).filter fun r => decide (Nar n (tightL n es) (T ++ [(r, x)]))
section
variable {P : Program} {w : World} {K : PySem.W.Frag} {mg : Str → Option Value} {base : Heap} {C C_NoRow C_TooLong fI : Addr}
def spStand (K : PySem.W.Frag) : Sp := fun vs H Q _ => ∃ (u : V) (r x : Int) (T : List (Int × Int)), vs = [u, .int r, .int x] ∧ TV K H u T ∧ T.length ≤ 20 ∧ 1 ≤ r ∧ ∀ H' b, Same H H' → (b = true ↔ StandP T r x) → Q (.bl b) H'
theorem sc__can_stand : FnScope ["told", "rank", "value", "lesser", "greater", "at", "number"] ["told", "rank", "value"] (defScope s__can_stand) := ⟨rfl, rfl, rfl, by decide +kernel, rfl, by decide +kernel, by decide +kernel⟩
set_option maxHeartbeats 16000000 in
theorem ok__can_stand {f : Addr} {fd : FuncData} (F : Fun K "_can_stand" "_can_stand" s__can_stand f fd)  (m_max : mg "max" = none) (m_min : mg "min" = none)  : FnOk P w K mg base CX0 1 f fd ["told", "rank", "value"] (spStand K) := by
  refine F.ok sc__can_stand (fun vs H Q E h => ?_) (fun cdv A outer s H vs Q E hr h => ?_)
  · obtain ⟨u, r, x, tl, rfl, _⟩ := h
    rfl
  · obtain ⟨u, r, x, tl, rfl, ⟨a, ps, rfl, hpl, hps⟩, h20, r1, k⟩ := h
    have nd := sc__can_stand.nd
    refine ⟨_, pss_cons (ps_setLc (i := 3) (own := [("at", 5), ("number", 6)]) (g := gTup K 2 (gCons (gName 5) (gCons (gName 6) gNil))) (tt := tTest (tOp (rI0 fun i j => .bl (decide (i < j))) (tVar 6) (tVar 2))) (te := tVar 5) rfl nd rfl rfl (sw_true rfl rfl rfl (by decide +kernel)) (pi_tup (pv 0)) (blkOk_by (own := [("at", 5), ("number", 6)]) (N := ["told", "rank", "value", "lesser", "greater", "at", "number"]) (sc := defScope s__can_stand) (by decide +kernel)) (fun _ _ _ _ _ => (pg_tup rfl (pgs_cons (pg_name (i := 5) nd rfl (Or.inl rfl)) (pgs_cons (pg_name (i := 6) nd rfl (Or.inl rfl)) pgs_nil)))) (fun _ _ _ _ _ => (pts_one (pt_cmpR op_lt (pv 6) (pv 2) (nomark _)))) (fun _ _ _ _ _ => (pv 5)))
        (pss_cons (ps_setLc (i := 4) (own := [("at", 5), ("number", 6)]) (g := gTup K 2 (gCons (gName 5) (gCons (gName 6) gNil))) (tt := tTest (tOp (rI0 fun i j => .bl (decide (j < i))) (tVar 6) (tVar 2))) (te := tVar 5) rfl nd rfl rfl (sw_true rfl rfl rfl (by decide +kernel)) (pi_tup (pv 0)) (blkOk_by (own := [("at", 5), ("number", 6)]) (N := ["told", "rank", "value", "lesser", "greater", "at", "number"]) (sc := defScope s__can_stand) (by decide +kernel)) (fun _ _ _ _ _ => (pg_tup rfl (pgs_cons (pg_name (i := 5) nd rfl (Or.inl rfl)) (pgs_cons (pg_name (i := 6) nd rfl (Or.inl rfl)) pgs_nil)))) (fun _ _ _ _ _ => (pts_one (pt_cmpR op_gt (pv 6) (pv 2) (nomark _)))) (fun _ _ _ _ _ => (pv 5)))
        (pss_one (ps_ret (pe_chain op_lt op_lt (pe_callBK (cr_maxD rfl) (by rfl) m_max (by decide +kernel) (pa_cons (pv 3) pa_nil) (pk_cons pe_int pk_nil)) (pv 1) (pe_callBK (cr_minD rfl) (by rfl) m_min (by decide +kernel) (pa_cons (pv 4) pa_nil) (pk_cons (pe_op op_add (pv 1) pe_int) pk_nil)))))), ?_⟩
    have hlp : ps.length = tl.length := hps.length
    refine ⟨_, rfl, a, rfl, ⟨_, hpl⟩, fun D nD => ?_⟩
    refine lc_tup (K := K) (a := a) (xs := ps.map V.ref) (fun i H' => H' D = some (.lst ((((tl.take i).filter fun p => decide (p.2 < x)).map fun p => p.1).map V.int)) ∧ Same H H') ⟨upd_same, Same_new nD⟩ (fun i H' _ ⟨_, s6⟩ => sqT_mono s6 hpl) ?_ ?_
    · rintro k y H6 hy ⟨hD, s6⟩
      obtain ⟨tq, tt, rfl, htt, htq⟩ := told_at hps hy
      refine ⟨tq, _, rfl, SqT.of (s6 _ _ htq), rfl, _, _, rfl, _, _, rfl, rfl, rfl, ?_⟩
      refine ⟨_, rfl, _, rfl, _, _, rfl, rfl, _, rfl, ?_⟩
      refine ite2 (fun c => ?_) (fun c => ?_)
      · refine ⟨_, rfl, _, hD, ?_, ?_, Same_mut s6 nD⟩
        · rw [List.length_map]
          exact small1000 (by have := fm_len tl k (fun p => decide (p.2 < x)) (fun p => p.1); omega)
        · rw [upd_same, fm_take htt, if_pos (show decide (tt.2 < x) = true from c), List.map_append]
          rfl
      · refine ⟨?_, s6⟩
        rw [fm_take htt, if_neg (show ¬ decide (tt.2 < x) = true from c), List.append_nil]
        exact hD
    rintro H2 ⟨hD2, s2⟩
    rw [List.length_map, hlp, List.take_length] at hD2
    dsimp only [gName]
    refine ⟨_, rfl, a, rfl, ⟨_, sqT_mono s2 hpl⟩, fun D2 nD2 => ?_⟩
    refine lc_tup (K := K) (a := a) (xs := ps.map V.ref) (fun i H' => H' D2 = some (.lst ((((tl.take i).filter fun p => decide (x < p.2)).map fun p => p.1).map V.int)) ∧ Same H2 H') ⟨upd_same, Same_new nD2⟩ (fun i H' _ ⟨_, s6⟩ => sqT_mono (s2.trans s6) hpl) ?_ ?_
    · rintro k y H6 hy ⟨hD, s6⟩
      obtain ⟨tq, tt, rfl, htt, htq⟩ := told_at hps hy
      refine ⟨tq, _, rfl, SqT.of (s6 _ _ (s2 _ _ htq)), rfl, _, _, rfl, _, _, rfl, rfl, rfl, ?_⟩
      refine ⟨_, rfl, _, rfl, _, _, rfl, rfl, _, rfl, ?_⟩
      refine ite2 (fun c => ?_) (fun c => ?_)
      · refine ⟨_, rfl, _, hD, ?_, ?_, Same_mut s6 nD2⟩
        · rw [List.length_map]
          exact small1000 (by have := fm_len tl k (fun p => decide (x < p.2)) (fun p => p.1); omega)
        · rw [upd_same, fm_take htt, if_pos (show decide (x < tt.2) = true from c), List.map_append]
          rfl
      · refine ⟨?_, s6⟩
        rw [fm_take htt, if_neg (show ¬ decide (x < tt.2) = true from c), List.append_nil]
        exact hD
    rintro H3 ⟨hD3, s3⟩
    rw [List.length_map, hlp, List.take_length] at hD3
    dsimp only [gName]
    have s03 := s2.trans s3
    have m1 : ∀ p : Int × Int, p ∈ tl → p.2 < x → p.1 ∈ (tl.filter fun p => decide (p.2 < x)).map fun p => p.1 := fun p hp h => List.mem_map.mpr ⟨p, List.mem_filter.mpr ⟨hp, decide_eq_true h⟩, rfl⟩
    have m2 : ∀ p : Int × Int, p ∈ tl → x < p.2 → p.1 ∈ (tl.filter fun p => decide (x < p.2)).map fun p => p.1 := fun p hp h => List.mem_map.mpr ⟨p, List.mem_filter.mpr ⟨hp, decide_eq_true h⟩, rfl⟩
    have w1 : ∀ y, y ∈ ((tl.filter fun p => decide (p.2 < x)).map fun p => p.1) → ∃ p ∈ tl, p.2 < x ∧ p.1 = y := fun y hy => by
      obtain ⟨p, hp, e⟩ := List.mem_map.mp hy
      obtain ⟨a1, a2⟩ := List.mem_filter.mp hp
      exact ⟨p, a1, of_decide_eq_true a2, e⟩
    have w2 : ∀ y, y ∈ ((tl.filter fun p => decide (x < p.2)).map fun p => p.1) → ∃ p ∈ tl, x < p.2 ∧ p.1 = y := fun y hy => by
      obtain ⟨p, hp, e⟩ := List.mem_map.mp hy
      obtain ⟨a1, a2⟩ := List.mem_filter.mp hp
      exact ⟨p, a1, of_decide_eq_true a2, e⟩
    refine ⟨_, rfl, D, _, .int 0, rfl, rfl, SqL.of (s3 _ _ hD2), fun x1 o1 => ?_⟩
    obtain ⟨t1, rfl, ht1⟩ : ∃ t1 : Int, x1 = .int t1 ∧ (t1 < r ↔ ∀ p ∈ tl, p.2 < x → p.1 < r) := by
      rcases o1 with ⟨h1, h2⟩ | ⟨m, h1, h2, h3⟩
      · refine ⟨0, h2, fun _ p hp h => ?_, fun _ => by omega⟩
        have := m1 p hp h
        rw [h1] at this
        cases this
      · refine ⟨m, h1, fun h p hp hx => ?_, fun h => ?_⟩
        · have := h3 _ (m1 p hp hx); omega
        · obtain ⟨p, hp, hx, e⟩ := w1 m h2
          rw [← e]
          exact h p hp hx
    refine ⟨_, rfl, _, _, rfl, rfl, _, rfl, ?_⟩
    by_cases c1 : t1 < r
    · rw [if_pos (decide_eq_true c1)]
      refine ⟨_, rfl, _, rfl, _, _, rfl, rfl, D2, _, _, rfl, rfl, SqL.of hD3, fun x2 o2 => ?_⟩
      obtain ⟨t2, rfl, ht2⟩ : ∃ t2 : Int, x2 = .int t2 ∧ (r < t2 ↔ ∀ p ∈ tl, x < p.2 → r < p.1) := by
        rcases o2 with ⟨h1, h2⟩ | ⟨m, h1, h2, h3⟩
        · refine ⟨r + 1, h2, fun _ p hp h => ?_, fun _ => by omega⟩
          have := m2 p hp h
          rw [h1] at this
          cases this
        · refine ⟨m, h1, fun h p hp hx => ?_, fun h => ?_⟩
          · have := h3 _ (m2 p hp hx); omega
          · obtain ⟨p, hp, hx, e⟩ := w2 m h2
            rw [← e]
            exact h p hp hx
      refine ⟨_, _, rfl, rfl, k _ _ s03 ?_⟩
      rw [decide_eq_true_iff]
      exact ⟨fun h => ⟨ht1.mp c1, ht2.mp h⟩, fun h => ht2.mpr h.2⟩
    · rw [if_neg (by simp [c1])]
      exact k _ _ s03 ⟨fun h => Bool.noConfusion h, fun h => absurd (ht1.mpr h.1) c1⟩
-- @prem _can_stand _can_stand  : m_max m_min
theorem cat_T {H : Hp} {Q : VK} {u : V} {T : List (Int × Int)} {z z2 : Addr} {r x : Int} (h : TV K H u T) (hz : H z = some (.tup [.int r, .int x])) (hz2 : H z2 = some (.tup [.ref z])) (hl : T.length ≤ 20) (k : ∀ v H', Same H H' → TV K H' v (T ++ [(r, x)]) → Q v H') : rCatA K u (.ref z2) H Q := by
  obtain ⟨a, ps, rfl, hpl, hps⟩ := h
  have hlp : ps.length = T.length := hps.length
  refine ⟨a, z2, _, _, rfl, rfl, hpl, SqT.of hz2, ?_, fun h => ?_, fun _ h => (nomatch h), fun _ _ p np => ?_⟩
  · rw [List.length_map]
    exact Nat.le_of_lt (small1000 (by show _ + 1 ≤ _; omega))
  · have e : ps = [] := List.map_eq_nil_iff.mp h
    subst e
    have e2 : T = [] := List.length_eq_zero_iff.mp hlp.symm
    subst e2
    exact k _ _ (Same.refl _) ⟨z2, [z], rfl, SqT.of hz2, .cons hz .nil⟩
  · have tp := Same_new (o := .tup (ps.map V.ref ++ [.ref z])) np
    refine k _ _ tp ⟨p, ps ++ [z], rfl, SqT.of ?_, pr_app (Paired.mapP hps fun _ _ e => tp _ _ e) (.cons (tp _ _ hz) .nil)⟩
    rw [upd_same, List.map_append]
    rfl
def spCan (C N : Addr) : Sp := fun vs H Q E => ∃ (v u : V) (n x : Int) (es : List Ent) (T : List (Int × Int)), vs = [v, u, .int x] ∧ SumV C H v n es ∧ Valid n es ∧ n ≤ 40 ∧ TP H u T ∧ ToldOk n T ∧ -10 ^ 30 ≤ x ∧ x ≤ 10 ^ 30 ∧ (¬ Fits n es → ∀ H', Same H H' → E (.ref N) none H') ∧
  (Fits n es → ∀ H' q, Same H H' → H q = none → H' q = some (.lst ((canL n es T x).map V.int)) → Q (.ref q) H')
theorem sc_can_have : FnScope ["summary", "told", "value", "tight", "ranks", "rank"] ["summary", "told", "value"] (defScope s_can_have) := ⟨rfl, rfl, rfl, by decide +kernel, rfl, by decide +kernel, by decide +kernel⟩
set_option maxHeartbeats 16000000 in
theorem ok_can_have {f : Addr} {fd : FuncData} (F : Fun K "can_have" "can_have" s_can_have f fd)  (D_surely_tightened : DnX P w K mg base "surely_tightened" ["summary"] 9 (spSure C C_NoRow)) (D__check_told : Dn P w K mg base "_check_told" ["many", "told"] 5 (spCkTold)) (T : SumT K mg C) (DM : Pr P w K mg base C "many" 1 (getSp C "_many")) (D_check_value : Dn P w K mg base "check_value" ["thing"] 4 (spCkV)) (D_check_short : DnX P w K mg base "check_short" ["summary"] 3 (spCkShort C C_TooLong)) (m_range : mg "range" = none) (D__can_stand : Dn P w K mg base "_can_stand" ["told", "rank", "value"] 1 (spStand K)) (D__narrowed : Dn P w K mg base "_narrowed" ["tight", "told"] 9 (spNarrow K C))  : FnOk P w K mg base (L2N.CX P w) 10 f fd ["summary", "told", "value"] (spCan C C_NoRow) := by
  refine F.okXN sc_can_have (fun vs H Q E h => ?_) (fun cdv A outer s H vs Q E hr h => ?_)
  · obtain ⟨v, u, n, x, es, tl, rfl, _⟩ := h
    rfl
  · obtain ⟨v, u, n, x, es, tl, rfl, hS, hv, n40, hT, ok, x1, x2, kE, kF⟩ := h
    have nd := sc_can_have.nd
    have hr1 : Room 1 _ := hr.mono (by decide)
    have hr2 : Room 2 _ := hr.mono (by decide)
    have hr3 : Room 3 _ := hr.mono (by decide)
    have hr4 : Room 4 _ := hr.mono (by decide)
    have hr5 : Room 5 _ := hr.mono (by decide)
    have hr9 : Room 9 _ := hr.mono (by decide)
    refine ⟨_, pss_cons (ps_set (i := 3) nd rfl (Or.inr rfl) (pe_dnX (W := fun cls d _ H => E cls d H) D_surely_tightened hr9 (L2N.takes_of rfl rfl rfl rfl) (pa_cons (pv 0) pa_nil)))
        (pss_cons (ps_expr (pe_dn D__check_told hr5 (pa_cons (pe_pr DM T.ic.cl hr2 (pv 3)) (pa_cons (pv 1) pa_nil))))
        (pss_cons (ps_expr (pe_dn D_check_value hr4 (pa_cons (pv 2) pa_nil)))
        (pss_cons (ps_expr (pe_dnX (W := fun cls d _ H => E cls d H) D_check_short hr3 (L2N.takes_of rfl rfl rfl rfl) (pa_cons (pv 3) pa_nil)))
        (pss_cons (ps_setLc (i := 4) (own := [("rank", 5)]) (g := gName 5) (tt := tB (tCall (spStand K) [] E0 (tCons (tVar 1) (tCons (tVar 5) (tCons (tVar 2) tNil))))) (te := tVar 5) rfl nd rfl rfl (sw_true rfl rfl rfl (by decide +kernel)) (pi_range2 (by rfl) m_range (pa_cons pe_int (pa_cons (pe_op op_add (pe_pr DM T.ic.cl hr2 (pv 3)) pe_int) pa_nil))) (blkOk_by (own := [("rank", 5)]) (N := ["summary", "told", "value", "tight", "ranks", "rank"]) (sc := defScope s_can_have) (by decide +kernel)) (fun _ _ _ _ _ => (pg_name (i := 5) nd rfl (Or.inl rfl))) (fun _ _ _ _ _ => (pts_one (pt_val (pe_dn D__can_stand hr1 (pa_cons (pv 1) (pa_cons (pv 5) (pa_cons (pv 2) pa_nil))))))) (fun _ _ _ _ _ => (pv 5)))
        (pss_one (ps_ret (pe_lc (own := [("rank", 5)]) (g := gName 5) (tt := tTest (tNotN (tCall (spNarrow K C) [] E0 (tCons (tVar 3) (tCons (tOp (rCatA K) (tVar 1) (tTup ((tCons (tTup ((tCons (tVar 5) (tCons (tVar 2) tNil)))) tNil)))) tNil))))) (te := tVar 5) rfl nd (pi_list (pv 4)) (blkOk_by (own := [("rank", 5)]) (N := ["summary", "told", "value", "tight", "ranks", "rank"]) (sc := defScope s_can_have) (by decide +kernel)) (fun _ _ _ _ _ => (pg_name (i := 5) nd rfl (Or.inl rfl))) (fun _ _ _ _ _ => (pts_one (pt_cmp (pc_notN (pe_dn D__narrowed hr9 (pa_cons (pv 3) (pa_cons (pe_op op_catA (pv 1) (pe_tup (pa_cons (pe_tup (pa_cons (pv 5) (pa_cons (pv 2) pa_nil))) pa_nil))) pa_nil))))))) (fun _ _ _ _ _ => (pv 5))))))))), ?_⟩
    have n1 := hv.n1
    have h12 := ok.len
    refine ⟨_, rfl, v, n, es, rfl, hS, hv, kE, fun hF H1 p s1 hp1 => ?_⟩
    have vt := hv.tight hF
    obtain ⟨p1, dx, us1, e1, hq1, hu1⟩ := id hp1
    cases e1
    refine ⟨_, rfl, p, dx, _, rfl, hq1, p, dx, _, _, rfl, hq1, sfl_many _ _, _, rfl, n, u, tl, rfl, hT.mono s1, ok, fun H2 s2 => ?_⟩
    refine ⟨_, rfl, x, rfl, x1, x2, ?_⟩
    have hp2 := hp1.mono s2
    refine ⟨_, rfl, _, n, _, rfl, hp2, fun h => absurd n40 (by omega), fun _ => ?_⟩
    have hq2 := s2 _ _ hq1
    have hT2 := (hT.mono s1).mono s2
    -- the ranks at which it can stand
    refine ⟨_, rfl, p, dx, _, rfl, hq2, p, dx, _, _, rfl, hq2, sfl_many _ _, _, _, rfl, rfl, _, _, rfl, ⟨by omega, by omega, by omega, by omega⟩, fun D nD => ?_⟩
    rw [show (n + 1 - 1).toNat = n.toNat by omega]
    refine lc_range (lo := 1) (n := n.toNat) (fun i H' => H' D = some (.lst ((((ranksL n).take i).filter fun r => decide (StandP tl r x)).map V.int)) ∧ Same H2 H') ⟨upd_same, Same_new nD⟩ ?_ ?_
    · rintro i H' hi ⟨hD, s5⟩
      have hr : (ranksL n)[i]? = some (1 + (i : Int)) := by unfold ranksL; rw [List.getElem?_map, List.getElem?_range hi]; rfl
      refine ⟨rfl, ?_⟩
      refine ⟨_, rfl, _, rfl, _, rfl, u, 1 + (i : Int), x, tl, rfl, (hT2.mono s5).tv, by omega, by omega, fun H6 b s6 hb => ?_⟩
      refine ⟨b, rfl, ?_⟩
      have hD6 := s6 _ _ hD
      have hll : ∀ (q : Int → Bool), (((ranksL n).take i).filter q).length ≤ 40 := fun q => by
        refine Nat.le_trans (List.length_filter_le _ _) ?_
        rw [List.length_take]
        omega
      cases hbb : b with
      | true =>
        refine iteT ?_
        refine ⟨_, rfl, _, hD6, ?_, ?_, Same_mut (s5.trans s6) nD⟩
        · rw [List.length_map]
          have := hll fun r => decide (StandP tl r x)
          exact small1000 (by omega)
        · rw [upd_same, List.take_add_one, hr, List.filter_append, List.map_append]
          have : decide (StandP tl (1 + (i : Int)) x) = true := decide_eq_true (hb.mp hbb)
          simp [this]
      | false =>
        refine iteF ⟨?_, s5.trans s6⟩
        have : decide (StandP tl (1 + (i : Int)) x) = false := decide_eq_false fun z => by rw [hb.mpr z] at hbb; cases hbb
        rw [List.take_add_one, hr, List.filter_append]
        simp [this]
        exact hD6
    rintro H3 ⟨hD3, s3⟩
    have lr : (ranksL n).length = n.toNat := by unfold ranksL; rw [List.length_map, List.length_range]
    rw [← lr, List.take_length] at hD3
    dsimp only [gName]
    obtain ⟨R, eR⟩ : ∃ R, R = (ranksL n).filter fun r => decide (StandP tl r x) := ⟨_, rfl⟩
    have lR : R.length ≤ 40 := by
      rw [eR]
      refine Nat.le_trans (List.length_filter_le _ _) ?_
      omega
    rw [← eR] at hD3
    have hp3 := hp2.mono s3
    have hT3 := hT2.mono s3
    -- those at which the narrow entries have ranks
    refine ⟨_, rfl, D, rfl, ⟨_, SqL.of hD3⟩, fun D2 nD2 => ?_⟩
    refine lc_list (K := K) (a := D) (xs := R.map V.int) (fun i H' => H' D2 = some (.lst (((R.take i).filter fun r => decide (Nar n (tightL n es) (tl ++ [(r, x)]))).map V.int)) ∧ Same H3 H') ⟨upd_same, Same_new nD2⟩ (fun i H' _ ⟨_, s5⟩ => SqL.of (s5 _ _ hD3)) ?_ ?_
    · rintro i y H' hy ⟨hD, s5⟩
      obtain ⟨r, hr, rfl⟩ : ∃ r, R[i]? = some r ∧ y = .int r := by
        rw [List.getElem?_map] at hy
        cases e : R[i]? with
        | none => rw [e] at hy; cases hy
        | some r => rw [e] at hy; exact ⟨r, rfl, (Option.some.inj hy).symm⟩
      refine ⟨rfl, ?_⟩
      refine ⟨_, rfl, _, rfl, _, rfl, _, rfl, (by show 2 ≤ sizeLine; decide), fun z nz => ⟨(by show 1 ≤ sizeLine; decide), fun z2 nz2 => ?_⟩⟩
      have tz := Same_new (o := .tup [.int r, .int x]) nz
      have hz := show upd H' z (.tup [.int r, .int x]) z = _ from upd_same
      have tz2 := Same_new2 (o := .tup [.ref z]) tz nz2
      have hz1 := Same_new (o := .tup [.ref z]) nz2 _ _ hz
      refine cat_T ((hT3.mono s5).mono tz2).tv hz1 upd_same (by omega) fun v6 H6 s6 hT6 => ?_
      have s56 := (s5.trans tz2).trans s6
      have hll : ∀ (q : Int → Bool), ((R.take i).filter q).length ≤ 40 := fun q => by
        refine Nat.le_trans (List.length_filter_le _ _) ?_
        rw [List.length_take]
        omega
      refine ⟨_, v6, n, _, _, rfl, hp3.mono s56, vt, hT6, by rw [List.length_append]; show _ + 1 ≤ 20; omega, fun hno H7 s7 => ?_, fun hyes H7 p7 s7 hp7 => ?_⟩
      · refine ⟨_, rfl, ?_⟩
        rw [decide_eq_true (show V.non = V.non from rfl)]
        refine iteF ⟨?_, s56.trans s7⟩
        rw [List.take_add_one, hr, List.filter_append]
        simp [hno]
        exact s7 _ _ (s6 _ _ (tz2 _ _ hD))
      · refine ⟨_, rfl, ?_⟩
        rw [decide_eq_false (show ¬ V.ref p7 = V.non from fun z => nomatch z)]
        refine iteT ?_
        refine ⟨_, rfl, _, s7 _ _ (s6 _ _ (tz2 _ _ hD)), ?_, ?_, Same_mut (s56.trans s7) nD2⟩
        · rw [List.length_map]
          have := hll fun r => decide (Nar n (tightL n es) (tl ++ [(r, x)]))
          exact small1000 (by omega)
        · rw [upd_same, List.take_add_one, hr, List.filter_append, List.map_append]
          simp [hyes]
    rintro H4 ⟨hD4, s4⟩
    rw [List.length_map, List.take_length] at hD4
    have s04 := ((s1.trans s2).trans s3).trans s4
    refine kF hF _ _ s04 ?_ (by rw [eR] at hD4; exact hD4)
    exact ((s1.trans s2).trans s3).free nD2
-- @prem can_have can_have X : D_surely_tightened D__check_told T DM D_check_value D_check_short m_range D__can_stand D__narrowed
end
end SR

set_option Elab.async false
set_option linter.all false
set_option maxRecDepth 100000
set_option maxHeartbeats 4000000
/-! Told numbers: row_with. -/
namespace SR
open PySem PySem.Spec PyProof.Rows L2

/-- the dict holds just what g tells -/
structure DictIs (kvs : List (Key × V)) (g : Int → Option Int) : Prop where
  val : ∀ k : Int, valV kvs (Sum.inl k) = (g k).map V.int
  all : ∀ p ∈ kvs, ∃ k x : Int, p = (Sum.inl k, .int x) ∧ g k = some x
theorem DictIs.nil : DictIs [] fun _ => none := ⟨fun _ => rfl, fun _ h => (nomatch h)⟩
theorem DictIs.put {kvs : List (Key × V)} {g : Int → Option Int} (h : DictIs kvs g) (k0 x0 : Int) : DictIs (putK kvs (Sum.inl k0) (.int x0)) fun k => if k = k0 then some x0 else g k where
  val := fun k => by
    rw [valV_put, h.val]
    by_cases c : k = k0
    · rw [if_pos c, if_pos (by rw [c])]; rfl
    · rw [if_neg c, if_neg (by intro z; injection z with z; exact c z)]
  all := fun p hp => by
    unfold putK at hp
    split at hp
    · obtain ⟨q, hq, e⟩ := List.mem_map.mp hp
      obtain ⟨k, x, rfl, hg⟩ := h.all q hq
      by_cases c : k = k0
      · rw [if_pos (show (Sum.inl k, V.int x).1 = Sum.inl k0 by rw [c])] at e
        exact ⟨k, x0, e.symm, if_pos c⟩
      · rw [if_neg (show ¬ (Sum.inl k, V.int x).1 = (Sum.inl k0 : Key) from fun z => c (Sum.inl.inj z))] at e
        exact ⟨k, x, e.symm, by rw [if_neg c]; exact hg⟩
    · rename_i hn
      rcases List.mem_append.mp hp with hp | hp
      · obtain ⟨k, x, rfl, hg⟩ := h.all p hp
        have c : k ≠ k0 := fun z => hn (List.any_eq_true.mpr ⟨_, hp, decide_eq_true (by rw [z])⟩)
        exact ⟨k, x, rfl, by rw [if_neg c]; exact hg⟩
      · rw [List.mem_singleton.mp hp]
        exact ⟨k0, x0, rfl, if_pos rfl⟩
def kvT (T : List (Int × Int)) : List (Key × V) := T.map fun p => (Sum.inl p.1, V.int p.2)
theorem DictIs.merge : ∀ {T : List (Int × Int)} {kvs : List (Key × V)} {g : Int → Option Int}, DictIs kvs g → DictIs (mergeK kvs (kvT T)) (ovr g T)
  | [], _, _, h => h
  | p :: T, kvs, g, h => DictIs.merge (T := T) (kvs := putK kvs (Sum.inl p.1) (.int p.2)) (g := fun k => if k = p.1 then some p.2 else g k) (h.put p.1 p.2)
theorem DictIs.vals {kvs : List (Key × V)} {g : Int → Option Int} (h : DictIs kvs g) : ∃ ns : List Int, kvs.map Prod.snd = ns.map V.int ∧ ∀ a, a ∈ ns ↔ ∃ k, g k = some a := by
  have key : ∀ l : List (Key × V), (∀ p ∈ l, ∃ k x : Int, p = (Sum.inl k, .int x) ∧ g k = some x) → ∃ ns : List Int, l.map Prod.snd = ns.map V.int ∧ (∀ a ∈ ns, ∃ k, g k = some a) ∧ ∀ k x, ((Sum.inl k, V.int x) : Key × V) ∈ l → x ∈ ns := by
    intro l
    induction l with
    | nil => intro _; exact ⟨[], rfl, fun a ha => (nomatch ha), fun k x hx => (nomatch hx)⟩
    | cons p l ih =>
      intro hl
      obtain ⟨ns, e1, e2, e3⟩ := ih fun q hq => hl q (List.mem_cons_of_mem _ hq)
      obtain ⟨k, x, rfl, hg⟩ := hl p (List.mem_cons_self ..)
      refine ⟨x :: ns, by rw [List.map_cons, List.map_cons, e1], fun a ha => ?_, fun k2 x2 hx => ?_⟩
      · rcases List.mem_cons.mp ha with rfl | ha
        · exact ⟨k, hg⟩
        · exact e2 a ha
      · rcases List.mem_cons.mp hx with e | hx
        · have : x2 = x := by injection e with _ e; exact V.int.inj e
          rw [this]; exact List.mem_cons_self ..
        · exact List.mem_cons_of_mem _ (e3 k2 x2 hx)
  obtain ⟨ns, e1, e2, e3⟩ := key kvs h.all
  refine ⟨ns, e1, fun a => ⟨e2 a, fun ⟨k, hk⟩ => e3 k a ?_⟩⟩
  have hv := h.val k
  rw [hk] at hv
  unfold valV at hv
  cases ef : kvs.find? (fun kv => decide (kv.1 = Sum.inl k)) with
  | none => rw [ef] at hv; cases hv
  | some q =>
    rw [ef] at hv
    have h1 := List.mem_of_find?_eq_some ef
    have h2 := List.find?_some ef
    have h3 : q.1 = Sum.inl k := of_decide_eq_true h2
    have h4 : q.2 = V.int a := Option.some.inj hv
    have : q = (Sum.inl k, V.int a) := Prod.ext h3 h4
    rw [← this]
    exact h1
theorem opt_minL {ns : List Int} {x : V} (o : OptMin ns (.int 0) x) : x = .int (minL ns) := by
  rcases o with ⟨rfl, rfl⟩ | ⟨m, rfl, h1, h2⟩
  · rfl
  · have hn : ns ≠ [] := fun e => by rw [e] at h1; cases h1
    have a := minL_le h1
    have b := h2 _ (minL_in hn)
    rw [show m = minL ns by omega]
theorem kvT_pairs {K : PySem.W.Frag} {H : Hp} : ∀ {ps : List Addr} {T : List (Int × Int)}, Paired (fun p (t : Int × Int) => H p = some (.tup [.int t.1, .int t.2])) ps T → Paired (fun p (kv : Key × V) => SqT K H p [kV kv.1, kv.2]) ps (kvT T)
  | _, _, .nil => .nil
  | _, _, .cons h t => .cons (SqT.of h) (kvT_pairs t)
theorem kvT_merge {T : List (Int × Int)} (h : T.Pairwise fun p q => p.1 < q.1 ∧ p.2 ≤ q.2) : mergeK [] (kvT T) = kvT T := by
  refine merge_nd ?_ fun _ _ => rfl
  unfold kvT
  rw [List.map_map]
  refine List.pairwise_map.mpr (h.imp fun {a b} q e => ?_)
  have : a.1 = b.1 := Sum.inl.inj e
  omega
section
variable {P : Program} {w : World} {K : PySem.W.Frag} {mg : Str → Option Value} {base : Heap} {C C_NoRow C_TooLong fI : Addr}
def spRowWith (C N : Addr) : Sp := fun vs H Q E => ∃ (v u : V) (n : Int) (es : List Ent) (T : List (Int × Int)), vs = [v, u] ∧ SumV C H v n es ∧ Valid n es ∧ n ≤ 40 ∧ TP H u T ∧ ToldOk n T ∧ (¬ Fits n es → ∀ H', Same H H' → E (.ref N) none H') ∧
  (Fits n es → (¬ Nar n (tightL n es) T → ∀ H', Same H H' → Q .non H') ∧
    (Nar n (tightL n es) T → ∀ H' p, Same H H' → H' p = some (.tup ((rowN n (tightL n (narE (tightL n es) T)) T).map V.int)) → Q (.ref p) H'))
theorem sc_row_with : FnScope ["summary", "told", "tight", "narrow", "numbers", "value", "low", "_"] ["summary", "told"] (defScope s_row_with) := ⟨rfl, rfl, rfl, by decide +kernel, rfl, by decide +kernel, by decide +kernel⟩
set_option maxHeartbeats 16000000 in
theorem ok_row_with {f : Addr} {fd : FuncData} (F : Fun K "row_with" "row_with" s_row_with f fd)  (D_surely_tightened : DnX P w K mg base "surely_tightened" ["summary"] 9 (spSure C C_NoRow)) (D__check_told : Dn P w K mg base "_check_told" ["many", "told"] 5 (spCkTold)) (T : SumT K mg C) (DM : Pr P w K mg base C "many" 1 (getSp C "_many")) (D_check_short : DnX P w K mg base "check_short" ["summary"] 3 (spCkShort C C_TooLong)) (D__narrowed : Dn P w K mg base "_narrowed" ["tight", "told"] 9 (spNarrow K C)) (DE : Pr P w K mg base C "entries" 1 (getSp C "_entries")) (m_dict : mg "dict" = none) (D_filled : Dn P w K mg base "filled" ["many", "numbers", "first"] 1 (spFilled)) (m_min : mg "min" = none)  : FnOk P w K mg base (L2N.CX P w) 10 f fd ["summary", "told"] (spRowWith C C_NoRow) := by
  refine F.okXN sc_row_with (fun vs H Q E h => ?_) (fun cdv A outer s H vs Q E hr h => ?_)
  · obtain ⟨v, u, n, es, tl, rfl, _⟩ := h
    rfl
  · obtain ⟨v, u, n, es, tl, rfl, hS, hv, n40, hT, ok, kE, kF⟩ := h
    have nd := sc_row_with.nd
    have hr1 : Room 1 _ := hr.mono (by decide)
    have hr2 : Room 2 _ := hr.mono (by decide)
    have hr3 : Room 3 _ := hr.mono (by decide)
    have hr5 : Room 5 _ := hr.mono (by decide)
    have hr9 : Room 9 _ := hr.mono (by decide)
    refine ⟨_, pss_cons (ps_set (i := 2) nd rfl (Or.inl rfl) (pe_dnX (W := fun cls d _ H => E cls d H) D_surely_tightened hr9 (L2N.takes_of rfl rfl rfl rfl) (pa_cons (pv 0) pa_nil)))
        (pss_cons (ps_expr (pe_dn D__check_told hr5 (pa_cons (pe_pr DM T.ic.cl hr2 (pv 2)) (pa_cons (pv 1) pa_nil))))
        (pss_cons (ps_expr (pe_dnX (W := fun cls d _ H => E cls d H) D_check_short hr3 (L2N.takes_of rfl rfl rfl rfl) (pa_cons (pv 2) pa_nil)))
        (pss_cons (ps_set (i := 3) nd rfl (Or.inl rfl) (pe_dn D__narrowed hr9 (pa_cons (pv 2) (pa_cons (pv 1) pa_nil))))
        (pss_cons (ps_if (pt_cmp (pc_isN (pv 3))) (pss_one (ps_ret pe_non)) pss_nil)
        (pss_cons (ps_setDc (j := 4) (own := [("value", 5), ("low", 6), ("_", 7)]) (g := gTup K 3 (gCons (gName 5) (gCons (gName 6) (gCons (gName 7) gNil)))) (tt := tYes) (tk := tVar 6) (tv := tVar 5) rfl nd rfl rfl (swd_true rfl rfl rfl (by decide +kernel)) (pi_tup (pe_pr DE T.ic.cl hr2 (pv 3))) (blkOk_by (own := [("value", 5), ("low", 6), ("_", 7)]) (N := ["summary", "told", "tight", "narrow", "numbers", "value", "low", "_"]) (sc := defScope s_row_with) (by decide +kernel)) (fun _ _ _ _ _ => (pg_tup rfl (pgs_cons (pg_name (i := 5) nd rfl (Or.inl rfl)) (pgs_cons (pg_name (i := 6) nd rfl (Or.inl rfl)) (pgs_cons (pg_name (i := 7) nd rfl (Or.inl rfl)) pgs_nil))))) (fun _ _ _ _ _ => pts_nil) (fun _ _ _ _ _ => (pv 6)) (fun _ _ _ _ _ => (pv 5)))
        (pss_cons (ps_expr (pe_dupd (pv 4) (pe_callTy (T := "dict") (call_dictT rfl) (by rfl) m_dict (by decide +kernel) (pa_cons (pv 1) pa_nil)) ⟨rfl, rfl, rfl, rfl⟩))
        (pss_one (ps_ret (pe_dn D_filled hr1 (pa_cons (pe_pr DM T.ic.cl hr2 (pv 2)) (pa_cons (pv 4) (pa_cons (pe_callBK (cr_minVD rfl) (by rfl) m_min (by decide +kernel) (pa_cons (pe_vals (pv 4)) pa_nil) (pk_cons pe_int pk_nil)) pa_nil)))))))))))), ?_⟩
    have n1 := hv.n1
    have h12 := ok.len
    refine ⟨_, rfl, v, n, es, rfl, hS, hv, kE, fun hF H1 p s1 hp1 => ?_⟩
    obtain ⟨kN, kR⟩ := kF hF
    have vt := hv.tight hF
    obtain ⟨p1, dx, us1, e1, hq1, hu1⟩ := id hp1
    cases e1
    refine ⟨_, rfl, p, dx, _, rfl, hq1, p, dx, _, _, rfl, hq1, sfl_many _ _, _, rfl, n, u, tl, rfl, hT.mono s1, ok, fun H2 s2 => ?_⟩
    have hp2 := hp1.mono s2
    refine ⟨_, rfl, _, n, _, rfl, hp2, fun h => absurd n40 (by omega), fun _ => ?_⟩
    have hq2 := s2 _ _ hq1
    have hT2 := (hT.mono s1).mono s2
    have s02 := s1.trans s2
    refine ⟨_, rfl, _, rfl, _, u, n, _, tl, rfl, hp2, vt, hT2.tv, by omega, fun hno H3 s3 => ?_, fun hyes H3 pn s3 hpn => ?_⟩
    · refine ⟨_, rfl, _, rfl, ?_⟩
      rw [decide_eq_true (show V.non = V.non from rfl)]
      exact iteT (kN hno _ (s02.trans s3))
    refine ⟨_, rfl, _, rfl, ?_⟩
    rw [decide_eq_false (show ¬ V.ref pn = V.non from fun z => nomatch z)]
    refine iteF ?_
    dsimp only [tNext]
    have s03 := s02.trans s3
    obtain ⟨hb, hF2⟩ := hyes
    have v2 := nar_valid vt hb
    obtain ⟨ts, ets⟩ : ∃ ts, ts = tightL n (narE (tightL n es) tl) := ⟨_, rfl⟩
    obtain ⟨pn1, dn, un, en, hqn, an, vs, eu, han, hen⟩ := id hpn
    cases en
    cases eu
    rw [← ets] at hen
    have lts : ts.length ≤ 12 := by rw [ets, tight_len, nar_len, tight_len]; exact hv.len
    have hl : vs.length = ts.length := hen.len
    -- the dict of the lows
    refine ⟨_, rfl, pn, dn, _, rfl, hqn, pn, dn, _, _, rfl, hqn, sfl_entries _ _, an, rfl, ⟨_, SqT.of han⟩, fun D nD => ?_⟩
    refine dc_tup (K := K) (a := an) (xs := vs) (fun i H' => ∃ kvs, H' D = some (.dK kvs) ∧ kvs.length ≤ i ∧ DictIs kvs (gE ts i) ∧ Same H3 H') ⟨[], upd_same, Nat.le_refl _, DictIs.nil, Same_new nD⟩ (fun i H' _ ⟨_, _, _, _, s5⟩ => SqT.of (s5 _ _ han)) ?_ ?_
    · rintro i x H' hx ⟨kvs, hD, hk, hg, s5⟩
      obtain ⟨e, hei, t, rfl, ht⟩ := pr_at' hen hx
      have hil : i < ts.length := (List.getElem?_eq_some_iff.mp hei).1
      refine ⟨t, _, rfl, SqT.of (s5 _ _ ht), rfl, _, _, rfl, _, _, rfl, _, _, rfl, rfl, rfl, tyes_of ?_⟩
      rw [if_pos rfl]
      refine ⟨_, rfl, _, rfl, kvs, Sum.inl e.2.1, rfl, hD, small1000 (by omega), _, upd_same, ?_, ?_, Same_mut s5 nD⟩
      · have := length_putK kvs (Sum.inl e.2.1) (V.int e.1)
        omega
      · have h := hg.put e.2.1 e.1
        rw [← lo_of hei, ← vl_of hei] at h ⊢
        exact h
    rintro H4 ⟨kvs, hD4, hk4, hg4, s4⟩
    rw [hl] at hg4 hk4
    dsimp only [gName]
    have s04 := s03.trans s4
    -- what is told over it
    refine ⟨_, rfl, D, rfl, .inl ⟨kvs, .inl hD4⟩, ?_⟩
    obtain ⟨at_, pst, rfl, hpl, hps⟩ := id hT
    have hps4 : Paired (fun p (t : Int × Int) => H4 p = some (.tup [.int t.1, .int t.2])) pst tl := Paired.mapP hps fun _ _ e => s04 _ _ e
    refine ⟨_, rfl, at_, pst, kvT tl, rfl, hpl.mono s04, kvT_pairs hps4, fun D2 nD2 => ?_⟩
    rw [kvT_merge ok.up]
    have t5 := Same_new (o := .dK (kvT tl)) nD2
    have hD5 := t5 _ _ hD4
    have ltl : (kvT tl).length = tl.length := by unfold kvT; rw [List.length_map]
    refine ⟨D2, kvs, kvT tl, rfl, ne_of_none hD4 nD2 |>.symm, hD5, upd_same, Nat.le_of_lt (small1000 (by omega)), ?_⟩
    have hg6 : DictIs (mergeK kvs (kvT tl)) (ovr (gE ts ts.length) tl) := hg4.merge
    have s06 : Same H (upd (upd H4 D2 (.dK (kvT tl))) D (.dK (mergeK kvs (kvT tl)))) := Same_mut ((s03.trans s4).trans t5) (s03.free nD)
    obtain ⟨H6, e6⟩ : ∃ H6, H6 = upd (upd H4 D2 (.dK (kvT tl))) D (.dK (mergeK kvs (kvT tl))) := ⟨_, rfl⟩
    have hD6 : H6 D = some (.dK (mergeK kvs (kvT tl))) := by rw [e6]; exact upd_same
    have h36 : Same H3 H6 := by rw [e6]; exact Same_mut (s4.trans t5) nD
    rw [← e6] at s06 ⊢
    clear e6
    have hq6 := h36 _ _ (s3 _ _ hq2)
    -- the row
    refine ⟨_, rfl, p, dx, _, rfl, hq6, p, dx, _, _, rfl, hq6, sfl_many _ _, _, rfl, _, rfl, D, _, rfl, hD6, fun pv npv => ?_⟩
    have t7 := Same_new (o := viewO "dict_values" pv D) npv
    obtain ⟨ns, hns, hmem⟩ := hg6.vals
    refine ⟨pv, D, _, ns, .int 0, rfl, rfl, upd_same, t7 _ _ hD6, hns, fun x ox => ?_⟩
    rw [opt_minL ox]
    have hc := ok.cons
    obtain ⟨_, hat⟩ := ovr_asc (f := minL ((tightL n (narE (tightL n es) tl)).map (·.1) ++ tl.map (·.2))) vt hb hF2 hc (fun j hj => by
      refine minL_le (List.mem_append_left _ (List.mem_map.mpr ⟨_, List.mem_of_getElem? (tight_at (n := n) (es := narE (tightL n es) tl) (j := j) (by rw [nar_len]; exact hj)), ?_⟩))
      show vl (narE (tightL n es) tl) j = vl (tightL n es) j
      rw [vl_of (nar_at (T := tl) hj)]) (fun p hp => minL_le (List.mem_append_right _ (List.mem_map.mpr ⟨p, hp, rfl⟩)))
    rw [← ets] at hat
    have emin : minL ns = minL (ts.map (·.1) ++ tl.map (·.2)) := minL_same fun a => by
      rw [hmem, List.mem_append]
      constructor
      · rintro ⟨k, hk⟩
        rcases ovr_is hc hk with h | ⟨h, _⟩
        · exact .inr (List.mem_map.mpr ⟨_, h, rfl⟩)
        · obtain ⟨j, hj, _, rfl⟩ := gE_is h
          exact .inl (List.mem_map.mpr ⟨_, List.mem_of_getElem? (ent_at hj), rfl⟩)
      · rintro (h | h)
        · obtain ⟨e, he, rfl⟩ := List.mem_map.mp h
          obtain ⟨j, hj, rfl⟩ := List.mem_iff_getElem.mp he
          have hj2 : j < (narE (tightL n es) tl).length := by rw [ets, tight_len] at hj; exact hj
          refine ⟨_, (hat j hj2).trans ?_⟩
          have h1 := (tl_parts (n := n) hj2).1
          rw [← ets, vl_of (List.getElem?_eq_getElem hj)] at h1
          rw [h1]
        · obtain ⟨p, hp, rfl⟩ := List.mem_map.mp h
          exact ⟨p.1, ovr_some hc hp⟩
    rw [emin]
    refine ⟨n, _, D, _, _, rfl, by omega, n40, t7 _ _ hD6, hg6.val, fun H8 r s8 nr hr8 => ?_⟩
    refine kR ⟨hb, hF2⟩ H8 r ((s06.trans t7).trans s8) ?_
    rw [← ets]
    exact hr8
-- @prem row_with row_with X : D_surely_tightened D__check_told T DM D_check_short D__narrowed DE m_dict D_filled m_min
end
end SR

set_option Elab.async false
set_option linter.all false
set_option maxRecDepth 100000
set_option maxHeartbeats 4000000
/-! check_value of any value. -/
namespace SR
open PySem PySem.Spec PyProof.Rows L2
section
variable {P : Program} {w : World} {K : PySem.W.Frag} {mg : Str → Option Value} {base : Heap} {C_BadValue C_BadRank fI : Addr}
def spCkValA (K : PySem.W.Frag) (C : Addr) : Sp := fun vs H Q E => ∃ (v : V) (T : String), vs = [v] ∧ Any K H v T ∧ (betV v (-10 ^ 30) (10 ^ 30) = false → E (.ref C) none H) ∧ (betV v (-10 ^ 30) (10 ^ 30) = true → Q .non H)
theorem sc_check_valueA : FnScope ["thing"] ["thing"] (defScope s_check_value) := ⟨rfl, rfl, rfl, by decide +kernel, rfl, by decide +kernel, by decide +kernel⟩
theorem ok_check_valueA {f : Addr} {fd : FuncData} (F : Fun K "check_value" "check_value" s_check_value f fd)  (D_is_value : Dn P w K mg base "is_value" ["thing"] 3 (spIsValueA K)) (T_BadValue : NzTxt K mg "BadValue" C_BadValue fI)  : FnOk P w K mg base (L2N.CX P w) 4 f fd ["thing"] (spCkValA K C_BadValue) := by
  refine F.okXN sc_check_valueA (fun vs H Q E h => ?_) (fun cdv A outer s H vs Q E hr h => ?_)
  · obtain ⟨v, T, rfl, _⟩ := h
    rfl
  · obtain ⟨v, T, rfl, hv, kE, kQ⟩ := h
    have nd := sc_check_valueA.nd
    have hr1 : Room 1 _ := hr.mono (by decide)
    have hr3 : Room 3 _ := hr.mono (by decide)
    refine ⟨_, pss_one (ps_if (pt_not (pt_val (pe_dn D_is_value hr3 (pa_cons (pv 0) pa_nil)))) (pss_one (L2N.ps_raise (W := fun cls d _ H => E cls d H) rfl (L2N.takes_of rfl rfl rfl rfl) (pmk_nz T_BadValue hr1 (by decide) rfl))) pss_nil), ?_⟩
    refine ⟨_, rfl, v, T, rfl, hv, ?_⟩
    refine ⟨_, rfl, ?_⟩
    cases hb : betV v (-10 ^ 30) (10 ^ 30) with
    | false => exact iteT (kE hb)
    | true => exact iteF (kQ hb)
-- @prem check_valueA check_value X : D_is_value T_BadValue
end
end SR

set_option Elab.async false
set_option linter.all false
set_option maxRecDepth 100000
set_option maxHeartbeats 4000000
/-! One of two promises of a def. -/
namespace SR
open PySem PySem.Spec PyProof.Rows L2
def spOr (a b : Sp) : Sp := fun vs H Q E => a vs H Q E ∨ b vs H Q E
section
variable {P : Program} {w : World} {K : PySem.W.Frag} {mg : Str → Option Value} {base : Heap} {CY : CXT} {k : Nat} {f : Addr} {fd : FuncData} {ps : List Str} {a b : Sp} {x : Str}
theorem ok_or (F : FnOk P w K mg base CY k f fd ps a) (G : FnOk P w K mg base CY k f fd ps b) : FnOk P w K mg base CY k f fd ps (spOr a b) :=
  ⟨fun vs H Q E h => h.elim (F.len vs H Q E) (G.len vs H Q E), fun A out s H ar us vs Q E r e0 bn vl h => h.elim (F.run A out s H ar us vs Q E r e0 bn vl) (G.run A out s H ar us vs Q E r e0 bn vl)⟩
theorem ok_toX (F : FnOk P w K mg base CX0 k f fd ps a) : FnOk P w K mg base CY k f fd ps a :=
  ⟨F.len, fun A out s H ar us vs Q E r e0 bn vl h => codeAny_mono (F.run A out s H ar us vs Q E r e0 bn vl h) fun r s' z => by
    cases r with
    | error e => exact False.elim z
    | ok fl => cases fl <;> exact z⟩
theorem ok_up {j : Nat} (F : FnOk P w K mg base CY j f fd ps a) (h : j ≤ k) : FnOk P w K mg base CY k f fd ps a := F.mono h
end
end SR

set_option Elab.async false
set_option linter.all false
set_option maxRecDepth 100000
set_option maxHeartbeats 4000000
/-! [e for x in range(..) if ..] while an error is handled. -/
namespace SR
open PySem PySem.Spec PyProof.Rows L2 L2H
/-- the block of a comprehension; what is pinned stays pinned -/
abbrev blkH (X : Cx) (s : Shared) (H : Hp) (scope : Scope) (ce : Env) (fp : List Addr) : Cx := { X.blk s H scope ce fp with pn := X.pn }
theorem blkH_of {X : Cx} {s s' : Shared} {H H' : Hp} {scope : Scope} {ce : Env} {fp : List Addr} {σ : L2.St} (I : Inv (X.blk s H scope ce fp) [] σ H' s') (h : ∀ p ∈ X.pn ++ [], s'.heap.get? p.1 = some p.2 ∧ H' p.1 = none ∧ p.1 ≠ ce.locals ∧ p.1 ∉ frs X.stack ∧ ∀ v, p.2.data ≠ .cell v) :
    Inv (blkH X s H scope ce fp) [] σ H' s' :=
  ⟨⟨I.ok.mod, I.ok.kind, I.ok.glob, I.ok.blt, I.ok.above, I.ok.inj, I.ok.has, I.ok.cab, I.ok.hd, I.ok.frames, I.ok.stk, I.ok.exf, I.ok.bs, I.ok.bsz, I.ok.noex, I.ok.exfs, I.ok.funs, I.ok.frf⟩, I.os, I.bare, I.base, I.loc, I.cell, I.free, I.freeC, h, I.hok, I.len⟩
section
variable {X : Cx}
theorem lcH {pins : List (Addr × Obj)} {s : Shared} {σ : L2.St} {H : Hp} {Q : VK} {elt tg iter : Expr} {ifs : List Expr} {scope : Scope} {own : List (Str × Nat)} {pos pos' : Pos} {wi : TI} {g : TG} {tt : TT} {te : TE} {use : Option (Value → Sem Unit)} {Qf : Value → Shared → Prop}
    (hot : HotC X) (hN : X.N.Nodup) (I : Inv X pins σ H s) (hi : PIH X tg iter wi) (ok : BlkOk X.N X.env.scope scope own)
    (hg : ∀ (s : Shared) (H : Hp) (C : Addr) (cl : List (Str × Addr)) (fp : List Addr), PG (blkH X s H scope (compEnvC scope cl C X.env) fp) tg g) (ht : ∀ (s : Shared) (H : Hp) (C : Addr) (cl : List (Str × Addr)) (fp : List Addr), PTs (blkH X s H scope (compEnvC scope cl C X.env) fp) ifs tt)
    (he : ∀ (s : Shared) (H : Hp) (C : Addr) (cl : List (Str × Addr)) (fp : List Addr), PE (blkH X s H scope (compEnvC scope cl C X.env) fp) elt te) (hs : ∀ x, foldedSetIterable iter X.env x = pure x) (h : tLc wi g tt te (own.map (·.2)) σ H Q)
    (fin : ∀ D C s' m H', Inv X pins σ H' s' → Q (.ref D) H' → s'.heap.Ns C m → FpOk X pins H' C → compPost (model X.prog X.w) X.A X.xe use Qf (.ref D) C (.ok .next) s') :
    wpAny (model X.prog X.w) X.A (comprehension (.ListComp elt [⟨tg, iter, ifs, 0⟩] scope pos) scope X.env pos' (newList []) false (eval iter X.env) use) Qf X.xe s := by
  have cells : ∀ y ∈ scope.names, y.2 = .free → ∃ c, X.env.cells.lookup y.1 = some c := fun y hy e => (ok.free y hy e).elim (fun z => I.ok.has _ (.inl z)) fun z => I.ok.has _ (.inr z)
  refine wpAny_comprehension_free (use := use) rfl hs (closure_ok cells) ok.kind (fun y hy e => by rw [ok.uniq y hy, e]) (thn (hi.run pins s σ H _ I h) fun _ sA zA => thn zA fun _ sB zB => ?_)
  obtain ⟨it, fp, tn, J, HB, rfl, IB, T, tB, fB, q⟩ := zB
  refine wpAny_newObj_type (newEnv_comp ?_) (by show 0 ≤ sizeLine; decide)
  obtain ⟨D, hD⟩ : ∃ D, D = sB.heap.objs.size := ⟨_, rfl⟩
  obtain ⟨W, ⟨m0, w0⟩, turn⟩ := q D (IB.hok.fresh (Nat.le_of_eq hD.symm))
  rw [← hD]
  obtain ⟨sC, eC⟩ : ∃ sC : Shared, sC = { sB with heap := sB.heap.push { cls := .type "list", data := .seq ([] : List Value).toArray } } := ⟨_, rfl⟩
  have hC : sC.heap = sB.heap.push { cls := .type "list", data := .seq ([] : List Value).toArray } := by rw [eC]
  have IC : Inv X pins σ (upd HB D (.lst [])) sC := by
    rw [eC, hD]
    exact IB.laid (t' := sB.toks) (fun b o e => Heap.get?_push_of_some _ e) (Nat.le_refl _) ⟨Nat.zero_le _, [], 0, .nil, Heap.get?_push_size _ rfl⟩
  have lt : ∀ b ∈ fp, b < sB.heap.objs.size := fun b hb => let ⟨_, e, _⟩ := T.obj _ _ tB b hb; Heap.lt_size e
  have fC : ∀ b ∈ fp, FpOk X pins (upd HB D (.lst [])) b ∧ b < sC.heap.objs.size := fun b hb => by
    have l := lt b hb
    refine ⟨⟨?_, (fB b hb).2⟩, by rw [hC, Heap.size_push]; exact Nat.lt_succ_of_lt l⟩
    rw [upd_ne (by rw [hD]; exact Nat.ne_of_lt l)]
    exact (fB b hb).1
  have tC : tn 0 sC.heap := T.keep _ _ _ tB fun b _ o e => by rw [hC]; exact Heap.get?_push_of_some _ e
  have ID := block_start IC ok hN fC
  obtain ⟨cl, ecl⟩ : ∃ cl, cl = cellsFrom (sC.heap.objs.size + 1) scope.names (cloFrom X.env.cells scope.names []) := ⟨_, rfl⟩
  obtain ⟨HC, eHC⟩ : ∃ HC, HC = upd HB D (.lst []) := ⟨_, rfl⟩
  rw [← eHC] at IC ID w0
  rw [← eHC] at fC
  have pg := hg sC HC sC.heap.objs.size cl fp
  have pt := ht sC HC sC.heap.objs.size cl fp
  have pe := he sC HC sC.heap.objs.size cl fp
  rw [← eC]
  show codeAny _ _ (.compStart (.ListComp elt [⟨tg, iter, ifs, 0⟩] scope pos) 0 (.ref it) (.ref D) (compEnvC scope (cellsFrom (sC.heap.objs.size + 1) scope.names (cloFrom X.env.cells scope.names [])) sC.heap.objs.size X.env)) (compPost (model X.prog X.w) X.A X.xe use Qf (.ref D) sC.heap.objs.size) { sC with heap := pushCells (sC.heap.push { cls := .type "dict", data := .dict #[] }) scope.names }
  rw [← ecl] at ID ⊢
  obtain ⟨ce, ece⟩ : ∃ ce, ce = compEnvC scope cl sC.heap.objs.size X.env := ⟨_, rfl⟩
  have loc : ce.locals = sC.heap.objs.size := by rw [ece]; rfl
  rw [← ece] at ID pg pt pe ⊢
  obtain ⟨sD, eD⟩ : ∃ sD : Shared, sD = { sC with heap := pushCells (sC.heap.push { cls := .type "dict", data := .dict #[] }) scope.names } := ⟨_, rfl⟩
  have stayD : ∀ b o, sC.heap.get? b = some o → sD.heap.get? b = some o := fun b o e => by rw [eD]; exact pushCells_keeps _ _ _ _ (Heap.get?_push_of_some _ e)
  rw [← eD] at ID ⊢
  have tD : tn 0 sD.heap := T.keep _ _ _ tC fun b _ o e => stayD b o e
  -- the block with its pins
  have IE : Inv (blkH X sC HC scope ce fp) [] (wipe σ (own.map (·.2))) HC sD := blkH_of ID fun p hp => by
    rw [List.append_nil] at hp
    have pp := IC.pin p (List.mem_append_left _ hp)
    exact ⟨stayD _ _ pp.1, pp.2.1, fun z => absurd (Heap.lt_size pp.1) (by rw [z, loc]; exact Nat.lt_irrefl _), fun z => (List.mem_cons.mp (IC.stkSub p.1 z)).elim pp.2.2.1 pp.2.2.2.1, pp.2.2.2.2⟩
  have hotB : HotC (blkH X sC HC scope ce fp) := let ⟨p, a, b⟩ := hot; ⟨p, a, b⟩
  have pne : ∀ b ∈ fp, ∀ p ∈ X.pn ++ [], p.1 ≠ b := fun b hb p hp => (fC b hb).1.2.2.2.2.2 p (by rw [List.append_nil] at hp; exact List.mem_append_left _ hp)
  have stat : ∀ {σ' : L2.St} {H' : Hp} {s' : Shared}, Inv (blkH X sC HC scope ce fp) [] σ' H' s' → (∀ b ∈ fp, H' b = none) → ∀ b ∈ fp, FpOk (blkH X sC HC scope ce fp) [] H' b := fun {σ' H' s'} J' hn b hb => ⟨hn b hb, (J'.ok.exf b hb).1, J'.ok.exfs b hb, .inl hb, fun x c e => (J'.ok.exf b hb).2 x c e, pne b hb⟩
  refine codeAny_compStart_list ?loop (T.self X.A 0 _ _ _ tD ?loop)
  refine compLoop_any (fun n s' => ∃ i H', Inv (blkH X sC HC scope ce fp) [] (wipe σ (own.map (·.2))) H' s' ∧ tn i s'.heap ∧ (∀ b ∈ fp, H' b = none) ∧ W i n H') ?_ m0 ⟨0, HC, IE, tD, fun b hb => (fC b hb).1.1, w0⟩
  rintro n sF ⟨i, HF, IF, tF, nF, wF⟩
  rcases turn i n HF wF with ⟨stop, done⟩ | ⟨go, Nx, hNx, step⟩
  · refine thnF (T.done (blkH X sC HC scope ce fp) rfl rfl rfl hotB i [] sF _ HF (fun _ _ => False) IF (stat IF nF) tF stop) fun r sG ⟨hr, IG⟩ => ?_
    subst hr
    have IZ : Inv X pins σ HF sG := IC.call' (ch := fp) IG.os IG.base IG.hok IG.bare fun b hb => ⟨(fC b hb).1.2.2.2.1, (fC b hb).1.2.1, (fC b hb).1.2.2.2.2.1, (fC b hb).1.2.2.2.2.2⟩
    have free : HF ce.locals = none := IG.free
    obtain ⟨m, ns, _⟩ := IG.loc
    have ns : sG.heap.Ns ce.locals m := ns
    rw [loc] at free ns
    exact fin D sC.heap.objs.size sG m HF IZ done ns (IC.fpOk (Nat.le_refl _) free)
  · refine thnF (T.item (blkH X sC HC scope ce fp) rfl rfl rfl hotB i [] sF _ HF (fun _ _ => False) IF (stat IF nF) tF go) fun r sG ⟨u, hr, zG⟩ => ?_
    subst hr
    refine thnF zG fun _ sH ⟨x, HH, IH, rx, yl, tH, nH⟩ => ?_
    refine thnF (pg.run _ sH _ HH x u _ (IH.pinned (stat IH nH) (T.obj _ _ tH)) rx (step x HH yl)) fun _ sI ⟨σI, HI, II, wI, qI⟩ => ?_
    refine thnF (pt.run _ sI σI HI _ II qI) fun b sJ ⟨HJ, IJ, qJ⟩ => ?_
    have again : ∀ {s' : Shared} {H' : Hp}, Inv (blkH X sC HC scope ce fp) ([] ++ pinsAt fp sH.heap) σI H' s' → Nx H' → ∃ m, m < n ∧ ∃ i H', Inv (blkH X sC HC scope ce fp) [] (wipe σ (own.map (·.2))) H' s' ∧ tn i s'.heap ∧ (∀ b ∈ fp, H' b = none) ∧ W i m H' := fun {s' H'} I' nx => by
      obtain ⟨m', lm, w'⟩ := hNx H' nx
      have at' : ∀ b ∈ fp, ∀ o, sH.heap.get? b = some o → s'.heap.get? b = some o ∧ H' b = none := fun b hb o e => let z := I'.pin (b, o) (List.mem_append_right _ (List.mem_append_right _ (mem_pinsAt hb e))); ⟨z.1, z.2.1⟩
      refine ⟨m', lm, i + 1, H', (I'.unpinned (pins := [])).weak (by rw [← wI, wipe_length]) (fun j v e => ?_), T.keep _ _ _ tH fun b hb o e => (at' b hb o e).1, fun b hb => ?_, w'⟩
      · rw [← wI] at e; exact (wipe_some e).1
      · obtain ⟨o, e, _⟩ := T.obj _ _ tH b hb; exact (at' b hb o e).2
    cases b with
    | false =>
      simp only [if_false, Bool.false_eq_true] at qJ ⊢; exact again IJ qJ
    | true =>
      simp only [if_true, if_pos] at qJ ⊢
      refine thnF (pe.run _ sJ σI HJ _ IJ qJ) fun z sK ⟨yv, HK, IK, rK, acc, hDK, szK, nx⟩ => ?_
      exact app_ok (X := blkH X sC HC scope ce fp) IK hDK szK rK fun s11 I11 => again I11 nx
theorem pe_lcH {elt tg iter : Expr} {ifs : List Expr} {scope : Scope} {own : List (Str × Nat)} {pos : Pos} {wi : TI} {g : TG} {tt : TT} {te : TE} (hot : HotC X) (hN : X.N.Nodup) (hi : PIH X tg iter wi) (ok : BlkOk X.N X.env.scope scope own)
    (hg : ∀ (s : Shared) (H : Hp) (C : Addr) (cl : List (Str × Addr)) (fp : List Addr), PG (blkH X s H scope (compEnvC scope cl C X.env) fp) tg g) (ht : ∀ (s : Shared) (H : Hp) (C : Addr) (cl : List (Str × Addr)) (fp : List Addr), PTs (blkH X s H scope (compEnvC scope cl C X.env) fp) ifs tt)
    (he : ∀ (s : Shared) (H : Hp) (C : Addr) (cl : List (Str × Addr)) (fp : List Addr), PE (blkH X s H scope (compEnvC scope cl C X.env) fp) elt te) (hs : ∀ x, foldedSetIterable iter X.env x = pure x := by intro _; rfl) :
    PE X (.ListComp elt [⟨tg, iter, ifs, 0⟩] scope pos) (tLc wi g tt te (own.map (·.2))) := by
  refine ⟨fun pins s σ H Q I h => ?_⟩
  rw [eval_ListComp]
  refine lcH hot hN I hi ok hg ht he hs h fun D C s' m H' I' q hn ⟨f0, f1, f2, f3, f4, f5⟩ => ⟨m, hn, fun h'' sb => ?_⟩
  exact ⟨.ref D, H', I'.turned (t' := s'.toks) (fun b o hb e => (sb.2 b hb).trans e) f0 f1 f3 f4 f5, rfl, q⟩
end
end SR

set_option Elab.async false
set_option linter.all false
set_option maxRecDepth 100000
set_option maxHeartbeats 4000000
/-! Defs that are called in an except suite. -/
namespace SR
open PySem PySem.Spec PyProof.Rows L2
section
variable {P : Program} {w : World} {K : PySem.W.Frag} {mg : Str → Option Value} {base : Heap}
def DnH (P : Program) (w : World) (K : PySem.W.Frag) (mg : Str → Option Value) (base : Heap) (x : Str) (ps : List Str) (k : Nat) (sp : Sp) : Prop := ∃ f fd, L2H.FnH P w K mg base CX0 k f fd ps sp ∧ mg x = some (.ref f) ∧ PySem.W.keepIn K (.ref f) = true ∧ Binds K fd ps []
theorem Fd.dnh {x qual : Str} {st : Stmt} {ps : List Str} {f : Addr} {fd : FuncData} {k : Nat} {sp : Sp} (d : Fd K mg x qual st ps f fd) (G : L2H.FnH P w K mg base CX0 k f fd ps sp) : DnH P w K mg base x ps k sp := ⟨f, fd, G, d.g, d.F.kp, d.b⟩
theorem okH {x qual : Str} {st : Stmt} {f : Addr} {fd : FuncData} {N ps : List Str} {k : Nat} {sp : Sp} (F : Fun K x qual st f fd) (S : FnScope N ps (defScope st)) (ln : ∀ vs H Q E, sp vs H Q E → vs.length = ps.length)
    (bd : ∀ (cdv : Value) (A : Around) (out : List Env) (s : Shared) (H : Hp) (vs : List V) (Q : VK) (E : XK) (p : Addr × Obj), L2H.HotC (L2H.cxH CX0 P w K mg base N qual (defScope st) f cdv A out s H E p) → L2H.RoomH k (A.deeper (envOfC qual (defScope st) s.heap.objs.size f cdv)) → sp vs H Q E →
      ∃ t, PSs (L2H.cxH CX0 P w K mg base N qual (defScope st) f cdv A out s H E p) (defBody st) t ∧ t { nx := fun _ H' => Q .non H', rt := Q } (start N vs) H) : L2H.FnH P w K mg base CX0 (k + 1) f fd ps sp := by
  obtain ⟨oc, od, kV, doc, pm, an, cdv, ct, osl, rfl, lk, hcd⟩ := F.ex
  exact L2H.fn_ofH lk hcd S ln fun A out s H vs Q E p hot room h => bd cdv A out s H vs Q E p ⟨p, hot, List.mem_singleton.mpr rfl⟩ room h
end
section
variable {X : Cx}
theorem hot_suite {a : Addr} {oe : Obj} {cls : Value} {d : Option Addr} {pn : List (Addr × Obj)} (hz : L2N.Zn cls d oe) (hf : ∃ vs, oe.data = .fields vs) : L2H.HotC (X.suite a ((a, oe) :: pn)) := by
  obtain ⟨vs, hv⟩ := hf
  exact ⟨(a, oe), ⟨rfl, vs, hv, hz.2.2 vs hv⟩, List.mem_cons_self⟩
theorem pe_dnH {x : Str} {ps : List Str} {k : Nat} {sp : Sp} {e : Expr} {es : List Expr} {t : TA} {np pos : Pos} (D : DnH X.prog X.w X.K X.mg X.base x ps k sp) (room : L2H.RoomH k X.A) (hc : L2H.HotC X) (ha : PA X (e :: es) t) (hg : Gl X x := by rfl)
    (hdb : (x == ("__debug__" : Str)) = false := by decide) (he : starEach (e :: es) X.env = (false, eval e X.env) :: starEach es X.env := by rfl) (hpl : (backTo pos (starEach es X.env)).any (·.1) = false := by rfl) :
    PE X (.Call (.Name x np) (e :: es) [] pos) (tCallS sp (fun _ => E0) t) := by
  obtain ⟨f, fd, F, hm, hk, hb⟩ := D
  exact L2H.pe_callH F room hc hg hm hk hb (fun σ pins H s e s' I z => False.elim z) ha hdb he hpl
theorem room_suite {k : Nat} {a : Addr} {l : List (Addr × Obj)} (r : Room k X.A) : L2H.RoomH k (X.suite a l).A := ⟨r.dp, r.un⟩
theorem unitsH {k : Nat} {A : Around} (r : L2H.RoomH k A) : A.units + 64 < cLine := by have := r.un; omega
end
end SR

set_option Elab.async false
set_option linter.all false
set_option maxRecDepth 100000
set_option maxHeartbeats 4000000
/-! fs[i](a, b): a def that stands in a list, errors may leave it. -/
namespace SR
open PySem PySem.Spec PyProof.Rows L2
structure DnG (P : Program) (w : World) (K : PySem.W.Frag) (mg : Str → Option Value) (base : Heap) (x : Str) (f : Addr) (ps : List Str) (k : Nat) (sp : Sp) : Prop where
  ok : ∃ fd, FnOk P w K mg base (L2N.CX P w) k f fd ps sp ∧ Binds K fd ps []
  g : mg x = some (.ref f)
  kp : PySem.W.keepIn K (.ref f) = true
def tCallG (X : Cx) (W : WX) (tf : TE) (t : TA) : TE := fun σ H Q => tf σ H fun x H1 => ∃ (n : Str) (f : Addr) (ps : List Str) (k : Nat) (sp : Sp), x = .ref f ∧ DnG X.prog X.w X.K X.mg X.base n f ps k sp ∧ Room k X.A ∧ t σ H1 fun vs H2 => sp vs H2 Q (WE W σ)
theorem pe_callG {X : Cx} {W : WX} {fe e : Expr} {es : List Expr} {tf : TE} {t : TA} {pos : Pos} (tk : L2N.Takes X W) (hf : PE X fe tf) (ha : PA X (e :: es) t)
    (hst : starEach (e :: es) X.env = (false, eval e X.env) :: starEach es X.env := by rfl) (hpl : (backTo pos (starEach es X.env)).any (·.1) = false := by rfl)
    (ht : eval (.Call fe (e :: es) [] pos) X.env = (do callWith pos (← eval fe X.env) [] (backTo pos (starEach (e :: es) X.env)) (backToKw pos (keywordEach [] X.env))) := by rfl) :
    PE X (.Call fe (e :: es) [] pos) (tCallG X W tf t) := by
  refine ⟨fun pins s σ H Q I h => Call_ (thn (hf.run pins s σ H _ I h) fun u s1 ⟨x, H1, I1, rx, n, f, ps, k, sp, ex, D, hr, q⟩ => ?_) ht⟩
  subst ex
  obtain rfl : u = Value.ref f := rx
  obtain ⟨fd, F, hb⟩ := D.ok
  refine PySem.W.callWith_K (first := []) (h₀ := X.base) I.ok.mod.kin D.kp (thn (ha.run pos pins s1 σ H1 _ I1 q) fun as sB ⟨ws, HB, IB, rr, qq⟩ => ⟨IB.kIn, ?_⟩) hst hpl
  exact run_fnS (us := as) (vs := ws) F hr hb (L2N.passAt tk σ) IB rr qq
end SR

set_option Elab.async false
set_option linter.all false
set_option maxRecDepth 100000
set_option maxHeartbeats 4000000
/-! A tuple walked to its end, and min of two ints, while an error is handled. -/
namespace SR
open PySem PySem.Spec PyProof.Rows L2
open HotX (HotAt raiseNew_hot)
section
variable {prog : Program} {w : World} {A : Around} {E : Value → Shared → Prop} {s : Shared}
theorem tup_endH {ia ta xa : Addr} {j : Nat} {its : Array Value} {Q : Option Value → Shared → Prop} (hot : HotAt A xa s.heap) (ne : xa ≠ ia) (hi : s.heap.IsTupleIter ia ta j) (ht : s.heap.IsTuple ta its) (hx : its[j]? = none)
    (q : ∀ h', Heap.ExtBut ia s.heap h' → Q none { s with heap := h' }) : wpAny (model prog w) A (pyNext (.ref ia)) Q E s := by
  obtain ⟨oi, gi, ci, di⟩ := id hi
  obtain ⟨ot, gt, _, nt, dt⟩ := ht
  obtain ⟨hh, o1, vs1, g1, d1, c1⟩ := hot
  unfold pyNext
  refine wpAny_bind (wpAny_attempt (wpAny_callSpecial?_slot (name := Str.ofString "__next__") hi.typeIs PySem.F.slot_tuple_iterator_next (wpAny_call_entry PySem.F.slot_tuple_iterator_next hi.typeIs PySem.F.entry_tuple_iterator_next ?_ (PySem.F.args_tuple_iterator_next_1 _))))
  show wpAny _ _ (field (.ref ia) 0 >>= _) _ _ s
  refine wpAny_bind (wpAny_field gi di (x := .ref ta) rfl ?_)
  show wpAny _ _ (if (Value.ref ta == Value.none) = true then _ else _) _ _ s
  rw [if_neg (show ¬ ((Value.ref ta == Value.none) = true) from Bool.false_ne_true)]
  show wpAny _ _ (field (.ref ia) 1 >>= _) _ _ s
  refine wpAny_bind (wpAny_field gi di (x := .int j 0) rfl ?_)
  show wpAny _ _ (seqItems? (.ref ta) >>= _) _ _ s
  refine wpAny_bind (wpAny_seqItems gt dt ?_)
  simp only [hx, Int.toNat_natCast]
  refine wpAny_bind (wpAny_rule (wpAny_bind (wpAny_setField gi di (by simp) ?_)))
  have e1 : (s.heap.update ia (Obj.mapFields (·.setIfInBounds 0 Value.none))).get? xa = some o1 := (Heap.get?_update_other _ _ (Ne.symm ne)).trans g1
  show wpAny _ _ (newExc (.type "StopIteration") [] >>= _) _ _ { s with heap := _ }
  refine wpAny_bind ?_
  simp only [newTuple, newExc]
  refine wpAny_bind (wpAny_newObj_type ?_ (by size_fits))
  refine wpAny_bind (m := firstArgMember _ _) (wpAny_of_eq (a := Value.none) (by first | rfl | (simp only [firstArgMember]; rfl)) (wpAny_newObj_type ?_ (by size_fits)))
  refine raiseNew_hot ⟨hh, o1, vs1, Heap.get?_push_of_some _ (Heap.get?_push_of_some _ e1), d1, c1⟩ (Nat.ne_of_lt (Heap.lt_size (Heap.get?_push_of_some _ e1))) (Heap.get?_push_size _ rfl) rfl (by first | (simp; done) | (simp; omega)) ?_
  refine wpAny_bind (wpAny_isInstance (T := "StopIteration") (b := true) ⟨_, Heap.get?_update_self _ (Heap.get?_push_size _ rfl) rfl, rfl⟩ isSubtype_stop (wpAny_pure (q _ fun b o hb e => ?_)))
  have e2 : (s.heap.update ia (Obj.mapFields (·.setIfInBounds 0 Value.none))).get? b = some o := (Heap.get?_update_other _ _ (Ne.symm hb)).trans e
  have e3 := Heap.get?_push_of_some { cls := .type "tuple", data := .seq ([] : List Value).toArray } e2
  exact (Heap.get?_update_other _ _ (Nat.ne_of_gt (Heap.lt_size e3))).trans (Heap.get?_push_of_some _ e3)
theorem walkH {xa : Addr} {o1 : Obj} {vs1 : Array Value} (hh : A.handled = some (.ref xa)) (d1 : o1.data = .fields vs1) (c1 : vs1[2]? = some .none) (ia ta : Addr) (n1 : ta ≠ ia) (n2 : xa ≠ ia) (its : Array Value) :
    Walks prog w A ia [ia, ta, xa] [ia] its.size (fun j v => its[j]? = some v) (fun j h => h.IsTupleIter ia ta j ∧ h.IsTuple ta its ∧ h.get? xa = some o1) where
  sub := fun b hb => by rw [List.mem_singleton.mp hb]; exact List.mem_cons_self
  frame := fun _ _ _ st k => ⟨st.1.at fun o e => k ia (by simp) o e, st.2.1.at fun o e => k ta (by simp) o e, k xa (by simp) _ st.2.2⟩
  item := fun j s' Q E' hj st q => wpAny_pyNext_tuple_item st.1 st.2.1 (x := its[j]) (by simp [hj]) fun h' hi' hs' =>
    q _ h' s'.toks (by simp [hj]) ⟨hi', st.2.1.extBut hs'.extBut n1, hs'.extBut _ _ n2 st.2.2⟩ fun b o hb e => hs'.extBut b o (fun z => hb (by simp [z])) e
  done := fun s' Q E' st q => tup_endH ⟨hh, o1, vs1, st.2.2, d1, c1⟩ n2 st.1 st.2.1 (by simp) fun h' he => q h' s'.toks fun b o hb e => he b o (fun z => hb (by simp [z])) e
  self := fun _ _ _ _ st q => wpAny_pyIter_tupleiter st.1 q
theorem min_twoH {a b : Int} {t u : Tok} {xa : Addr} {Q : Value → Shared → Prop} (hot : HotAt A xa s.heap) (h : ∀ h' tk, (∀ c o, s.heap.get? c = some o → h'.get? c = some o) → Q (if b < a then .int b u else .int a t) { s with heap := h', toks := tk }) :
    wpAny (model prog w) A (call (.builtin "min") [.int a t, .int b u]) Q E s := by
  obtain ⟨hh, o1, vs1, g1, d1, c1⟩ := hot
  have isT : (s.heap.push { cls := .type "tuple", data := .seq #[.int a t, .int b u] }).IsTuple s.heap.objs.size (intItems #[(a, t), (b, u)]) := ⟨_, Heap.get?_push_size _ rfl, rfl, 0, by simp [intItems]⟩
  refine call_min_two (wpAny_pyIter_tuple isT ?_)
  have sz : (s.heap.push { cls := .type "tuple", data := .seq #[.int a t, .int b u] }).objs.size = s.heap.objs.size + 1 := Heap.size_push ..
  have l1 := Heap.lt_size g1
  refine ⟨_, [_, s.heap.objs.size, xa], [_], _, _, _, _, rfl, walkH (A := A.in1) (o1 := o1) (vs1 := vs1) hh d1 c1 _ s.heap.objs.size (by rw [sz]; exact Nat.ne_of_lt (Nat.lt_succ_self _)) (by rw [sz]; exact Nat.ne_of_lt (Nat.lt_succ_of_lt l1)) (intItems #[(a, t), (b, u)]),
    ⟨⟨_, Heap.get?_push_size _ rfl, rfl, rfl⟩, isT.push _, Heap.get?_push_of_some _ (Heap.get?_push_of_some _ g1)⟩, fun c hc => ?_, by simp [intItems], CmpOf.ints_lt (numAt #[(a, t), (b, u)]) (fun _ _ => intItems_at), fun v h' tk hP hk => ?_⟩
  · show c < ((s.heap.push _).push _).objs.size
    rw [Heap.size_push, sz]
    simp only [List.mem_cons, List.not_mem_nil, or_false] at hc
    rcases hc with rfl | rfl | rfl
    · rw [sz]; exact Nat.lt_succ_self _
    · exact Nat.lt_succ_of_lt (Nat.lt_succ_self _)
    · exact Nat.lt_succ_of_lt (Nat.lt_succ_of_lt l1)
  · have old : ∀ c o, s.heap.get? c = some o → h'.get? c = some o := fun c o e => hk c o (fun hm => by
      rw [List.mem_singleton] at hm
      have := Heap.lt_size e
      rw [hm, sz] at this
      exact Nat.lt_irrefl _ (Nat.lt_of_succ_lt this)) (Heap.get?_push_of_some _ (Heap.get?_push_of_some _ e))
    have ev : v = if b < a then Value.int b u else Value.int a t := by
      have hQ : (intItems #[(a, t), (b, u)])[argBest (fun i j => decide (numAt #[(a, t), (b, u)] i < numAt #[(a, t), (b, u)] j)) 1]? = some v := by
        have e2 : (intItems #[(a, t), (b, u)]).size - 1 = 1 := by simp [intItems]
        rw [← e2]; exact hP
      by_cases c : b < a
      · rw [show argBest (fun i j => decide (numAt #[(a, t), (b, u)] i < numAt #[(a, t), (b, u)] j)) 1 = 1 by simp [argBest, numAt, c]] at hQ
        simpa [intItems, c] using hQ.symm
      · rw [show argBest (fun i j => decide (numAt #[(a, t), (b, u)] i < numAt #[(a, t), (b, u)] j)) 1 = 0 by simp [argBest, numAt, c]] at hQ
        simpa [intItems, c] using hQ.symm
    rw [ev]; exact h h' tk old
end
theorem call_min2H {X : Cx} (hc : L2H.HotC X) : CallR X (.builtin "min") (fun xs H Q => ∃ i j, xs = [.int i, .int j] ∧ Q (.int (if j < i then j else i)) H) := by
  intro pins s σ H xs us Q I r h
  obtain ⟨i, j, rfl, q⟩ := h
  obtain ⟨u, v, rfl, ⟨t, rfl⟩, ⟨t', rfl⟩⟩ := vals2 r
  obtain ⟨x1, hot⟩ := hc.at I
  refine min_twoH hot fun h' tk k => ⟨_, H, I.kept k, ?_, q⟩
  by_cases c : j < i
  · rw [if_pos c, if_pos c]; exact ⟨_, rfl⟩
  · rw [if_neg c, if_neg c]; exact ⟨_, rfl⟩
theorem hot_blk {X : Cx} {s : Shared} {H : Hp} {scope : Scope} {ce : Env} {fp : List Addr} (h : L2H.HotC X) : L2H.HotC (blkH X s H scope ce fp) := let ⟨p, a, b⟩ := h; ⟨p, a, b⟩
end SR

set_option Elab.async false
set_option linter.all false
set_option maxRecDepth 100000
set_option maxHeartbeats 4000000
/-! Questions refused: of what is no summary, no value, too long. -/
namespace SR
open PySem PySem.Spec PyProof.Rows L2

/-- no value of a built-in type is one of Summary -/
structure NoSub (K : PySem.W.Frag) (C : Addr) : Prop where
  kt : ∀ T ∈ ["NoneType", "bool", "int", "str", "list", "tuple"], PySem.W.kitOne K (.type T) (.ref C) = some false
theorem Any.kSum {K : PySem.W.Frag} {C : Addr} {H : Hp} {v : V} {T : String} (h : Any K H v T) (N : NoSub K C) : PySem.W.kitOne K (.type T) (.ref C) = some false := N.kt _ (by cases h <;> simp)
abbrev bV (v : V) : Bool := betV v (-10 ^ 30) (10 ^ 30)
section
variable {P : Program} {w : World} {K : PySem.W.Frag} {mg : Str → Option Value} {base : Heap} {C C_BadSummary C_NoRow C_TooLong C_BadValue fI : Addr}
def spBad1 (K : PySem.W.Frag) (B : Addr) : Sp := fun vs H Q E => ∃ (v : V) (T : String), vs = [v] ∧ Any K H v T ∧ E (.ref B) none H
theorem ok_check_summaryB {f : Addr} {fd : FuncData} (F : Fun K "check_summary" "check_summary" s_check_summary f fd)  (m_isinstance : mg "isinstance" = none) (T : SumT K mg C) (T_BadSummary : NzTxt K mg "BadSummary" C_BadSummary fI) (NS : NoSub K C) : FnOk P w K mg base (L2N.CX P w) 2 f fd ["summary"] (spBad1 K C_BadSummary) := by
  refine F.okXN sc_check_summary (fun vs H Q E h => ?_) (fun cdv A outer s H vs Q E hr h => ?_)
  · obtain ⟨v, tn, rfl, _⟩ := h
    rfl
  · obtain ⟨v, tn, rfl, hA, kE⟩ := h
    have nd := sc_check_summary.nd
    have hr1 : Room 1 _ := hr.mono (by decide)
    refine ⟨_, pss_one (ps_if (pt_not (pt_val (pe_callB call_isi (by rfl) m_isinstance (by decide +kernel) (pa_cons (pv 0) (pa_cons (pe_glob (v := .ref C) rfl T.g rfl) pa_nil))))) (pss_one (L2N.ps_raise (W := fun cls d _ H => E cls d H) rfl (L2N.takes_of rfl rfl rfl rfl) (pmk_nz T_BadSummary hr1 (by decide) rfl))) pss_nil), ?_⟩
    exact ⟨_, rfl, _, _, _, _, _, rfl, .own C, hA.ty, hA.kSum NS, _, rfl, iteT kE⟩
-- @prem check_summaryB check_summary X : m_isinstance T T_BadSummary
theorem ok_tightenedB {f : Addr} {fd : FuncData} (F : Fun K "tightened" "tightened" s_tightened f fd)  (D_check_summary : DnX P w K mg base "check_summary" ["summary"] 2 (spBad1 K C_BadSummary)) (D__least_ranks : Dn P w K mg base "_least_ranks" ["summary"] 3 (spLeast C)) (D__greatest_ranks : Dn P w K mg base "_greatest_ranks" ["summary"] 3 (spGreat C)) (T : SumT K mg C) (DS : DnMk P w K mg base C) (m_tuple : mg "tuple" = none) (DM : Pr P w K mg base C "many" 1 (getSp C "_many")) (m_zip : mg "zip" = none) (DE : Pr P w K mg base C "entries" 1 (getSp C "_entries")) : FnOk P w K mg base (L2N.CX P w) 8 f fd ["summary"] (spBad1 K C_BadSummary) := by
  refine F.okXN sc_tightened (fun vs H Q E h => ?_) (fun cdv A outer s H vs Q E hr h => ?_)
  · obtain ⟨v, tn, rfl, _⟩ := h
    rfl
  · obtain ⟨v, tn, rfl, hA, kE⟩ := h
    have nd := sc_tightened.nd
    have hr2 : Room 2 _ := hr.mono (by decide)
    have hr3 : Room 3 _ := hr.mono (by decide)
    have hr7 : Room 7 _ := hr.mono (by decide)
    refine ⟨_, pss_cons (ps_expr (pe_dnX (W := fun cls d _ H => E cls d H) D_check_summary hr2 (L2N.takes_of rfl rfl rfl rfl) (pa_cons (pv 0) pa_nil)))
        (pss_cons (ps_set (i := 1) nd rfl (Or.inl rfl) (pe_dn D__least_ranks hr3 (pa_cons (pv 0) pa_nil)))
        (pss_cons (ps_set (i := 2) nd rfl (Or.inl rfl) (pe_dn D__greatest_ranks hr3 (pa_cons (pv 0) pa_nil)))
        (pss_cons (ps_set (i := 3) nd rfl (Or.inl rfl) (pe_lst pa_nil))
        (pss_cons (ps_for (passes_of rfl) rfl (pi_zip3 (by rfl) m_zip (pa_cons (pe_pr DE T.ic.cl hr2 (pv 0)) (pa_cons (pv 1) (pa_cons (pv 2) pa_nil)))) (pg_tup rfl (pgs_cons (pg_name (i := 4) nd rfl (Or.inl rfl)) (pgs_cons (pg_name (i := 5) nd rfl (Or.inl rfl)) (pgs_cons (pg_name (i := 6) nd rfl (Or.inl rfl)) pgs_nil))))
        (pss_cons (ps_if (pt_cmpR op_gt (pv 5) (pv 6) (nomark _)) (pss_one (ps_ret pe_non)) pss_nil)
        (pss_one (ps_expr (pe_bm PySem.F.plainAttrs_list PySem.F.slot_list_append PySem.F.type_list_append mt_append (pv 3) (pa_cons (pe_tup (pa_cons (pe_ix ix_tup (pv 4) pe_int (fun _ _ => rfl)) (pa_cons (pv 5) (pa_cons (pv 6) pa_nil)))) pa_nil))))))
        (pss_one (ps_ret (pe_mkS DS T hr7 (pa_cons (pe_pr DM T.ic.cl hr2 (pv 0)) (pa_cons (pe_callTy (T := "tuple") call_tupK (by rfl) m_tuple (by decide +kernel) (pa_cons (pv 3) pa_nil)) pa_nil))))))))), ?_⟩
    exact ⟨_, rfl, v, tn, rfl, hA, kE⟩
-- @prem tightenedB tightened X : D_check_summary D__least_ranks D__greatest_ranks T DS m_tuple DM
theorem ok_surely_tightenedB {f : Addr} {fd : FuncData} (F : Fun K "surely_tightened" "surely_tightened" s_surely_tightened f fd)  (D_tightened : DnX P w K mg base "tightened" ["summary"] 8 (spBad1 K C_BadSummary)) (T_NoRow : NzTxt K mg "NoRow" C_NoRow fI)  : FnOk P w K mg base (L2N.CX P w) 9 f fd ["summary"] (spBad1 K C_BadSummary) := by
  refine F.okXN sc_surely_tightened (fun vs H Q E h => ?_) (fun cdv A outer s H vs Q E hr h => ?_)
  · obtain ⟨v, tn, rfl, _⟩ := h
    rfl
  · obtain ⟨v, tn, rfl, hA, kE⟩ := h
    have nd := sc_surely_tightened.nd
    have hr1 : Room 1 _ := hr.mono (by decide)
    have hr8 : Room 8 _ := hr.mono (by decide)
    refine ⟨_, pss_cons (ps_set (i := 1) nd rfl (Or.inl rfl) (pe_dnX (W := fun cls d _ H => E cls d H) D_tightened hr8 (L2N.takes_of rfl rfl rfl rfl) (pa_cons (pv 0) pa_nil)))
        (pss_cons (ps_if (pt_cmp (pc_isN (pv 1))) (pss_one (L2N.ps_raise (W := fun cls d _ H => E cls d H) rfl (L2N.takes_of rfl rfl rfl rfl) (pmk_nz T_NoRow hr1 (by decide) rfl))) pss_nil)
        (pss_one (ps_ret (pv 1)))), ?_⟩
    exact ⟨_, rfl, v, tn, rfl, hA, kE⟩
-- @prem surely_tightenedB surely_tightened X : D_tightened T_NoRow
def spLong (C N L : Addr) : Sp := fun vs H Q E => ∃ (v : V) (n : Int) (es : List Ent), vs = [v] ∧ SumV C H v n es ∧ Valid n es ∧ 40 < n ∧ (¬ Fits n es → ∀ H', Same H H' → E (.ref N) none H') ∧ (Fits n es → ∀ H', Same H H' → E (.ref L) none H')
theorem ok_surely_shortB {f : Addr} {fd : FuncData} (F : Fun K "surely_short" "surely_short" s_surely_short f fd)  (D_surely_tightened : DnX P w K mg base "surely_tightened" ["summary"] 9 (spSure C C_NoRow)) (D_check_short : DnX P w K mg base "check_short" ["summary"] 3 (spCkShort C C_TooLong))  : FnOk P w K mg base (L2N.CX P w) 10 f fd ["summary"] (spLong C C_NoRow C_TooLong) := by
  refine F.okXN sc_surely_short (fun vs H Q E h => ?_) (fun cdv A outer s H vs Q E hr h => ?_)
  · obtain ⟨v, n, es, rfl, _⟩ := h
    rfl
  · obtain ⟨v, n, es, rfl, hS, hv, n40, kN, kT⟩ := h
    have nd := sc_surely_short.nd
    have hr3 : Room 3 _ := hr.mono (by decide)
    have hr9 : Room 9 _ := hr.mono (by decide)
    refine ⟨_, pss_cons (ps_set (i := 1) nd rfl (Or.inl rfl) (pe_dnX (W := fun cls d _ H => E cls d H) D_surely_tightened hr9 (L2N.takes_of rfl rfl rfl rfl) (pa_cons (pv 0) pa_nil)))
        (pss_cons (ps_expr (pe_dnX (W := fun cls d _ H => E cls d H) D_check_short hr3 (L2N.takes_of rfl rfl rfl rfl) (pa_cons (pv 1) pa_nil)))
        (pss_one (ps_ret (pv 1)))), ?_⟩
    exact ⟨_, rfl, v, n, es, rfl, hS, hv, fun hf H1 s1 => kN hf H1 s1, fun hf H1 p s1 h1 => ⟨_, rfl, _, n, _, rfl, h1, fun _ => kT hf H1 s1, fun h => absurd h (by omega)⟩⟩
-- @prem surely_shortB surely_short X : D_surely_tightened D_check_short
/-- the other question of two summaries, refused -/
def LackB (K : PySem.W.Frag) (C B N L : Addr) (v u : V) (H : Hp) (E : XK) : Prop := (∃ T, Any K H v T ∧ E (.ref B) none H) ∨ (∃ n es T, SumV C H v n es ∧ Any K H u T ∧ E (.ref B) none H) ∨
  (∃ n n2 es es2, SumV C H v n es ∧ Valid n es ∧ SumV C H u n2 es2 ∧ 40 < n ∧ (¬ Fits n es → ∀ H', Same H H' → E (.ref N) none H') ∧ (Fits n es → ∀ H', Same H H' → E (.ref L) none H'))
def spLackB (K : PySem.W.Frag) (C B N L : Addr) : Sp := fun vs H Q E => ∃ (v u : V), vs = [v, u] ∧ LackB K C B N L v u H E
theorem ok_lacking_rowB {f : Addr} {fd : FuncData} (F : Fun K "lacking_row" "lacking_row" s_lacking_row f fd)  (D_check_summary : DnX P w K mg base "check_summary" ["summary"] 2 (spOr (spCkSum C) (spBad1 K C_BadSummary))) (D_surely_short : DnX P w K mg base "surely_short" ["summary"] 10 (spLong C C_NoRow C_TooLong)) (D__telling_rows : Dn P w K mg base "_telling_rows" ["tight", "other"] 12 (spTell C)) (D_leaves : Dn P w K mg base "leaves" ["row", "summary"] 4 (spLeavesP C))  : FnOk P w K mg base (L2N.CX P w) 13 f fd ["one", "other"] (spLackB K C C_BadSummary C_NoRow C_TooLong) := by
  refine F.okXN sc_lacking_row (fun vs H Q E h => ?_) (fun cdv A outer s H vs Q E hr h => ?_)
  · obtain ⟨v, u, rfl, _⟩ := h
    rfl
  · obtain ⟨v, u, rfl, h⟩ := h
    have nd := sc_lacking_row.nd
    have hr2 : Room 2 _ := hr.mono (by decide)
    have hr4 : Room 4 _ := hr.mono (by decide)
    have hr10 : Room 10 _ := hr.mono (by decide)
    have hr12 : Room 12 _ := hr.mono (by decide)
    refine ⟨_, pss_cons (ps_expr (pe_dnX (W := fun cls d _ H => E cls d H) D_check_summary hr2 (L2N.takes_of rfl rfl rfl rfl) (pa_cons (pv 0) pa_nil)))
        (pss_cons (ps_expr (pe_dnX (W := fun cls d _ H => E cls d H) D_check_summary hr2 (L2N.takes_of rfl rfl rfl rfl) (pa_cons (pv 1) pa_nil)))
        (pss_cons (ps_set (i := 2) nd rfl (Or.inl rfl) (pe_dnX (W := fun cls d _ H => E cls d H) D_surely_short hr10 (L2N.takes_of rfl rfl rfl rfl) (pa_cons (pv 0) pa_nil)))
        (pss_cons (ps_for (passes_of rfl) rfl (pi_list (pe_dn D__telling_rows hr12 (pa_cons (pv 2) (pa_cons (pv 1) pa_nil)))) (pg_name (i := 3) nd rfl (Or.inl rfl))
        (pss_one (ps_if (pt_not (pt_val (pe_dn D_leaves hr4 (pa_cons (pv 3) (pa_cons (pv 1) pa_nil))))) (pss_one (ps_ret (pv 3))) pss_nil)))
        (pss_one (ps_ret pe_non))))), ?_⟩
    rcases h with ⟨tn, hA, kE⟩ | ⟨n, es, tn, hS, hA, kE⟩ | ⟨n, n2, es, es2, hS, hv, hS2, n40, kN, kT⟩
    · exact ⟨_, rfl, .inr ⟨v, tn, rfl, hA, kE⟩⟩
    · exact ⟨_, rfl, .inl ⟨v, n, es, rfl, hS, _, rfl, .inr ⟨u, tn, rfl, hA, kE⟩⟩⟩
    · exact ⟨_, rfl, .inl ⟨v, n, es, rfl, hS, _, rfl, .inl ⟨u, n2, es2, rfl, hS2, _, rfl, v, n, es, rfl, hS, hv, n40, kN, kT⟩⟩⟩
-- @prem lacking_rowB lacking_row X : D_check_summary D_surely_short D__telling_rows D_leaves
theorem ok_withinB {f : Addr} {fd : FuncData} (F : Fun K "within" "within" s_within f fd)  (D_lacking_row : DnX P w K mg base "lacking_row" ["one", "other"] 13 (spLackB K C C_BadSummary C_NoRow C_TooLong))  : FnOk P w K mg base (L2N.CX P w) 14 f fd ["one", "other"] (spLackB K C C_BadSummary C_NoRow C_TooLong) := by
  refine F.okXN sc_within (fun vs H Q E h => ?_) (fun cdv A outer s H vs Q E hr h => ?_)
  · obtain ⟨v, u, rfl, _⟩ := h
    rfl
  · obtain ⟨v, u, rfl, h⟩ := h
    have nd := sc_within.nd
    have hr13 : Room 13 _ := hr.mono (by decide)
    refine ⟨_, pss_one (ps_ret (pe_cmp (pc_isN (pe_dnX (W := fun cls d _ H => E cls d H) D_lacking_row hr13 (L2N.takes_of rfl rfl rfl rfl) (pa_cons (pv 0) (pa_cons (pv 1) pa_nil)))) rfl)), ?_⟩
    exact ⟨_, rfl, _, rfl, v, u, rfl, h⟩
-- @prem withinB within X : D_lacking_row
def spCountB (K : PySem.W.Frag) (C B N V L : Addr) : Sp := fun vs H Q E => ∃ (v a b : L2.V) (Ta Tb : String), vs = [v, a, b] ∧ Any K H a Ta ∧ Any K H b Tb ∧ ((∃ T, Any K H v T ∧ E (.ref B) none H) ∨
  (∃ n es, SumV C H v n es ∧ Valid n es ∧ (¬ Fits n es → ∀ H', Same H H' → E (.ref N) none H') ∧ (Fits n es → (bV a = false → ∀ H', Same H H' → E (.ref V) none H') ∧ (bV a = true → bV b = false → ∀ H', Same H H' → E (.ref V) none H') ∧ (bV a = true → bV b = true → 40 < n ∧ ∀ H', Same H H' → E (.ref L) none H'))))
set_option maxHeartbeats 16000000 in
theorem ok_count_rowsB {f : Addr} {fd : FuncData} (F : Fun K "count_rows" "count_rows" s_count_rows f fd)  (D_surely_tightened : DnX P w K mg base "surely_tightened" ["summary"] 9 (spOr (spSure C C_NoRow) (spBad1 K C_BadSummary))) (D_check_value : DnX P w K mg base "check_value" ["thing"] 4 (spCkValA K C_BadValue)) (D_check_short : DnX P w K mg base "check_short" ["summary"] 3 (spCkShort C C_TooLong)) (m_sorted : mg "sorted" = none) (T : SumT K mg C) (DE : Pr P w K mg base C "entries" 1 (getSp C "_entries")) (m_all : mg "all" = none) (D_is_between : Dn P w K mg base "is_between" ["value", "least", "greatest"] 2 (spBetween)) (DM : Pr P w K mg base C "many" 1 (getSp C "_many")) (D__with_others : Dn P w K mg base "_with_others" ["ways", "size"] 2 (spOth)) (D__with_kept : Dn P w K mg base "_with_kept" ["ways", "spans"] 2 (spKeptW))  : FnOk P w K mg base (L2N.CX P w) 10 f fd ["summary", "least", "greatest"] (spCountB K C C_BadSummary C_NoRow C_BadValue C_TooLong) := by
  refine F.okXN sc_count_rows (fun vs H Q E h => ?_) (fun cdv A outer s H vs Q E hr h => ?_)
  · obtain ⟨v, a, b, Ta, Tb, rfl, _⟩ := h
    rfl
  · obtain ⟨v, a, b, Ta, Tb, rfl, hA, hB, h⟩ := h
    have nd := sc_count_rows.nd
    have hr2 : Room 2 _ := hr.mono (by decide)
    have hr3 : Room 3 _ := hr.mono (by decide)
    have hr4 : Room 4 _ := hr.mono (by decide)
    have hr9 : Room 9 _ := hr.mono (by decide)
    refine ⟨_, pss_cons (ps_set (i := 3) nd rfl (Or.inl rfl) (pe_dnX (W := fun cls d _ H => E cls d H) D_surely_tightened hr9 (L2N.takes_of rfl rfl rfl rfl) (pa_cons (pv 0) pa_nil)))
        (pss_cons (ps_expr (pe_dnX (W := fun cls d _ H => E cls d H) D_check_value hr4 (L2N.takes_of rfl rfl rfl rfl) (pa_cons (pv 1) pa_nil)))
        (pss_cons (ps_expr (pe_dnX (W := fun cls d _ H => E cls d H) D_check_value hr4 (L2N.takes_of rfl rfl rfl rfl) (pa_cons (pv 2) pa_nil)))
        (pss_cons (ps_expr (pe_dnX (W := fun cls d _ H => E cls d H) D_check_short hr3 (L2N.takes_of rfl rfl rfl rfl) (pa_cons (pv 3) pa_nil)))
        (pss_cons (ps_set (i := 4) nd rfl (Or.inl rfl) (pe_callB (cr_sortedSet rfl) (by rfl) m_sorted (by decide +kernel) (pa_cons (pe_scI (own := [("value", 7), ("_", 8)]) (g := gTup K 3 (gCons (gName 7) (gCons (gName 8) (gCons (gName 8) gNil)))) (tt := tYes) (te := tVar 7) rfl nd (pi_tup (pe_pr DE T.ic.cl hr2 (pv 3))) (blkOk_by (own := [("value", 7), ("_", 8)]) (N := ["summary", "least", "greatest", "tight", "values", "ways", "following", "value", "_", "kept", "low", "high"]) (sc := defScope s_count_rows) (by decide +kernel)) (fun _ _ _ _ _ => (pg_tup rfl (pgs_cons (pg_name (i := 7) nd rfl (Or.inl rfl)) (pgs_cons (pg_name (i := 8) nd rfl (Or.inl rfl)) (pgs_cons (pg_name (i := 8) nd rfl (Or.inl rfl)) pgs_nil))))) (fun _ _ _ _ _ => pts_nil) (fun _ _ _ _ _ => (pv 7))) pa_nil)))
        (pss_cons (ps_if (pt_not (pt_val (pe_callB (cr_all rfl) (by rfl) m_all (by decide +kernel) (pa_cons (pe_lc (own := [("value", 7)]) (g := gName 7) (tt := tYes) (te := tCall (spBetween) [] E0 (tCons (tVar 7) (tCons (tVar 1) (tCons (tVar 2) tNil)))) rfl nd (pi_list (pv 4)) (blkOk_by (own := [("value", 7)]) (N := ["summary", "least", "greatest", "tight", "values", "ways", "following", "value", "_", "kept", "low", "high"]) (sc := defScope s_count_rows) (by decide +kernel)) (fun _ _ _ _ _ => (pg_name (i := 7) nd rfl (Or.inl rfl))) (fun _ _ _ _ _ => pts_nil) (fun _ _ _ _ _ => (pe_dn D_is_between hr2 (pa_cons (pv 7) (pa_cons (pv 1) (pa_cons (pv 2) pa_nil)))))) pa_nil)))) (pss_one (ps_ret pe_int)) pss_nil)
        (pss_cons (ps_set (i := 5) nd rfl (Or.inl rfl) (pe_op op_cat (pe_lst (pa_cons pe_int pa_nil)) (pe_op op_rep (pe_lst (pa_cons pe_int pa_nil)) (pe_pr DM T.ic.cl hr2 (pv 3)))))
        (pss_cons (ps_set (i := 6) nd rfl (Or.inl rfl) (pv 1))
        (pss_cons (ps_for (passes_of rfl) rfl (pi_list (pv 4)) (pg_name (i := 7) nd rfl (Or.inr rfl))
        (pss_cons (ps_set (i := 5) nd rfl (Or.inl rfl) (pe_dn D__with_others hr2 (pa_cons (pv 5) (pa_cons (pe_op op_sub (pv 7) (pv 6)) pa_nil))))
        (pss_cons (ps_set (i := 5) nd rfl (Or.inl rfl) (pe_dn D__with_kept hr2 (pa_cons (pv 5) (pa_cons (pe_lc (own := [("kept", 9), ("low", 10), ("high", 11)]) (g := gTup K 3 (gCons (gName 9) (gCons (gName 10) (gCons (gName 11) gNil)))) (tt := tTest (tOp (rEq) (tVar 9) (tVar 7))) (te := tTup ((tCons (tVar 10) (tCons (tVar 11) tNil)))) rfl nd (pi_tup (pe_pr DE T.ic.cl hr2 (pv 3))) (blkOk_by (own := [("kept", 9), ("low", 10), ("high", 11)]) (N := ["summary", "least", "greatest", "tight", "values", "ways", "following", "value", "_", "kept", "low", "high"]) (sc := defScope s_count_rows) (by decide +kernel)) (fun _ _ _ _ _ => (pg_tup rfl (pgs_cons (pg_name (i := 9) nd rfl (Or.inl rfl)) (pgs_cons (pg_name (i := 10) nd rfl (Or.inl rfl)) (pgs_cons (pg_name (i := 11) nd rfl (Or.inl rfl)) pgs_nil))))) (fun _ _ _ _ _ => (pts_one (pt_cmpR op_eq (pv 9) (pv 7) (nomark _)))) (fun _ _ _ _ _ => (pe_tup (pa_cons (pv 10) (pa_cons (pv 11) pa_nil))))) pa_nil))))
        (pss_one (ps_set (i := 6) nd rfl (Or.inl rfl) (pe_op op_add (pv 7) pe_int))))))
        (pss_one (ps_ret (pe_ix ix_list (pe_dn D__with_others hr2 (pa_cons (pv 5) (pa_cons (pe_op op_sub (pe_op op_add (pv 2) pe_int) (pv 6)) pa_nil))) (pe_pr DM T.ic.cl hr2 (pv 3)) (fun _ _ => rfl)))))))))))), ?_⟩
    rcases h with ⟨tn, hA', kE⟩ | ⟨n, es, hS, hv, kN, kF⟩
    · exact ⟨_, rfl, .inr ⟨v, tn, rfl, hA', kE⟩⟩
    refine ⟨_, rfl, .inl ⟨v, n, es, rfl, hS, hv, kN, fun hf H1 p s1 h1 => ?_⟩⟩
    obtain ⟨k1, k2, k3⟩ := kF hf
    refine ⟨_, rfl, a, Ta, rfl, hA.mono s1, fun h => k1 h H1 s1, fun h => ?_⟩
    refine ⟨_, rfl, b, Tb, rfl, hB.mono s1, fun h' => k2 h h' H1 s1, fun h' => ?_⟩
    exact ⟨_, rfl, _, n, _, rfl, h1, fun _ => (k3 h h').2 H1 s1, fun c => absurd c (by have := (k3 h h').1; omega)⟩
-- @prem count_rowsB count_rows X : D_surely_tightened D_check_value D_check_short m_sorted T DE m_all D_is_between DM D__with_others D__with_kept
end
end SR

set_option Elab.async false
set_option linter.all false
set_option maxRecDepth 100000
set_option maxHeartbeats 4000000
/-! Own error classes with one or two fields, stored by their __init__. -/
namespace SR
open PySem PySem.Spec PyProof.Rows L2
def spI1 (C : Addr) (f1 : Str) : Sp := fun vs H Q _ => ∃ (a : Addr) (x : V), vs = [.ref a, x] ∧ H a = some (exo a C none) ∧
  ∀ dx, H dx = none → dx ≠ a → Q .non (upd (upd H dx (exd dx [(f1, x)])) a (exo a C (some dx)))
def spI2 (C : Addr) (f1 f2 : Str) : Sp := fun vs H Q _ => ∃ (a : Addr) (x y : V), vs = [.ref a, x, y] ∧ H a = some (exo a C none) ∧
  ∀ dx, H dx = none → dx ≠ a → Q .non (upd (upd (upd H dx (exd dx [(f1, x)])) a (exo a C (some dx))) dx (exd dx [(f2, y), (f1, x)]))
/-- such a class x, at C -/
structure FxT (P : Program) (w : World) (K : PySem.W.Frag) (mg : Str → Option Value) (base : Heap) (x : Str) (C : Addr) (ps : List Str) (sp : Sp) : Prop where
  T : OexC K C
  X : XfC K C
  gC : mg x = some (.ref C)
  mkI : ∃ fI fd, PySem.W.findIn K (.ref C) "__init__" = some (some (.ref fI)) ∧ PySem.W.typeIn K (.ref fI) = some (.type "function") ∧ FnOk P w K mg base CX0 1 fI fd ps sp ∧ Binds K fd ps []
section
variable {X : Cx} {x : Str} {C : Addr} {ps : List Str} {sp : Sp} {e : Expr} {es : List Expr} {ta : TA} {p pos : Pos}
theorem pmk_fx (D : FxT X.prog X.w X.K X.mg X.base x C ps sp) (hr : Room 2 X.A) (ha : PA X (e :: es) ta) (hg : Gl X x)
    (hdb : (x == ("__debug__" : Str)) = false := by decide) (he : starEach (e :: es) X.env = (false, eval e X.env) :: starEach es X.env := by rfl) (hpl : (backTo pos (starEach es X.env)).any (·.1) = false := by rfl) :
    L2N.PMk X (.Call (.Name x p) (e :: es) [] pos) (tMkO C sp [] ta) := by
  obtain ⟨fI, fd, iC, tI, F, hb⟩ := D.mkI
  exact pmk_oexN D.T iC tI F hr hb pass0 hg D.gC ha hdb he hpl
end
section
variable {C : Addr}
def XQ (C a : Addr) (H1 : Hp) (Q : XK) : VK := fun v H2 => v = .non ∧ ∃ (d : Addr) (fs : List (Str × V)), H2 a = some (exo a C (some d)) ∧ H2 d = some (exd d fs) ∧ H1 d = none ∧ Q (.ref C) (some d) (upd (del H2 a) d (.xd fs))
theorem made1 {f1 : Str} {H1 : Hp} {Q : XK} {x : V} (k : ∀ d H', Same H1 H' → H1 d = none → H' d = some (.xd [(f1, x)]) → Q (.ref C) (some d) H') :
    ([x] : List V).length ≤ 1000 ∧ ∀ a, H1 a = none → spI1 C f1 (.ref a :: ([x] ++ [])) (upd H1 a (exo a C none)) (XQ C a H1 Q) (fun _ _ _ => False) := by
  refine ⟨by show 1 ≤ 1000; decide, fun a na => ⟨a, x, rfl, upd_same, fun dx nd ne => ⟨rfl, dx, [(f1, x)], upd_same, ?_, ?_, ?_⟩⟩⟩
  · rw [upd_ne ne, upd_same]
  · rw [upd_ne ne] at nd; exact nd
  · rw [upd_ne ne] at nd
    refine k dx _ (fun b o hb => ?_) nd upd_same
    have hbd : b ≠ dx := ne_of_none hb nd
    have hba : b ≠ a := ne_of_none hb na
    rw [upd_ne hbd, del_ne hba, upd_ne hba, upd_ne hbd, upd_ne hba]
    exact hb
theorem made2 {f1 f2 : Str} {H1 : Hp} {Q : XK} {x y : V} (k : ∀ d H', Same H1 H' → H1 d = none → H' d = some (.xd [(f2, y), (f1, x)]) → Q (.ref C) (some d) H') :
    ([x, y] : List V).length ≤ 1000 ∧ ∀ a, H1 a = none → spI2 C f1 f2 (.ref a :: ([x, y] ++ [])) (upd H1 a (exo a C none)) (XQ C a H1 Q) (fun _ _ _ => False) := by
  refine ⟨by show 2 ≤ 1000; decide, fun a na => ⟨a, x, y, rfl, upd_same, fun dx nd ne => ⟨rfl, dx, [(f2, y), (f1, x)], ?_, upd_same, ?_, ?_⟩⟩⟩
  · rw [upd_ne (Ne.symm ne), upd_same]
  · rw [upd_ne ne] at nd; exact nd
  · rw [upd_ne ne] at nd
    refine k dx _ (fun b o hb => ?_) nd upd_same
    have hbd : b ≠ dx := ne_of_none hb nd
    have hba : b ≠ a := ne_of_none hb na
    rw [upd_ne hbd, del_ne hba, upd_ne hbd, upd_ne hba, upd_ne hbd, upd_ne hba]
    exact hb
end
end SR

set_option Elab.async false
set_option linter.all false
set_option maxRecDepth 100000
set_option maxHeartbeats 4000000
/-! isinstance of a caught error, with or without fields. -/
namespace SR
open PySem PySem.Spec PyProof.Rows L2
/-- isinstance(e, c), e the error at a that the suite holds -/
def rIsX (K : PySem.W.Frag) (a : Addr) (cls : Value) (d : Option Addr) : List V → Hp → VK → Prop := fun xs H Q => ∃ (D : Addr) (c : V) (cv : Value) (b : Bool), cls = .ref D ∧ ExcC K D ∧ xs = [.ref a, c] ∧ (∀ u, RelV c u → u = cv) ∧
  PySem.W.kitOne K (.ref D) cv = some b ∧ (∀ dd, d = some dd → ∃ fs, H dd = some (.xd fs)) ∧ Q (.bl b) H
theorem isX_inst {X : Cx} {a D : Addr} {oe : Obj} {d : Option Addr} {pn pins : List (Addr × Obj)} {σ : L2.St} {H : Hp} {s : Shared} (I : Inv (X.suite a ((a, oe) :: pn)) pins σ H s) (hz : Zc (.ref D) d oe) (hf : ∃ vs, oe.data = .fields vs) (hd : ∀ dd, d = some dd → ∃ fs, H dd = some (.xd fs)) :
    ∃ od, PySem.W.InstAt s.heap a oe D od := by
  obtain ⟨ha, _⟩ := I.pin (a, oe) (List.mem_append_left _ List.mem_cons_self)
  obtain ⟨vs, hv⟩ := hf
  have hno : PySem.W.notCls oe = true := by unfold PySem.W.notCls; rw [hv] <;> rfl
  cases d with
  | none =>
    refine ⟨none, ha, hz.1, hno, ?_⟩
    have := hz.2
    rw [this]
    trivial
  | some dd =>
    obtain ⟨fs, hxd⟩ := hd dd rfl
    have ho : ObjOk X.prog X.w H s.heap dd (.xd fs) := I.hok dd _ hxd
    obtain ⟨mA, hns, _⟩ := ho
    obtain ⟨od, h1, _⟩ := lookIn_ns hns
    exact ⟨some od, ha, hz.1, hno, by rw [hz.2]; exact h1⟩
theorem call_isX {X : Cx} {a : Addr} {oe : Obj} {cls : Value} {d : Option Addr} {pn : List (Addr × Obj)} (hz : Zc cls d oe) (hf : ∃ vs, oe.data = .fields vs) : CallR (X.suite a ((a, oe) :: pn)) (.builtin "isinstance") (rIsX X.K a cls d) := by
  intro pins s σ H xs us Q I r h
  obtain ⟨D, c, cv, b, rfl, C, rfl, hcv, e, hd, q⟩ := h
  cases r with
  | cons rx rr =>
    cases rr with
    | cons rt rr =>
      cases rr
      cases rx
      have ec := hcv _ rt
      subst ec
      obtain ⟨od, J⟩ := isX_inst I hz hf hd
      obtain ⟨cdD, hcD, _⟩ := PySem.W.any_some C.hd
      exact PySem.W.kia_one (PySem.W.kitx_exc (od := od) (by rw [hcD]; rfl) C.hg C.hk C.hs C.ha C.hn C.ht C.hm) I.kIn J e (fun z => nomatch z) fun tk => ⟨.bl b, H, I.kept (t' := tk) fun _ _ z => z, rfl, q⟩
theorem ref_is {C : Addr} : ∀ u, RelV (.ref C) u → u = .ref C := fun u h => h
/-- own classes asked for -/
theorem kit_own {K : PySem.W.Frag} {A S : Addr} {b : Bool} (h1 : PySem.W.isClsIn K S = true) (h2 : PySem.W.typeIn K (.ref S) = some (.type "type")) (h3 : PySem.W.subIn K (.ref A) (.ref S) = some b) (h4 : PySem.W.subIn K (.ref A) (.ref A) = some true) : PySem.W.kitOne K (.ref A) (.ref S) = some b := by
  by_cases e : A = S
  · subst e
    rw [h3] at h4
    rw [h4]
    exact if_pos (beq_self_eq_true _)
  · have h1' : (PySem.W.clsIn K S).isSome = true := h1
    have e1 : ((PySem.W.clsIn K S).isSome && PySem.W.typeIn K (.ref S) == some (.type "type")) = true := by rw [h1', h2] <;> rfl
    have e2 : (Value.ref A == Value.ref S) = false := beq_eq_false_iff_ne.mpr fun z => e (by injection z)
    have : PySem.W.kitOne K (.ref A) (.ref S) = if (Value.ref A == Value.ref S) = true then some true else (if ((PySem.W.clsIn K S).isSome && PySem.W.typeIn K (.ref S) == some (.type "type")) = true then PySem.W.subIn K (.ref A) (.ref S) else none) := rfl
    rw [this, e2, if_neg Bool.false_ne_true, if_pos e1]
    exact h3
end SR

set_option Elab.async false
set_option linter.all false
set_option maxRecDepth 100000
set_option maxHeartbeats 4000000
/-! Told numbers refused. -/
namespace SR
open PySem PySem.Spec PyProof.Rows L2

/-- a thing among the told ones: none that is a tuple, or the items of a tuple -/
def Th (K : PySem.W.Frag) (H : Hp) (x : V) : Option (List V) → Prop
  | none => ∃ T, Any K H x T ∧ T ≠ "tuple"
  | some ys => ∃ t, x = .ref t ∧ H t = some (.tup ys) ∧ ∀ y ∈ ys, ∃ T, Any K H y T
theorem Th.mono {K : PySem.W.Frag} {H H' : Hp} {x : V} {o : Option (List V)} (s : Same H H') (h : Th K H x o) : Th K H' x o := by
  cases o with
  | none => exact let ⟨T, a, b⟩ := h; ⟨T, a.mono s, b⟩
  | some ys => exact let ⟨t, e, a, b⟩ := h; ⟨t, e, s _ _ a, fun y hy => let ⟨T, c⟩ := b y hy; ⟨T, c.mono s⟩⟩
def tokB (m : Int) : Option (List V) → Bool
  | some [y, z] => betV y 1 m && betV z (-10 ^ 30) (10 ^ 30)
  | _ => false
theorem betV_int {v : V} {a b : Int} (h : betV v a b = true) : ∃ i, v = .int i := by
  cases v with
  | int i => exact ⟨i, rfl⟩
  | _ => cases h
def pairO : Option (List V) → Option (Int × Int)
  | some [.int r, .int x] => some (r, x)
  | _ => none
theorem tokB_pair {m : Int} {o : Option (List V)} (h : tokB m o = true) : ∃ r x, o = some [.int r, .int x] := by
  unfold tokB at h
  split at h
  · rw [Bool.and_eq_true] at h
    obtain ⟨r, rfl⟩ := betV_int h.1
    obtain ⟨x, rfl⟩ := betV_int h.2
    exact ⟨r, x, rfl⟩
  · cases h
/-- the index of the first thing that cannot stand -/
def nbad (m : Int) : Int → Int → List (Option (List V)) → Option Nat
  | _, _, [] => none
  | br, bx, o :: t => if tokB m o = true then (match pairO o with
    | some (r, x) => if br < r ∧ bx ≤ x then (nbad m r x t).map (· + 1) else some 0
    | none => some 0) else some 0
/-- told numbers that are refused, and the index -/
inductive TBad (K : PySem.W.Frag) (H : Hp) (m : Int) : V → Option Nat → Prop
  | notT {u : V} {T : String} (h : Any K H u T) (n : T ≠ "tuple") : TBad K H m u none
  | long {a : Addr} {xs : List V} (h : H a = some (.tup xs)) (l : 12 < xs.length) : TBad K H m (.ref a) none
  | at_ {a : Addr} {xs : List V} {ths : List (Option (List V))} {i : Nat} (h : H a = some (.tup xs)) (l : xs.length ≤ 12) (t : Paired (Th K H) xs ths) (n : nbad m 0 (-10 ^ 30) ths = some i) : TBad K H m (.ref a) (some i)
theorem TBad.mono {K : PySem.W.Frag} {H H' : Hp} {m : Int} {u : V} {o : Option Nat} (s : Same H H') (h : TBad K H m u o) : TBad K H' m u o := by
  cases h with
  | notT h n => exact .notT (h.mono s) n
  | long h l => exact .long (s _ _ h) l
  | at_ h l t n => exact .at_ (s _ _ h) l (Paired.mapP t fun _ _ x => x.mono s) n
def ixV : Option Nat → V
  | none => .non
  | some i => .int (i : Int)
/-- the refusal with its index -/
def TaI (N : Addr) (H : Hp) (E : XK) (o : Option Nat) : Prop := ∀ H' d, Same H H' → H d = none → H' d = some (.xd [("index", ixV o)]) → E (.ref N) (some d) H'
theorem TaI.mono {N : Addr} {H H1 : Hp} {E : XK} {o : Option Nat} (h : TaI N H E o) (s : Same H H1) : TaI N H1 E o := fun H' d s' nd hd => h H' d (s.trans s') (s.free nd) hd
theorem TaI.made {N : Addr} {H : Hp} {E : XK} {o : Option Nat} {v : V} (h : TaI N H E o) (e : v = ixV o) : ([v] : List V).length ≤ 1000 ∧ ∀ a, H a = none → spI1 N "index" (.ref a :: ([v] ++ [])) (upd H a (exo a N none)) (XQ N a H E) (fun _ _ _ => False) := by
  subst e
  exact made1 fun d H' s nd hd => h H' d s nd hd
section
variable {P : Program} {w : World} {K : PySem.W.Frag} {mg : Str → Option Value} {base : Heap} {C C_BadSummary C_NoRow C_TooLong C_BadValue C_BadTold fI : Addr}
theorem sc_BadTold_init : FnScope ["self", "index"] ["self", "index"] (defScope s_BadTold_init) := ⟨rfl, rfl, rfl, by decide +kernel, rfl, by decide +kernel, by decide +kernel⟩
theorem ok_BadTold_init {f : Addr} {fd : FuncData} (F : Fun K "__init__" "BadTold.__init__" s_BadTold_init f fd) (T : OexC K C) (n1 : PySem.W.findIn K (.ref C) "index" = some none) : FnOk P w K mg base CX0 1 f fd ["self", "index"] (spI1 C "index") := by
  refine F.ok sc_BadTold_init (fun vs H Q E h => ?_) (fun cdv A outer s H vs Q E hr h => ?_)
  · obtain ⟨a, x, rfl, _⟩ := h
    rfl
  · obtain ⟨a, x, rfl, ha, k⟩ := h
    exact ⟨_, pss_one (ps_ost (pv 0) (pv 1)), _, rfl, _, rfl, a, C, rfl, T, n1, .inl ⟨ha, fun dx nd ne => k dx nd ne⟩⟩
def spIsToldA (K : PySem.W.Frag) : Sp := fun vs H Q _ => ∃ (m : Int) (x : V) (o : Option (List V)), vs = [.int m, x] ∧ Th K H x o ∧ Q (.bl (tokB m o)) H
theorem ok__is_toldA {f : Addr} {fd : FuncData} (F : Fun K "_is_told" "_is_told" s__is_told f fd)  (m_isinstance : mg "isinstance" = none) (m_tuple : mg "tuple" = none) (m_len : mg "len" = none) (D_is_between : Dn P w K mg base "is_between" ["value", "least", "greatest"] 2 (spBetweenA K)) (D_is_value : Dn P w K mg base "is_value" ["thing"] 3 (spIsValueA K))  : FnOk P w K mg base CX0 4 f fd ["many", "thing"] (spIsToldA K) := by
  refine F.ok sc__is_told (fun vs H Q E h => ?_) (fun cdv A outer s H vs Q E hr h => ?_)
  · obtain ⟨m, x, o, rfl, _⟩ := h
    rfl
  · obtain ⟨m, x, o, rfl, hx, k⟩ := h
    have nd := sc__is_told.nd
    have hr2 : Room 2 _ := hr.mono (by decide)
    have hr3 : Room 3 _ := hr.mono (by decide)
    refine ⟨_, pss_one (ps_ret (pe_and (pe_callB call_isi (by rfl) m_isinstance (by decide +kernel) (pa_cons (pv 1) (pa_cons (pe_bltn (v := .ty "tuple") (by rfl) m_tuple (by decide +kernel) rfl) pa_nil))) (pe_and (pe_cmpR op_eq (pe_callB call_len_seq (by rfl) m_len PySem.boot_len (pa_cons (pv 1) pa_nil)) pe_int (nomark _)) (pe_and (pe_dn D_is_between hr2 (pa_cons (pe_ix ix_tup (pv 1) pe_int (fun _ _ => rfl)) (pa_cons pe_int (pa_cons (pv 0) pa_nil)))) (pe_one (pe_dn D_is_value hr3 (pa_cons (pe_ix ix_tup (pv 1) pe_int (fun _ _ => rfl)) pa_nil))))))), ?_⟩
    cases o with
    | none =>
      obtain ⟨tn, hA, hn⟩ := hx
      refine ⟨_, rfl, _, _, _, _, _, rfl, .ty _, hA.ty, hA.kTup, _, rfl, ?_⟩
      rw [show (tn == "tuple") = false from beq_eq_false_iff_ne.mpr hn]
      exact iteF k
    | some ys =>
      obtain ⟨t, rfl, ht, hy⟩ := hx
      refine ⟨_, rfl, _, _, _, _, true, rfl, .ty _, .base (.tup ht), kit_ty (by decide +kernel), _, rfl, iteT ?_⟩
      refine ⟨_, rfl, t, _, rfl, .inr (SqT.of ht), rfl, _, rfl, ?_⟩
      match ys, ht, hy, k with
      | [], _, _, k => exact iteF k
      | [_], _, _, k => exact iteF k
      | c1 :: c2 :: c3 :: r, _, _, k =>
        rw [decide_eq_false (show ¬ V.int (((c1 :: c2 :: c3 :: r).length : Nat) : Int) = V.int 2 from fun z => by injection z with z; simp only [List.length_cons] at z; omega)]
        exact iteF k
      | [y, z], ht, hy, k =>
        obtain ⟨Ty, hAy⟩ := hy y (by simp)
        obtain ⟨Tz, hAz⟩ := hy z (by simp)
        refine iteT ?_
        refine ⟨_, rfl, t, _, 0, _, rfl, rfl, SqT.of ht, rfl, _, rfl, y, Ty, 1, m, rfl, hAy, _, rfl, ?_⟩
        have k : Q (.bl (betV y 1 m && betV z (-10 ^ 30) (10 ^ 30))) H := k
        cases hb : betV y 1 m with
        | false => rw [hb] at k; exact iteF k
        | true =>
          rw [hb] at k
          exact iteT ⟨_, rfl, t, _, 1, _, rfl, rfl, SqT.of ht, rfl, z, Tz, rfl, hAz, k⟩
-- @prem _is_toldA _is_told  : m_isinstance m_tuple m_len D_is_between D_is_value
def spCkToldB (K : PySem.W.Frag) (N : Addr) : Sp := fun vs H Q E => ∃ (m : Int) (u : V) (o : Option Nat), vs = [.int m, u] ∧ TBad K H m u o ∧ TaI N H E o
set_option maxHeartbeats 16000000 in
theorem ok__check_toldB {f : Addr} {fd : FuncData} (F : Fun K "_check_told" "_check_told" s__check_told f fd) {tk_MOST_TOLD : Tok} {tk_GREATEST_VALUE : Tok} (m_isinstance : mg "isinstance" = none) (m_tuple : mg "tuple" = none) (m_len : mg "len" = none) (m_MOST_TOLD : mg "MOST_TOLD" = some (.int (12) tk_MOST_TOLD)) (X_BadTold : FxT P w K mg base "BadTold" C_BadTold ["self", "index"] (spI1 C_BadTold "index")) (m_GREATEST_VALUE : mg "GREATEST_VALUE" = some (.int (10 ^ 30) tk_GREATEST_VALUE)) (m_enumerate : mg "enumerate" = none) (D__is_told : Dn P w K mg base "_is_told" ["many", "thing"] 4 (spIsToldA K))  : FnOk P w K mg base (L2N.CX P w) 5 f fd ["many", "told"] (spCkToldB K C_BadTold) := by
  refine F.okXN sc__check_told (fun vs H Q E h => ?_) (fun cdv A outer s H vs Q E hr h => ?_)
  · obtain ⟨m, u, o, rfl, _⟩ := h
    rfl
  · obtain ⟨m, u, o, rfl, hu, kE⟩ := h
    have nd := sc__check_told.nd
    have hr2 : Room 2 _ := hr.mono (by decide)
    have hr4 : Room 4 _ := hr.mono (by decide)
    refine ⟨_, pss_cons (ps_if (PW.pt (pw_or (pt_not (pt_val (pe_callB call_isi (by rfl) m_isinstance (by decide +kernel) (pa_cons (pv 1) (pa_cons (pe_bltn (v := .ty "tuple") (by rfl) m_tuple (by decide +kernel) rfl) pa_nil))))) (pw_or1 (pt_cmpR op_gt (pe_callB call_len_seq (by rfl) m_len PySem.boot_len (pa_cons (pv 1) pa_nil)) (pe_gi m_MOST_TOLD) (nomark _))))) (pss_one (L2N.ps_raise (W := fun cls d _ H => E cls d H) rfl (L2N.takes_of rfl rfl rfl rfl) (pmk_fx X_BadTold hr2 (pa_cons pe_non pa_nil) rfl))) pss_nil)
        (pss_cons (ps_set (i := 2) nd rfl (Or.inl rfl) (pe_tup (pa_cons pe_int (pa_cons (pe_un un_neg (pe_gi m_GREATEST_VALUE)) pa_nil))))
        (pss_one (ps_for (passes_of rfl) rfl (pi_enumT (by rfl) m_enumerate (pa_cons (pv 1) pa_nil)) (pg_tup rfl (pgs_cons (pg_name (i := 3) nd rfl (Or.inl rfl)) (pgs_cons (pg_name (i := 4) nd rfl (Or.inl rfl)) pgs_nil)))
        (pss_cons (ps_if (PW.pt (pw_or (pt_not (pt_val (pe_dn D__is_told hr4 (pa_cons (pv 0) (pa_cons (pv 4) pa_nil))))) (pw_or (pt_cmpR op_le (pe_ix ix_tup (pv 4) pe_int (fun _ _ => rfl)) (pe_ix ix_tup (pv 2) pe_int (fun _ _ => rfl)) (nomark _)) (pw_or1 (pt_cmpR op_lt (pe_ix ix_tup (pv 4) pe_int (fun _ _ => rfl)) (pe_ix ix_tup (pv 2) pe_int (fun _ _ => rfl)) (nomark _)))))) (pss_one (L2N.ps_raise (W := fun cls d _ H => E cls d H) rfl (L2N.takes_of rfl rfl rfl rfl) (pmk_fx X_BadTold hr2 (pa_cons (pv 3) pa_nil) rfl))) pss_nil)
        (pss_one (ps_set (i := 2) nd rfl (Or.inl rfl) (pv 4))))))), ?_⟩
    cases hu with
    | notT h n =>
      refine ⟨_, rfl, _, _, _, _, _, rfl, .ty _, h.ty, h.kTup, _, rfl, ?_⟩
      rw [show (_ == "tuple") = false from beq_eq_false_iff_ne.mpr n]
      exact iteT (TaI.made kE rfl)
    | @long a xs h l =>
      refine ⟨_, rfl, _, _, _, _, true, rfl, .ty _, .base (.tup h), kit_ty (by decide +kernel), true, rfl, iteF ?_⟩
      refine ⟨_, rfl, a, _, rfl, .inr (SqT.of h), _, _, rfl, rfl, _, rfl, ?_⟩
      rw [decide_eq_true (show (12 : Int) < (xs.length : Int) by omega)]
      exact iteT (TaI.made kE rfl)
    | @at_ a xs ths i ha hl ht hn =>
      have ll : xs.length = ths.length := ht.length
      refine ⟨_, rfl, _, _, _, _, true, rfl, .ty _, .base (.tup ha), kit_ty (by decide +kernel), true, rfl, iteF ?_⟩
      refine ⟨_, rfl, a, _, rfl, .inr (SqT.of ha), _, _, rfl, rfl, _, rfl, ?_⟩
      rw [decide_eq_false (show ¬ (12 : Int) < (xs.length : Int) by omega)]
      refine iteF ?_
      refine ⟨_, rfl, (by show 2 ≤ sizeLine; decide), fun z nz => ?_⟩
      have tz := Same_new (o := .tup [.int 0, .int (-10 ^ 30)]) nz
      refine ⟨_, rfl, a, xs, rfl, SqT.of (tz _ _ ha), for_enumT (K := K) (a := a) (xs := xs) (fun j σ H' => ∃ (b : Addr) (r x : Int) (y3 y4 : Option V) (q : Nat), σ = [some (.int m), some (.ref a), some (.ref b), y3, y4] ∧ H' b = some (.tup [.int r, .int x]) ∧ Same H H' ∧ nbad m r x (ths.drop j) = some q ∧ j + q = i)
        ⟨z, 0, -10 ^ 30, none, none, i, rfl, upd_same, tz, hn, by omega⟩ (fun j σ H' ⟨_, _, _, _, _, _, _, _, s5, _⟩ => SqT.of (s5 _ _ ha)) ?_ ?_⟩
      · rintro j x Tt σ H' hx ⟨b, r, y, y3, y4, q, rfl, hb, s5, hq, hj⟩ hT
        obtain ⟨th, hth, hxt⟩ := pr_at' ht hx
        have jl : j < ths.length := (List.getElem?_eq_some_iff.mp hth).1
        have s6 : Same H (upd H' Tt (.tup [.int (j : Nat), x])) := Same_new2 s5 hT
        have hb6 := Same_new (o := .tup [.int (j : Nat), x]) hT _ _ hb
        have hx6 := hxt.mono s6
        have ed : ths.drop j = th :: ths.drop (j + 1) := by
          rw [List.drop_eq_getElem_cons jl]
          congr 1
          exact (List.getElem?_eq_some_iff.mp hth).2
        rw [ed] at hq
        refine ⟨Tt, _, rfl, SqT.of upd_same, rfl, _, _, rfl, _, _, rfl, rfl, ?_⟩
        refine ⟨_, rfl, _, rfl, m, x, th, rfl, hx6, _, rfl, ?_⟩
        have refuse : q = 0 → TaI C_BadTold (upd H' Tt (.tup [.int (j : Nat), x])) E (some j) := fun e => by
          have e2 : j = i := by omega
          have := kE.mono s6
          rw [← e2] at this
          exact this
        cases hk : tokB m th with
        | false =>
          refine iteT ⟨_, rfl, TaI.made (refuse ?_) rfl⟩
          have hq' : (if tokB m th = true then _ else some 0) = some q := hq
          rw [hk, if_neg Bool.false_ne_true] at hq'
          exact (Option.some.inj hq').symm
        | true =>
          obtain ⟨r', x', rfl⟩ := tokB_pair hk
          have hq' : (if tokB m (some [.int r', .int x']) = true then (if r < r' ∧ y ≤ x' then (nbad m r' x' (ths.drop (j + 1))).map (· + 1) else some 0) else some 0) = some q := hq
          rw [if_pos hk] at hq'
          obtain ⟨t, rfl, hq6, _⟩ := hx6
          refine iteF ?_
          refine ⟨_, rfl, t, _, 0, _, rfl, rfl, SqT.of hq6, rfl, _, rfl, b, _, 0, _, rfl, rfl, SqT.of hb6, rfl, _, _, rfl, rfl, _, rfl, ite2 (fun c => ?_) (fun c => ?_)⟩
          · refine ⟨_, rfl, TaI.made (refuse ?_) rfl⟩
            have c := of_decide_eq_true c
            rw [if_neg (fun z => by have := z.1; omega)] at hq'
            exact (Option.some.inj hq').symm
          have c1 : r < r' := by
            by_cases h : r' ≤ r
            · exact absurd (decide_eq_true h) c
            · omega
          refine ⟨_, rfl, t, _, 1, _, rfl, rfl, SqT.of hq6, rfl, _, rfl, b, _, 1, _, rfl, rfl, SqT.of hb6, rfl, _, _, rfl, rfl, _, rfl, ite2 (fun c => ?_) (fun c => ?_)⟩
          · refine ⟨_, rfl, TaI.made (refuse ?_) rfl⟩
            have c := of_decide_eq_true c
            rw [if_neg (fun z => by have := z.2; omega)] at hq'
            exact (Option.some.inj hq').symm
          have c2 : y ≤ x' := by
            by_cases h : x' < y
            · exact absurd (decide_eq_true h) c
            · omega
          rw [if_pos ⟨c1, c2⟩] at hq'
          cases hr' : nbad m r' x' (ths.drop (j + 1)) with
          | none => rw [hr'] at hq'; cases hq'
          | some q' =>
            rw [hr'] at hq'
            have : q' + 1 = q := Option.some.inj hq'
            exact ⟨_, rfl, t, r', x', _, _, q', rfl, hq6, s6, hr', by omega⟩
      · rintro σ H' ⟨_, _, _, _, _, q, rfl, _, s5, hq, _⟩
        rw [List.drop_of_length_le (by rw [ll]; exact Nat.le_refl _)] at hq
        cases hq
-- @prem _check_toldB _check_told X : m_isinstance m_tuple m_len m_MOST_TOLD X_BadTold m_GREATEST_VALUE m_enumerate D__is_told
/-- told numbers of a summary of n: refused with an index, or fine -/
def ToldV (K : PySem.W.Frag) (H : Hp) (n : Int) (u : V) (N : Addr) (E : XK) (good : Prop) : Prop := (∃ o, TBad K H n u o ∧ TaI N H E o) ∨ (∃ T, TP H u T ∧ ToldOk n T ∧ good)
def spWithB (K : PySem.W.Frag) (C B N T L : Addr) : Sp := fun vs H Q E => ∃ (v u : V), vs = [v, u] ∧ ((∃ S, Any K H v S ∧ E (.ref B) none H) ∨ (∃ n es, SumV C H v n es ∧ Valid n es ∧ (¬ Fits n es → ∀ H', Same H H' → E (.ref N) none H') ∧
  (Fits n es → ToldV K H n u T E (40 < n ∧ ∀ H', Same H H' → E (.ref L) none H'))))
set_option maxHeartbeats 16000000 in
theorem ok_row_withB {f : Addr} {fd : FuncData} (F : Fun K "row_with" "row_with" s_row_with f fd)  (D_surely_tightened : DnX P w K mg base "surely_tightened" ["summary"] 9 (spOr (spSure C C_NoRow) (spBad1 K C_BadSummary))) (D__check_told : DnX P w K mg base "_check_told" ["many", "told"] 5 (spOr spCkTold (spCkToldB K C_BadTold))) (T : SumT K mg C) (DM : Pr P w K mg base C "many" 1 (getSp C "_many")) (D_check_short : DnX P w K mg base "check_short" ["summary"] 3 (spCkShort C C_TooLong)) (D__narrowed : Dn P w K mg base "_narrowed" ["tight", "told"] 9 (spNarrow K C)) (DE : Pr P w K mg base C "entries" 1 (getSp C "_entries")) (m_dict : mg "dict" = none) (D_filled : Dn P w K mg base "filled" ["many", "numbers", "first"] 1 (spFilled)) (m_min : mg "min" = none)  : FnOk P w K mg base (L2N.CX P w) 10 f fd ["summary", "told"] (spWithB K C C_BadSummary C_NoRow C_BadTold C_TooLong) := by
  refine F.okXN sc_row_with (fun vs H Q E h => ?_) (fun cdv A outer s H vs Q E hr h => ?_)
  · obtain ⟨v, u, rfl, _⟩ := h
    rfl
  · obtain ⟨v, u, rfl, h⟩ := h
    have nd := sc_row_with.nd
    have hr1 : Room 1 _ := hr.mono (by decide)
    have hr2 : Room 2 _ := hr.mono (by decide)
    have hr3 : Room 3 _ := hr.mono (by decide)
    have hr5 : Room 5 _ := hr.mono (by decide)
    have hr9 : Room 9 _ := hr.mono (by decide)
    refine ⟨_, pss_cons (ps_set (i := 2) nd rfl (Or.inl rfl) (pe_dnX (W := fun cls d _ H => E cls d H) D_surely_tightened hr9 (L2N.takes_of rfl rfl rfl rfl) (pa_cons (pv 0) pa_nil)))
        (pss_cons (ps_expr (pe_dnX (W := fun cls d _ H => E cls d H) D__check_told hr5 (L2N.takes_of rfl rfl rfl rfl) (pa_cons (pe_pr DM T.ic.cl hr2 (pv 2)) (pa_cons (pv 1) pa_nil))))
        (pss_cons (ps_expr (pe_dnX (W := fun cls d _ H => E cls d H) D_check_short hr3 (L2N.takes_of rfl rfl rfl rfl) (pa_cons (pv 2) pa_nil)))
        (pss_cons (ps_set (i := 3) nd rfl (Or.inl rfl) (pe_dn D__narrowed hr9 (pa_cons (pv 2) (pa_cons (pv 1) pa_nil))))
        (pss_cons (ps_if (pt_cmp (pc_isN (pv 3))) (pss_one (ps_ret pe_non)) pss_nil)
        (pss_cons (ps_setDc (j := 4) (own := [("value", 5), ("low", 6), ("_", 7)]) (g := gTup K 3 (gCons (gName 5) (gCons (gName 6) (gCons (gName 7) gNil)))) (tt := tYes) (tk := tVar 6) (tv := tVar 5) rfl nd rfl rfl (swd_true rfl rfl rfl (by decide +kernel)) (pi_tup (pe_pr DE T.ic.cl hr2 (pv 3))) (blkOk_by (own := [("value", 5), ("low", 6), ("_", 7)]) (N := ["summary", "told", "tight", "narrow", "numbers", "value", "low", "_"]) (sc := defScope s_row_with) (by decide +kernel)) (fun _ _ _ _ _ => (pg_tup rfl (pgs_cons (pg_name (i := 5) nd rfl (Or.inl rfl)) (pgs_cons (pg_name (i := 6) nd rfl (Or.inl rfl)) (pgs_cons (pg_name (i := 7) nd rfl (Or.inl rfl)) pgs_nil))))) (fun _ _ _ _ _ => pts_nil) (fun _ _ _ _ _ => (pv 6)) (fun _ _ _ _ _ => (pv 5)))
        (pss_cons (ps_expr (pe_dupd (pv 4) (pe_callTy (T := "dict") (call_dictT rfl) (by rfl) m_dict (by decide +kernel) (pa_cons (pv 1) pa_nil)) ⟨rfl, rfl, rfl, rfl⟩))
        (pss_one (ps_ret (pe_dn D_filled hr1 (pa_cons (pe_pr DM T.ic.cl hr2 (pv 2)) (pa_cons (pv 4) (pa_cons (pe_callBK (cr_minVD rfl) (by rfl) m_min (by decide +kernel) (pa_cons (pe_vals (pv 4)) pa_nil) (pk_cons pe_int pk_nil)) pa_nil)))))))))))), ?_⟩
    rcases h with ⟨S, hA, kE⟩ | ⟨n, es, hS, hv, kN, kF⟩
    · exact ⟨_, rfl, .inr ⟨v, S, rfl, hA, kE⟩⟩
    refine ⟨_, rfl, .inl ⟨v, n, es, rfl, hS, hv, kN, fun hf H1 p s1 h1 => ?_⟩⟩
    obtain ⟨p1, dx1, u1, e1, hp1, hu1⟩ := id h1
    cases e1
    refine ⟨_, rfl, p, dx1, _, rfl, hp1, p, dx1, _, _, rfl, hp1, sfl_many _ _, _, rfl, ?_⟩
    rcases kF hf with ⟨o, hb, hE⟩ | ⟨tl, hT, ok, n40, kL⟩
    · exact .inr ⟨n, u, o, rfl, hb.mono s1, hE.mono s1⟩
    · exact .inl ⟨n, u, tl, rfl, hT.mono s1, ok, fun H2 s2 => ⟨_, rfl, _, n, _, rfl, h1.mono s2, fun _ => kL H2 (s1.trans s2), fun h => absurd h (by omega)⟩⟩
-- @prem row_withB row_with X : D_surely_tightened D__check_told T DM D_check_short D__narrowed DE m_dict D_filled m_min
def spCanB (K : PySem.W.Frag) (C B N T V L : Addr) : Sp := fun vs H Q E => ∃ (v u x : L2.V) (X : String), vs = [v, u, x] ∧ Any K H x X ∧ ((∃ S, Any K H v S ∧ E (.ref B) none H) ∨ (∃ n es, SumV C H v n es ∧ Valid n es ∧ (¬ Fits n es → ∀ H', Same H H' → E (.ref N) none H') ∧
  (Fits n es → ToldV K H n u T E ((bV x = false → ∀ H', Same H H' → E (.ref V) none H') ∧ (bV x = true → 40 < n ∧ ∀ H', Same H H' → E (.ref L) none H')))))
set_option maxHeartbeats 16000000 in
theorem ok_can_haveB {f : Addr} {fd : FuncData} (F : Fun K "can_have" "can_have" s_can_have f fd)  (D_surely_tightened : DnX P w K mg base "surely_tightened" ["summary"] 9 (spOr (spSure C C_NoRow) (spBad1 K C_BadSummary))) (D__check_told : DnX P w K mg base "_check_told" ["many", "told"] 5 (spOr spCkTold (spCkToldB K C_BadTold))) (T : SumT K mg C) (DM : Pr P w K mg base C "many" 1 (getSp C "_many")) (D_check_value : DnX P w K mg base "check_value" ["thing"] 4 (spCkValA K C_BadValue)) (D_check_short : DnX P w K mg base "check_short" ["summary"] 3 (spCkShort C C_TooLong)) (m_range : mg "range" = none) (D__can_stand : Dn P w K mg base "_can_stand" ["told", "rank", "value"] 1 (spStand K)) (D__narrowed : Dn P w K mg base "_narrowed" ["tight", "told"] 9 (spNarrow K C))  : FnOk P w K mg base (L2N.CX P w) 10 f fd ["summary", "told", "value"] (spCanB K C C_BadSummary C_NoRow C_BadTold C_BadValue C_TooLong) := by
  refine F.okXN sc_can_have (fun vs H Q E h => ?_) (fun cdv A outer s H vs Q E hr h => ?_)
  · obtain ⟨v, u, x, X, rfl, _⟩ := h
    rfl
  · obtain ⟨v, u, x, X, rfl, hX, h⟩ := h
    have nd := sc_can_have.nd
    have hr1 : Room 1 _ := hr.mono (by decide)
    have hr2 : Room 2 _ := hr.mono (by decide)
    have hr3 : Room 3 _ := hr.mono (by decide)
    have hr4 : Room 4 _ := hr.mono (by decide)
    have hr5 : Room 5 _ := hr.mono (by decide)
    have hr9 : Room 9 _ := hr.mono (by decide)
    refine ⟨_, pss_cons (ps_set (i := 3) nd rfl (Or.inr rfl) (pe_dnX (W := fun cls d _ H => E cls d H) D_surely_tightened hr9 (L2N.takes_of rfl rfl rfl rfl) (pa_cons (pv 0) pa_nil)))
        (pss_cons (ps_expr (pe_dnX (W := fun cls d _ H => E cls d H) D__check_told hr5 (L2N.takes_of rfl rfl rfl rfl) (pa_cons (pe_pr DM T.ic.cl hr2 (pv 3)) (pa_cons (pv 1) pa_nil))))
        (pss_cons (ps_expr (pe_dnX (W := fun cls d _ H => E cls d H) D_check_value hr4 (L2N.takes_of rfl rfl rfl rfl) (pa_cons (pv 2) pa_nil)))
        (pss_cons (ps_expr (pe_dnX (W := fun cls d _ H => E cls d H) D_check_short hr3 (L2N.takes_of rfl rfl rfl rfl) (pa_cons (pv 3) pa_nil)))
        (pss_cons (ps_setLc (i := 4) (own := [("rank", 5)]) (g := gName 5) (tt := tB (tCall (spStand K) [] E0 (tCons (tVar 1) (tCons (tVar 5) (tCons (tVar 2) tNil))))) (te := tVar 5) rfl nd rfl rfl (sw_true rfl rfl rfl (by decide +kernel)) (pi_range2 (by rfl) m_range (pa_cons pe_int (pa_cons (pe_op op_add (pe_pr DM T.ic.cl hr2 (pv 3)) pe_int) pa_nil))) (blkOk_by (own := [("rank", 5)]) (N := ["summary", "told", "value", "tight", "ranks", "rank"]) (sc := defScope s_can_have) (by decide +kernel)) (fun _ _ _ _ _ => (pg_name (i := 5) nd rfl (Or.inl rfl))) (fun _ _ _ _ _ => (pts_one (pt_val (pe_dn D__can_stand hr1 (pa_cons (pv 1) (pa_cons (pv 5) (pa_cons (pv 2) pa_nil))))))) (fun _ _ _ _ _ => (pv 5)))
        (pss_one (ps_ret (pe_lc (own := [("rank", 5)]) (g := gName 5) (tt := tTest (tNotN (tCall (spNarrow K C) [] E0 (tCons (tVar 3) (tCons (tOp (rCatA K) (tVar 1) (tTup ((tCons (tTup ((tCons (tVar 5) (tCons (tVar 2) tNil)))) tNil)))) tNil))))) (te := tVar 5) rfl nd (pi_list (pv 4)) (blkOk_by (own := [("rank", 5)]) (N := ["summary", "told", "value", "tight", "ranks", "rank"]) (sc := defScope s_can_have) (by decide +kernel)) (fun _ _ _ _ _ => (pg_name (i := 5) nd rfl (Or.inl rfl))) (fun _ _ _ _ _ => (pts_one (pt_cmp (pc_notN (pe_dn D__narrowed hr9 (pa_cons (pv 3) (pa_cons (pe_op op_catA (pv 1) (pe_tup (pa_cons (pe_tup (pa_cons (pv 5) (pa_cons (pv 2) pa_nil))) pa_nil))) pa_nil))))))) (fun _ _ _ _ _ => (pv 5))))))))), ?_⟩
    rcases h with ⟨S, hA, kE⟩ | ⟨n, es, hS, hv, kN, kF⟩
    · exact ⟨_, rfl, .inr ⟨v, S, rfl, hA, kE⟩⟩
    refine ⟨_, rfl, .inl ⟨v, n, es, rfl, hS, hv, kN, fun hf H1 p s1 h1 => ?_⟩⟩
    obtain ⟨p1, dx1, u1, e1, hp1, hu1⟩ := id h1
    cases e1
    refine ⟨_, rfl, p, dx1, _, rfl, hp1, p, dx1, _, _, rfl, hp1, sfl_many _ _, _, rfl, ?_⟩
    rcases kF hf with ⟨o, hb, hE⟩ | ⟨tl, hT, ok, kV, kL⟩
    · exact .inr ⟨n, u, o, rfl, hb.mono s1, hE.mono s1⟩
    · refine .inl ⟨n, u, tl, rfl, hT.mono s1, ok, fun H2 s2 => ?_⟩
      refine ⟨_, rfl, x, X, rfl, (hX.mono s1).mono s2, fun h => kV h H2 (s1.trans s2), fun h => ?_⟩
      obtain ⟨n40, kL⟩ := kL h
      exact ⟨_, rfl, _, n, _, rfl, h1.mono s2, fun _ => kL H2 (s1.trans s2), fun h => absurd h (by omega)⟩
-- @prem can_haveB can_have X : D_surely_tightened D__check_told T DM D_check_value D_check_short m_range D__can_stand D__narrowed
end
end SR

set_option Elab.async false
set_option linter.all false
set_option maxRecDepth 100000
set_option maxHeartbeats 4000000
/-! The law's own look for the thing that cannot stand (called where an error is handled). -/
namespace SR
open PySem PySem.Spec PyProof.Rows L2

def refD (k : Nat) : PyData := if k = 0 then .tuple [.int 1, .int 4] else .tuple [.int 2, .int 4]
def difB (ds : List PyData) (k : Nat) : Bool := (!PyData.eqv (ds.getD k .none) (refD k)) || decide ((1 : Int) < (k : Int))
def difs (ds : List PyData) (n : Nat) : List Nat := (List.range n).filter (difB ds)
theorem difs_snoc (ds : List PyData) (n : Nat) : difs ds (n + 1) = difs ds n ++ (if difB ds n = true then [n] else []) := by
  unfold difs
  rw [List.range_succ, List.filter_append, List.filter_cons]
  cases difB ds n <;> rfl
theorem difs_len (ds : List PyData) (n : Nat) : (difs ds n).length ≤ n := by
  unfold difs
  have := List.length_filter_le (difB ds) (List.range n)
  rwa [List.length_range] at this
theorem refD_shaped (k : Nat) : SeqAt.shaped (refD k) = true := by
  unfold refD
  split <;> decide +kernel
theorem dpAll_at {K : PySem.W.Frag} {H : Hp} : ∀ {xs : List V} {ds : List PyData} {i : Nat} {x : V}, DpAll K H xs ds → xs[i]? = some x → ∃ d, ds[i]? = some d ∧ Dp K H x d
  | _, _, _, _, .nil, e => by simp at e
  | _, _, 0, _, .cons h _, e => by simp at e; subst e; exact ⟨_, rfl, h⟩
  | _, _, i + 1, _, .cons _ t, e => by
    obtain ⟨d, h1, h2⟩ := dpAll_at (i := i) t (by simpa using e)
    exact ⟨d, by simpa using h1, h2⟩
theorem dpAll_len {K : PySem.W.Frag} {H : Hp} : ∀ {xs : List V} {ds : List PyData}, DpAll K H xs ds → xs.length = ds.length
  | _, _, .nil => rfl
  | _, _, .cons _ t => by rw [List.length_cons, List.length_cons, dpAll_len t]
section
variable {P : Program} {w : World} {K : PySem.W.Frag} {mg : Str → Option Value} {base : Heap}
/-- what it finds at u -/
def ThAt (K : PySem.W.Frag) (H : Hp) (u : V) (o : Option Nat) : Prop := (o = none ∧ ∃ S, Any K H u S ∧ S ≠ "tuple") ∨ (o = none ∧ ∃ a xs, u = .ref a ∧ H a = some (.tup xs) ∧ 12 < xs.length) ∨
  (∃ a xs ds i, o = some i ∧ u = .ref a ∧ H a = some (.tup xs) ∧ xs.length ≤ 12 ∧ DpAll K H xs ds ∧ (∀ d ∈ ds, SeqAt.shaped d = true) ∧ (difs ds ds.length).head? = some i)
theorem ThAt.mono {K : PySem.W.Frag} {H H' : Hp} {u : V} {o : Option Nat} (s : Same H H') (h : ThAt K H u o) : ThAt K H' u o := by
  rcases h with ⟨e, S, a, b⟩ | ⟨e, a, xs, e2, h, l⟩ | ⟨a, xs, ds, i, e, e2, h, l, d, r⟩
  · exact .inl ⟨e, S, a.mono s, b⟩
  · exact .inr (.inl ⟨e, a, xs, e2, s _ _ h, l⟩)
  · exact .inr (.inr ⟨a, xs, ds, i, e, e2, s _ _ h, l, dpAll_mono s d, r⟩)
def spThing (K : PySem.W.Frag) : Sp := fun vs H Q _ => ∃ (u : V) (o : Option Nat), vs = [u] ∧ ThAt K H u o ∧ ∀ H', Same H H' → Q (ixV o) H'
theorem sc__law_thing_at : FnScope ["_law_value", "_law_k"] ["_law_value"] (defScope s__law_thing_at) := ⟨rfl, rfl, rfl, by decide +kernel, rfl, by decide +kernel, by decide +kernel⟩
set_option maxHeartbeats 16000000 in
theorem ok__law_thing_at {f : Addr} {fd : FuncData} (F : Fun K "_law_thing_at" "_law_thing_at" s__law_thing_at f fd)  (m_isinstance : mg "isinstance" = none) (m_tuple : mg "tuple" = none) (m_len : mg "len" = none) (m_range : mg "range" = none) (m_min : mg "min" = none)  : L2H.FnH P w K mg base CX0 3 f fd ["_law_value"] (spThing K) := by
  refine okH F sc__law_thing_at (fun vs H Q E h => ?_) (fun cdv A outer s H vs Q E pH hot hr h => ?_)
  · obtain ⟨u, o, rfl, _⟩ := h
    rfl
  · obtain ⟨u, o, rfl, h, k⟩ := h
    have nd := sc__law_thing_at.nd
    refine ⟨_, pss_cons (ps_if (PW.pt (pw_or (pt_not (pt_val (pe_callB call_isi (by rfl) m_isinstance (by decide +kernel) (pa_cons (pv 0) (pa_cons (pe_bltn (v := .ty "tuple") (by rfl) m_tuple (by decide +kernel) rfl) pa_nil))))) (pw_or1 (pt_cmpR op_gt (pe_callB call_len_seq (by rfl) m_len PySem.boot_len (pa_cons (pv 0) pa_nil)) pe_int (nomark _))))) (pss_one (ps_ret pe_non)) pss_nil)
        (pss_one (ps_ret (pe_ix ix_list (pe_lcH (own := [("_law_k", 1)]) (g := gName 1) (tt := tOr (tTest (tOp (rNeD K) (tOp (rIxT K) (tVar 0) (tVar 1)) (tOp (rIxT K) (tTup ((tCons (tTup ((tCons (tC (.int 1)) (tCons (tC (.int 4)) tNil)))) (tCons (tTup ((tCons (tC (.int 2)) (tCons (tC (.int 4)) tNil)))) tNil)))) (tCB (fun xs H Q => ∃ i j, xs = [.int i, .int j] ∧ Q (.int (if j < i then j else i)) H) (tCons (tVar 1) (tCons (tC (.int 1)) tNil)))))) (tTest (tOp (rI0 fun i j => .bl (decide (j < i))) (tVar 1) (tC (.int 1))))) (te := tVar 1) hot nd (L2H.pi_range1H (by rfl) m_range (pa_cons (pe_callB call_len_seq (by rfl) m_len PySem.boot_len (pa_cons (pv 0) pa_nil)) pa_nil)) (blkOk_by (own := [("_law_k", 1)]) (N := ["_law_value", "_law_k"]) (sc := defScope s__law_thing_at) (by decide +kernel)) (fun _ _ _ _ _ => (pg_name (i := 1) nd rfl (Or.inl rfl))) (fun _ _ _ _ _ => (pts_one (PW.pt (pw_or (pt_cmpR (op_neD (unitsH hr)) (pe_ix ix_tup (pv 0) (pv 1) (fun _ _ => rfl)) (pe_ix ix_tup (pe_tup (pa_cons (pe_tup (pa_cons pe_int (pa_cons pe_int pa_nil))) (pa_cons (pe_tup (pa_cons pe_int (pa_cons pe_int pa_nil))) pa_nil))) (pe_callB (call_min2H (hot_blk hot)) (by rfl) m_min (by decide +kernel) (pa_cons (pv 1) (pa_cons pe_int pa_nil))) (fun _ _ => rfl)) (nomark _)) (pw_or1 (pt_cmpR op_gt (pv 1) pe_int (nomark _))))))) (fun _ _ _ _ _ => (pv 1))) pe_int (fun _ _ => rfl)))), ?_⟩
    rcases h with ⟨rfl, S, hA, hn⟩ | ⟨rfl, a, xs, rfl, ha, l12⟩ | ⟨a, xs, ds, i0, rfl, rfl, ha, l12, hd, hs, hi⟩
    · refine ⟨_, rfl, _, _, _, _, _, rfl, .ty _, hA.ty, hA.kTup, _, rfl, ?_⟩
      rw [show (S == "tuple") = false from beq_eq_false_iff_ne.mpr hn]
      exact iteT (k H (Same.refl H))
    · refine ⟨_, rfl, _, _, _, _, true, rfl, .ty _, .base (.tup ha), kit_ty (by decide +kernel), true, rfl, iteF ?_⟩
      refine ⟨_, rfl, a, _, rfl, .inr (SqT.of ha), _, _, rfl, rfl, _, rfl, ?_⟩
      rw [decide_eq_true (show (12 : Int) < (xs.length : Int) by omega)]
      exact iteT (k H (Same.refl H))
    refine ⟨_, rfl, _, _, _, _, true, rfl, .ty _, .base (.tup ha), kit_ty (by decide +kernel), true, rfl, iteF ?_⟩
    refine ⟨_, rfl, a, _, rfl, .inr (SqT.of ha), _, _, rfl, rfl, _, rfl, ?_⟩
    rw [decide_eq_false (show ¬ (12 : Int) < (xs.length : Int) by omega)]
    refine iteF ?_
    have ll := dpAll_len hd
    refine ⟨_, rfl, a, _, rfl, .inr (SqT.of ha), _, rfl, by omega, by omega, fun D nD => ?_⟩
    refine lc_range (lo := 0) (n := ((xs.length : Nat) : Int).toNat) (fun i H' => H' D = some (.lst ((difs ds i).map fun (j : Nat) => V.int j)) ∧ Same H H') ⟨upd_same, Same_new nD⟩ ?_ ?_
    · rintro i H' hi' ⟨hD, s1⟩
      have hil : i < xs.length := by omega
      have ex : xs[i]? = some xs[i] := List.getElem?_eq_getElem hil
      obtain ⟨d, ed, hdx⟩ := dpAll_at hd ex
      have eg : ds.getD i .none = d := by rw [List.getD_eq_getElem?_getD, ed]; rfl
      have l2 : 2 ≤ sizeLine := by show 2 ≤ sizeLine; decide
      refine ⟨rfl, ?_⟩
      refine ⟨_, rfl, _, rfl, a, xs, _, xs[i], rfl, rfl, SqT.of (s1 _ _ ha), at_of (j := i) (by omega) ex, l2, fun z1 n1 => ⟨l2, fun z2 n2 => ⟨l2, fun z3 n3 => ?_⟩⟩⟩
      have t1 := Same_new (o := .tup [.int 1, .int 4]) n1
      have t2 := Same_new (o := .tup [.int 2, .int 4]) n2
      have t3 := Same_new (o := .tup [.ref z1, .ref z2]) n3
      have sA := (t1.trans t2).trans t3
      have hz1 : (upd (upd (upd H' z1 (.tup [.int 1, .int 4])) z2 (.tup [.int 2, .int 4])) z3 (.tup [.ref z1, .ref z2])) z1 = some (.tup [.int 1, .int 4]) := t3 _ _ (t2 _ _ upd_same)
      have hz2 : (upd (upd (upd H' z1 (.tup [.int 1, .int 4])) z2 (.tup [.int 2, .int 4])) z3 (.tup [.ref z1, .ref z2])) z2 = some (.tup [.int 2, .int 4]) := t3 _ _ upd_same
      have hz3 : (upd (upd (upd H' z1 (.tup [.int 1, .int 4])) z2 (.tup [.int 2, .int 4])) z3 (.tup [.ref z1, .ref z2])) z3 = some (.tup [.ref z1, .ref z2]) := upd_same
      obtain ⟨HA, eHA⟩ : ∃ HA, HA = upd (upd (upd H' z1 (.tup [.int 1, .int 4])) z2 (.tup [.int 2, .int 4])) z3 (.tup [.ref z1, .ref z2]) := ⟨_, rfl⟩
      rw [← eHA] at sA hz1 hz2 hz3 ⊢
      clear eHA t1 t2 t3 n3 n2 n1
      obtain ⟨zz, hat, hzz⟩ : ∃ zz, atI [V.ref z1, V.ref z2] (if (1 : Int) < 0 + (i : Int) then 1 else 0 + (i : Int)) = some (.ref zz) ∧ Dp K HA (.ref zz) (refD i) := by
        by_cases c0 : i = 0
        · subst c0
          exact ⟨z1, rfl, .tup (SqT.of hz1) (.cons (.int 1) (.cons (.int 4) .nil))⟩
        · refine ⟨z2, at_of (j := 1) (by split <;> omega) rfl, ?_⟩
          unfold refD
          rw [if_neg c0]
          exact .tup (SqT.of hz2) (.cons (.int 2) (.cons (.int 4) .nil))
      refine ⟨_, rfl, _, _, rfl, z3, _, _, _, rfl, rfl, SqT.of hz3, hat, ?_⟩
      refine ⟨d, refD i, dp_mono (s1.trans sA) hdx, hzz, hs d (List.mem_of_getElem? ed), refD_shaped i, ?_⟩
      have hDA := sA _ _ hD
      have sH := s1.trans sA
      have sz : (List.map (fun (j : Nat) => V.int (j : Int)) (difs ds i)).length < sizeLine := by
        rw [List.length_map]
        have := difs_len ds i
        exact small1000 (by omega)
      have eI : V.int (0 + (i : Int)) = V.int ((i : Nat) : Int) := by rw [Int.zero_add]
      have yes : difB ds i = true → upd HA D (.lst (List.map (fun (j : Nat) => V.int (j : Int)) (difs ds i) ++ [V.int (0 + (i : Int))])) D = some (.lst ((difs ds (i + 1)).map fun (j : Nat) => V.int j)) := fun h => by
        rw [upd_same, difs_snoc, if_pos h, List.map_append, eI]
        rfl
      have eb : difB ds i = ((!PyData.eqv d (refD i)) || decide ((1 : Int) < (i : Int))) := by unfold difB; rw [eg]
      cases hq : PyData.eqv d (refD i) with
      | false =>
        rw [hq] at eb
        refine ⟨_, rfl, iteT ?_⟩
        exact iteT ⟨_, rfl, _, hDA, sz, yes eb, Same_mut sH nD⟩
      | true =>
        rw [hq] at eb
        have eb : difB ds i = decide ((1 : Int) < (i : Int)) := eb
        refine ⟨_, rfl, iteF ?_⟩
        refine ⟨_, rfl, _, _, rfl, rfl, _, rfl, ?_⟩
        by_cases c1 : (1 : Int) < 0 + (i : Int)
        · rw [decide_eq_true c1]
          exact iteT ⟨_, rfl, _, hDA, sz, yes (by rw [eb]; exact decide_eq_true (by omega)), Same_mut sH nD⟩
        · rw [decide_eq_false c1]
          refine iteF ⟨?_, sH⟩
          rw [difs_snoc, if_neg (by rw [eb, decide_eq_false (by omega)]; exact Bool.false_ne_true), List.append_nil]
          exact hDA
    · rintro H1 ⟨hD, s1⟩
      rw [show (((xs.length : Nat) : Int).toNat) = ds.length by omega] at hD
      obtain ⟨t, ht⟩ : ∃ t, difs ds ds.length = i0 :: t := by
        cases e : difs ds ds.length with
        | nil => rw [e] at hi; cases hi
        | cons a t => rw [e] at hi; cases hi; exact ⟨t, rfl⟩
      rw [ht] at hD
      exact ⟨D, _, 0, .int (i0 : Int), rfl, rfl, SqL.of hD, at_of (j := 0) rfl rfl, k H1 s1⟩
-- @prem _law_thing_at _law_thing_at  : m_isinstance m_tuple m_len m_range m_min
end
end SR

set_option Elab.async false
set_option linter.all false
set_option maxRecDepth 100000
set_option maxHeartbeats 4000000
/-! What a question comes to. -/
namespace SR
open PySem PySem.Spec PyProof.Rows L2

/-- outcomes -/
inductive Oc
  | sum | val | non | long | good
  | told (o : Option Nat)
structure Cs where
  (bs bv nr bt tl : Addr)
def Ob (c : Cs) (H : Hp) (Q : VK) (E : XK) : Oc → Prop
  | .sum => ∀ H', Same H H' → E (.ref c.bs) none H'
  | .val => ∀ H', Same H H' → E (.ref c.bv) none H'
  | .non => ∀ H', Same H H' → E (.ref c.nr) none H'
  | .long => ∀ H', Same H H' → E (.ref c.tl) none H'
  | .told o => TaI c.bt H E o
  | .good => ∀ v H', Same H H' → Q v H'
section
variable {P : Program} {w : World} {K : PySem.W.Frag} {mg : Str → Option Value} {base : Heap} {C C_BadSummary C_NoRow C_TooLong C_BadValue C_BadTold fI : Addr}
/-- a summary: none, or which one and what is behind -/
def AskS (K : PySem.W.Frag) (C : Addr) (H : Hp) (v : V) (oc : Oc) (f : Int → Prop) : Prop := (oc = .sum ∧ ∃ S, Any K H v S) ∨ (∃ n es, SumV C H v n es ∧ Valid n es ∧ ((¬ Fits n es ∧ oc = .non) ∨ (Fits n es ∧ f n)))
def AskEnd (n : Int) (oc : Oc) : Prop := (40 < n ∧ oc = .long) ∨ (n ≤ 40 ∧ oc = .good)
def AskT (K : PySem.W.Frag) (H : Hp) (u : V) (oc : Oc) (n : Int) (f : Prop) : Prop := (∃ o, TBad K H n u o ∧ oc = .told o) ∨ (∃ tl, TP H u tl ∧ ToldOk n tl ∧ f)
def AskA (K : PySem.W.Frag) (C : Addr) (H : Hp) (kd : Nat) (xs : List V) (oc : Oc) : Prop := match kd with
  | 0 => ∃ v u, xs = [v, u] ∧ ((oc = .sum ∧ ((∃ S, Any K H v S) ∨ ∃ n es S, SumV C H v n es ∧ Any K H u S)) ∨ (∃ n n2 es es2, SumV C H v n es ∧ Valid n es ∧ SumV C H u n2 es2 ∧ Valid n2 es2 ∧ ((¬ Fits n es ∧ oc = .non) ∨ (Fits n es ∧ AskEnd n oc))))
  | 1 => ∃ v a b A B, xs = [v, a, b] ∧ Any K H a A ∧ Any K H b B ∧ AskS K C H v oc fun n => (bV a = false ∧ oc = .val) ∨ (bV a = true ∧ bV b = false ∧ oc = .val) ∨ (bV a = true ∧ bV b = true ∧ AskEnd n oc)
  | 2 => ∃ v u, xs = [v, u] ∧ AskS K C H v oc fun n => AskT K H u oc n (AskEnd n oc)
  | _ => ∃ v u x X, xs = [v, u, x] ∧ Any K H x X ∧ AskS K C H v oc fun n => AskT K H u oc n ((bV x = false ∧ oc = .val) ∨ (bV x = true ∧ AskEnd n oc))
theorem bV_int {x : V} (h : bV x = true) : ∃ i : Int, x = .int i ∧ -10 ^ 30 ≤ i ∧ i ≤ 10 ^ 30 := by
  obtain ⟨i, rfl⟩ := betV_int h
  have h : (decide (-10 ^ 30 ≤ i) && decide (i ≤ 10 ^ 30)) = true := h
  rw [Bool.and_eq_true, decide_eq_true_eq, decide_eq_true_eq] at h
  exact ⟨i, rfl, h.1, h.2⟩
def spAsk (K : PySem.W.Frag) (C : Addr) (c : Cs) : Sp := fun vs H Q E => ∃ (kd tn : Nat) (l : Addr) (xs : List V) (oc : Oc), vs = [.int (kd : Int), .ref l, .int (tn : Int)] ∧ H l = some (.lst xs) ∧ kd ≤ 3 ∧ tn ≤ 10 ∧ AskA K C H kd xs oc ∧ Ob c H Q E oc
theorem ask_two {B N L T V' : Addr} {H H' : Hp} {Q : VK} {E : XK} {v u : V} {oc : Oc} (s : Same H H') (h : (oc = .sum ∧ ((∃ S, Any K H v S) ∨ ∃ n es S, SumV C H v n es ∧ Any K H u S)) ∨ (∃ n n2 es es2, SumV C H v n es ∧ Valid n es ∧ SumV C H u n2 es2 ∧ Valid n2 es2 ∧ ((¬ Fits n es ∧ oc = .non) ∨ (Fits n es ∧ AskEnd n oc))))
    (ob : Ob ⟨B, V', N, T, L⟩ H Q E oc) : LackB K C B N L v u H' E ∨ (∃ n n2 es es2, SumV C H' v n es ∧ Valid n es ∧ SumV C H' u n2 es2 ∧ Valid n2 es2 ∧ n ≤ 40 ∧ (¬ Fits n es → ∀ H2, Same H' H2 → E (.ref N) none H2) ∧ (Fits n es → ∀ x H2, Same H' H2 → Q x H2)) := by
  rcases h with ⟨rfl, ⟨S, hA⟩ | ⟨n, es, S, hS, hA⟩⟩ | ⟨n, n2, es, es2, hS, hv, hS2, hv2, ⟨nf, rfl⟩ | ⟨hf, ⟨n40, rfl⟩ | ⟨n40, rfl⟩⟩⟩
  · exact .inl (.inl ⟨S, hA.mono s, ob _ s⟩)
  · exact .inl (.inr (.inl ⟨n, es, S, hS.mono s, hA.mono s, ob _ s⟩))
  · by_cases c : n ≤ 40
    · exact .inr ⟨n, n2, es, es2, hS.mono s, hv, hS2.mono s, hv2, c, fun _ H2 s2 => ob _ (s.trans s2), fun hf => absurd hf nf⟩
    · exact .inl (.inr (.inr ⟨n, n2, es, es2, hS.mono s, hv, hS2.mono s, by omega, fun _ H2 s2 => ob _ (s.trans s2), fun hf => absurd hf nf⟩))
  · exact .inl (.inr (.inr ⟨n, n2, es, es2, hS.mono s, hv, hS2.mono s, n40, fun nf => absurd hf nf, fun _ H2 s2 => ob _ (s.trans s2)⟩))
  · exact .inr ⟨n, n2, es, es2, hS.mono s, hv, hS2.mono s, hv2, n40, fun nf => absurd hf nf, fun _ x H2 s2 => ob x _ (s.trans s2)⟩
theorem sc__law_ask : FnScope ["_law_kind", "_law_t", "_law_turn"] ["_law_kind", "_law_t", "_law_turn"] (defScope s__law_ask) := ⟨rfl, rfl, rfl, by decide +kernel, rfl, by decide +kernel, by decide +kernel⟩
set_option maxHeartbeats 32000000 in
theorem ok__law_ask {f : Addr} {fd : FuncData} (F : Fun K "_law_ask" "_law_ask" s__law_ask f fd) {f_lacking_row : Addr} {f_within : Addr} (G_lacking_row : DnG P w K mg base "lacking_row" f_lacking_row ["one", "other"] 13 (spOr (spLack C C_NoRow) (spLackB K C C_BadSummary C_NoRow C_TooLong))) (G_within : DnG P w K mg base "within" f_within ["one", "other"] 14 (spOr (spWithin C C_NoRow) (spLackB K C C_BadSummary C_NoRow C_TooLong))) (D_count_rows : DnX P w K mg base "count_rows" ["summary", "least", "greatest"] 10 (spOr (spCount C C_NoRow) (spCountB K C C_BadSummary C_NoRow C_BadValue C_TooLong))) (D_row_with : DnX P w K mg base "row_with" ["summary", "told"] 10 (spOr (spRowWith C C_NoRow) (spWithB K C C_BadSummary C_NoRow C_BadTold C_TooLong))) (D_can_have : DnX P w K mg base "can_have" ["summary", "told", "value"] 10 (spOr (spCan C C_NoRow) (spCanB K C C_BadSummary C_NoRow C_BadTold C_BadValue C_TooLong)))  : FnOk P w K mg base (L2N.CX P w) 15 f fd ["_law_kind", "_law_t", "_law_turn"] (spAsk K C ⟨C_BadSummary, C_BadValue, C_NoRow, C_BadTold, C_TooLong⟩) := by
  refine F.okXN sc__law_ask (fun vs H Q E h => ?_) (fun cdv A outer s H vs Q E hr h => ?_)
  · obtain ⟨kd, tn, l, xs, oc, rfl, _⟩ := h
    rfl
  · obtain ⟨kd, tn, l, xs, oc, rfl, hl, k3, t10, hA, ob⟩ := h
    have nd := sc__law_ask.nd
    have hr10 : Room 10 _ := hr.mono (by decide)
    refine ⟨_, pss_cons (ps_if (pt_cmpR op_eq (pv 0) pe_int (nomark _)) (pss_one (ps_ret (pe_callG (W := fun cls d _ H => E cls d H) (L2N.takes_of rfl rfl rfl rfl) (pe_ix ix_list (pe_lst (pa_cons (pe_glob (v := .ref f_within) rfl G_within.g rfl) (pa_cons (pe_glob (v := .ref f_lacking_row) rfl G_lacking_row.g rfl) pa_nil))) (pe_op op_mod (pv 2) pe_int) (fun _ _ => rfl)) (pa_cons (pe_ix ix_list (pv 1) pe_int (fun _ _ => rfl)) (pa_cons (pe_ix ix_list (pv 1) pe_int (fun _ _ => rfl)) pa_nil))))) pss_nil)
        (pss_cons (ps_if (pt_cmpR op_eq (pv 0) pe_int (nomark _)) (pss_one (ps_ret (pe_dnX (W := fun cls d _ H => E cls d H) D_count_rows hr10 (L2N.takes_of rfl rfl rfl rfl) (pa_cons (pe_ix ix_list (pv 1) pe_int (fun _ _ => rfl)) (pa_cons (pe_ix ix_list (pv 1) pe_int (fun _ _ => rfl)) (pa_cons (pe_ix ix_list (pv 1) pe_int (fun _ _ => rfl)) pa_nil)))))) pss_nil)
        (pss_cons (ps_if (pt_cmpR op_eq (pv 0) pe_int (nomark _)) (pss_one (ps_ret (pe_dnX (W := fun cls d _ H => E cls d H) D_row_with hr10 (L2N.takes_of rfl rfl rfl rfl) (pa_cons (pe_ix ix_list (pv 1) pe_int (fun _ _ => rfl)) (pa_cons (pe_ix ix_list (pv 1) pe_int (fun _ _ => rfl)) pa_nil))))) pss_nil)
        (pss_one (ps_ret (pe_dnX (W := fun cls d _ H => E cls d H) D_can_have hr10 (L2N.takes_of rfl rfl rfl rfl) (pa_cons (pe_ix ix_list (pv 1) pe_int (fun _ _ => rfl)) (pa_cons (pe_ix ix_list (pv 1) pe_int (fun _ _ => rfl)) (pa_cons (pe_ix ix_list (pv 1) pe_int (fun _ _ => rfl)) pa_nil)))))))), ?_⟩
    refine ⟨_, rfl, rfl, _, rfl, ?_⟩
    match kd, hA with
    | 0, hA =>
      obtain ⟨v, u, rfl, h⟩ := hA
      refine iteT ?_
      refine ⟨(by show 2 ≤ sizeLine; decide), fun z nz => ?_⟩
      have tz := Same_new (o := .lst [.ref f_within, .ref f_lacking_row]) nz
      have hl' := tz _ _ hl
      have two := ask_two tz h ob
      refine ⟨_, rfl, _, _, rfl, rfl, (by show (0 : Int) < 2; decide), ?_⟩
      have hz : upd H z (.lst [.ref f_within, .ref f_lacking_row]) z = some (.lst [.ref f_within, .ref f_lacking_row]) := upd_same
      rcases (show (tn : Int) % 2 = 0 ∨ (tn : Int) % 2 = 1 by omega) with e | e
      · refine ⟨z, _, 0, _, rfl, congrArg V.int e, SqL.of hz, rfl, "within", _, _, 14, _, rfl, G_within, hr, ?_⟩
        refine ⟨_, rfl, l, _, 0, _, rfl, rfl, SqL.of hl', rfl, _, rfl, l, _, 1, _, rfl, rfl, SqL.of hl', rfl, ?_⟩
        rcases two with h | ⟨n, n2, es, es2, a1, a2, a3, a4, a5, a6, a7⟩
        · exact .inr ⟨v, u, rfl, h⟩
        · exact .inl ⟨v, u, n, n2, es, es2, rfl, a1, a2, a3, a4, a5, a6, fun hf H2 b s2 _ => a7 hf _ _ s2⟩
      · refine ⟨z, _, 1, _, rfl, congrArg V.int e, SqL.of hz, rfl, "lacking_row", _, _, 13, _, rfl, G_lacking_row, hr.mono (by decide), ?_⟩
        refine ⟨_, rfl, l, _, 0, _, rfl, rfl, SqL.of hl', rfl, _, rfl, l, _, 1, _, rfl, rfl, SqL.of hl', rfl, ?_⟩
        rcases two with h | ⟨n, n2, es, es2, a1, a2, a3, a4, a5, a6, a7⟩
        · exact .inr ⟨v, u, rfl, h⟩
        · exact .inl ⟨v, u, n, n2, es, es2, rfl, a1, a2, a3, a4, a5, a6, fun hf => ⟨fun H2 p R s2 _ _ _ _ _ => a7 hf _ _ s2, fun H2 s2 _ => a7 hf _ _ s2⟩⟩
    | 1, hA =>
      obtain ⟨v, a, b, A', B', rfl, ha, hb, h⟩ := hA
      refine iteF ⟨_, rfl, rfl, _, rfl, iteT ?_⟩
      refine ⟨_, rfl, l, _, 0, _, rfl, rfl, SqL.of hl, rfl, _, rfl, l, _, 1, _, rfl, rfl, SqL.of hl, rfl, _, rfl, l, _, 2, _, rfl, rfl, SqL.of hl, rfl, ?_⟩
      have refl := Same.refl H
      rcases h with ⟨rfl, S, hS⟩ | ⟨n, es, hS, hv, ⟨nf, rfl⟩ | ⟨hf, ⟨h1, rfl⟩ | ⟨h1, h2, rfl⟩ | ⟨h1, h2, ⟨n40, rfl⟩ | ⟨n40, rfl⟩⟩⟩⟩
      · exact .inr ⟨v, a, b, A', B', rfl, ha, hb, .inl ⟨S, hS, ob H refl⟩⟩
      · exact .inr ⟨v, a, b, A', B', rfl, ha, hb, .inr ⟨n, es, hS, hv, fun _ => ob, fun hf => absurd hf nf⟩⟩
      · exact .inr ⟨v, a, b, A', B', rfl, ha, hb, .inr ⟨n, es, hS, hv, fun nf => absurd hf nf, fun _ => ⟨fun _ => ob, fun z => absurd (h1.symm.trans z) Bool.false_ne_true, fun z => absurd (h1.symm.trans z) Bool.false_ne_true⟩⟩⟩
      · exact .inr ⟨v, a, b, A', B', rfl, ha, hb, .inr ⟨n, es, hS, hv, fun nf => absurd hf nf, fun _ => ⟨fun z => absurd (z.symm.trans h1) Bool.false_ne_true, fun _ _ => ob, fun _ z => absurd (h2.symm.trans z) Bool.false_ne_true⟩⟩⟩
      · exact .inr ⟨v, a, b, A', B', rfl, ha, hb, .inr ⟨n, es, hS, hv, fun nf => absurd hf nf, fun _ => ⟨fun z => absurd (z.symm.trans h1) Bool.false_ne_true, fun _ z => absurd (z.symm.trans h2) Bool.false_ne_true, fun _ _ => ⟨n40, ob⟩⟩⟩⟩
      · obtain ⟨i, rfl, i1, i2⟩ := bV_int h1
        obtain ⟨j, rfl, j1, j2⟩ := bV_int h2
        exact .inl ⟨v, n, i, j, es, rfl, hS, hv, n40, i1, i2, j1, j2, fun nf => absurd hf nf, fun _ H2 s2 => ob _ _ s2⟩
    | 2, hA =>
      obtain ⟨v, u, rfl, h⟩ := hA
      refine iteF ⟨_, rfl, rfl, _, rfl, iteF ⟨_, rfl, rfl, _, rfl, iteT ?_⟩⟩
      refine ⟨_, rfl, l, _, 0, _, rfl, rfl, SqL.of hl, rfl, _, rfl, l, _, 1, _, rfl, rfl, SqL.of hl, rfl, ?_⟩
      have refl := Same.refl H
      rcases h with ⟨rfl, S, hS⟩ | ⟨n, es, hS, hv, ⟨nf, rfl⟩ | ⟨hf, ⟨o, hb, rfl⟩ | ⟨tl, hT, ok, ⟨n40, rfl⟩ | ⟨n40, rfl⟩⟩⟩⟩
      · exact .inr ⟨v, u, rfl, .inl ⟨S, hS, ob H refl⟩⟩
      · exact .inr ⟨v, u, rfl, .inr ⟨n, es, hS, hv, fun _ => ob, fun hf => absurd hf nf⟩⟩
      · exact .inr ⟨v, u, rfl, .inr ⟨n, es, hS, hv, fun nf => absurd hf nf, fun _ => .inl ⟨o, hb, ob⟩⟩⟩
      · exact .inr ⟨v, u, rfl, .inr ⟨n, es, hS, hv, fun nf => absurd hf nf, fun _ => .inr ⟨tl, hT, ok, n40, ob⟩⟩⟩
      · exact .inl ⟨v, u, n, es, tl, rfl, hS, hv, n40, hT, ok, fun nf => absurd hf nf, fun _ => ⟨fun _ H2 s2 => ob _ _ s2, fun _ H2 p s2 _ => ob _ _ s2⟩⟩
    | 3, hA =>
      obtain ⟨v, u, x, X, rfl, hX, h⟩ := hA
      refine iteF ⟨_, rfl, rfl, _, rfl, iteF ⟨_, rfl, rfl, _, rfl, iteF ?_⟩⟩
      refine ⟨_, rfl, l, _, 0, _, rfl, rfl, SqL.of hl, rfl, _, rfl, l, _, 1, _, rfl, rfl, SqL.of hl, rfl, _, rfl, l, _, 2, _, rfl, rfl, SqL.of hl, rfl, ?_⟩
      have refl := Same.refl H
      rcases h with ⟨rfl, S, hS⟩ | ⟨n, es, hS, hv, ⟨nf, rfl⟩ | ⟨hf, ⟨o, hb, rfl⟩ | ⟨tl, hT, ok, ⟨h1, rfl⟩ | ⟨h1, ⟨n40, rfl⟩ | ⟨n40, rfl⟩⟩⟩⟩⟩
      · exact .inr ⟨v, u, x, X, rfl, hX, .inl ⟨S, hS, ob H refl⟩⟩
      · exact .inr ⟨v, u, x, X, rfl, hX, .inr ⟨n, es, hS, hv, fun _ => ob, fun hf => absurd hf nf⟩⟩
      · exact .inr ⟨v, u, x, X, rfl, hX, .inr ⟨n, es, hS, hv, fun nf => absurd hf nf, fun _ => .inl ⟨o, hb, ob⟩⟩⟩
      · exact .inr ⟨v, u, x, X, rfl, hX, .inr ⟨n, es, hS, hv, fun nf => absurd hf nf, fun _ => .inr ⟨tl, hT, ok, fun _ => ob, fun z => absurd (h1.symm.trans z) Bool.false_ne_true⟩⟩⟩
      · exact .inr ⟨v, u, x, X, rfl, hX, .inr ⟨n, es, hS, hv, fun nf => absurd hf nf, fun _ => .inr ⟨tl, hT, ok, fun z => absurd (z.symm.trans h1) Bool.false_ne_true, fun _ => ⟨n40, ob⟩⟩⟩⟩
      · obtain ⟨i, rfl, i1, i2⟩ := bV_int h1
        exact .inl ⟨v, u, n, i, es, tl, rfl, hS, hv, n40, hT, ok, i1, i2, fun nf => absurd hf nf, fun _ H2 q s2 _ _ => ob _ _ s2⟩
    | _ + 4, _ => exact absurd k3 (by omega)
-- @prem _law_ask _law_ask X : G_lacking_row G_within D_count_rows D_row_with D_can_have
end
end SR

set_option Elab.async false
set_option linter.all false
set_option maxRecDepth 100000
set_option maxHeartbeats 4000000
/-! The words of a question's errors. -/
namespace SR
open PySem PySem.Spec PyProof.Rows L2

def ocW : Oc → Str
  | .sum => Str.ofString "summary"
  | .val => Str.ofString "value"
  | .non => Str.ofString "none"
  | .long => Str.ofString "long"
  | .good => Str.ofString "good"
  | .told _ => Str.ofString "told"
section
variable {P : Program} {w : World} {K : PySem.W.Frag} {mg : Str → Option Value} {base : Heap} {C C_BadSummary C_NoRow C_TooLong C_BadValue C_BadTold C_RankError fI : Addr}
def tsTold (K : PySem.W.Frag) (C_BadSummary C_BadValue C_NoRow C_BadTold C_TooLong : Addr) (a : Addr) (cls : Value) (d : Option Addr) : TS := tSeq (tAsg (tIf (tB (tCB (rIsX K a cls d) (tCons (tVar 3) (tCons (tC (.ref C_BadSummary)) tNil)))) (tLst (tCons (tC (.str (PySem.Str.ofString "summary"))) tNil)) (tLst tNil)) (gName 4)) (tSeq (tAsg (tOp rCat (tVar 4) (tIf (tB (tCB (rIsX K a cls d) (tCons (tVar 3) (tCons (tC (.ref C_BadValue)) tNil)))) (tLst (tCons (tC (.str (PySem.Str.ofString "value"))) tNil)) (tLst tNil))) (gName 4)) (tSeq (tAsg (tOp rCat (tVar 4) (tIf (tB (tCB (rIsX K a cls d) (tCons (tVar 3) (tCons (tC (.ref C_NoRow)) tNil)))) (tLst (tCons (tC (.str (PySem.Str.ofString "none"))) tNil)) (tLst tNil))) (gName 4)) (tSeq (tIfS (tB (tCB (rIsX K a cls d) (tCons (tVar 3) (tCons (tC (.ref C_BadTold)) tNil)))) (tDrop (tBM K "list" rAppend (tVar 4) (tCons (tIf (tTest (tOp rEq (tXf a cls d C_BadTold "index" (tVar 3)) (tCallS (spThing K) (fun _ => E0) (tCons (tOp (rIxL K) (tVar 1) (tC (.int 1))) tNil)))) (tC (.str (PySem.Str.ofString "told"))) (tC (.str (PySem.Str.ofString "wrong")))) tNil))) tNext) (tRet (tOp rCat (tVar 4) (tIf (tB (tCB (rIsX K a cls d) (tCons (tVar 3) (tCons (tC (.ref C_TooLong)) tNil)))) (tLst (tCons (tC (.str (PySem.Str.ofString "long"))) tNil)) (tLst tNil)))))))
def wIf (b : Bool) (x : Str) : List V := if b = true then [.str x] else []
theorem wIf_len (b : Bool) (x : Str) : (wIf b x).length ≤ 1 := by cases b <;> simp [wIf]
theorem isx {a D c : Addr} {d : Option Addr} {b : Bool} {σ : L2.St} {H : Hp} {Q : Bool → Hp → Prop} (ha : σ[3]? = some (some (.ref a))) (XC : ExcC K D) (kk : PySem.W.kitOne K (.ref D) (.ref c) = some b) (hd : ∀ dd, d = some dd → ∃ fs, H dd = some (.xd fs)) (q : Q b H) :
    tB (tCB (rIsX K a (.ref D) d) (tCons (tVar 3) (tCons (tC (.ref c)) tNil))) σ H Q := ⟨_, ha, D, _, _, b, rfl, XC, rfl, ref_is, kk, hd, b, rfl, q⟩
theorem isw {a D c : Addr} {d : Option Addr} {b : Bool} {x : Str} {σ : L2.St} {H : Hp} {Q : VK} (ha : σ[3]? = some (some (.ref a))) (XC : ExcC K D) (kk : PySem.W.kitOne K (.ref D) (.ref c) = some b) (hd : ∀ dd, d = some dd → ∃ fs, H dd = some (.xd fs))
    (q : ∀ p, H p = none → Q (.ref p) (upd H p (.lst (wIf b x)))) : tIf (tB (tCB (rIsX K a (.ref D) d) (tCons (tVar 3) (tCons (tC (.ref c)) tNil)))) (tLst (tCons (tC (.str x)) tNil)) (tLst tNil) σ H Q := by
  refine isx ha XC kk hd ?_
  cases b with
  | true => exact iteT ⟨(by show 1 ≤ sizeLine; decide), q⟩
  | false => exact iteF ⟨Nat.zero_le _, q⟩
theorem told_suite {cS cV cN cT cL : Addr} {H1 : Hp} {xs : List V} {D a l : Addr} {d : Option Addr} {y0 y2 : Option V} {De : Ends} {b1 b2 b3 b4 b5 : Bool} {W : Str} (hl : H1 l = some (.lst xs)) (XC : ExcC K D)
    (k1 : PySem.W.kitOne K (.ref D) (.ref cS) = some b1) (k2 : PySem.W.kitOne K (.ref D) (.ref cV) = some b2) (k3 : PySem.W.kitOne K (.ref D) (.ref cN) = some b3) (k4 : PySem.W.kitOne K (.ref D) (.ref cT) = some b4) (k5 : PySem.W.kitOne K (.ref D) (.ref cL) = some b5)
    (hd : ∀ dd, d = some dd → ∃ fs, H1 dd = some (.xd fs)) (hb : b4 = true → D = cT ∧ ∃ dd u o, d = some dd ∧ H1 dd = some (.xd [("index", ixV o)]) ∧ xs[1]? = some u ∧ ThAt K H1 u o)
    (hw : wIf b1 (Str.ofString "summary") ++ wIf b2 (Str.ofString "value") ++ wIf b3 (Str.ofString "none") ++ wIf b4 (Str.ofString "told") ++ wIf b5 (Str.ofString "long") = [.str W])
    (k : ∀ H' p, Same H1 H' → H' p = some (.lst [.str W]) → De.rt (.ref p) H') : tsTold K cS cV cN cT cL a (.ref D) d De [y0, some (.ref l), y2, some (.ref a), none] H1 := by
  have w1 := wIf_len b1 (Str.ofString "summary")
  have w2 := wIf_len b2 (Str.ofString "value")
  have w3 := wIf_len b3 (Str.ofString "none")
  have w4 := wIf_len b4 (Str.ofString "told")
  have w5 := wIf_len b5 (Str.ofString "long")
  have big : 5 ≤ sizeLine := by show 5 ≤ sizeLine; decide
  have hdm : ∀ {H' : Hp}, Same H1 H' → ∀ dd, d = some dd → ∃ fs, H' dd = some (.xd fs) := fun s dd e => let ⟨fs, h⟩ := hd dd e; ⟨fs, s _ _ h⟩
  refine isw rfl XC k1 hd fun p1 n1 => ?_
  obtain ⟨Ha, eHa⟩ : ∃ Ha, Ha = upd H1 p1 (.lst (wIf b1 (Str.ofString "summary"))) := ⟨_, rfl⟩
  have s1 : Same H1 Ha := by rw [eHa]; exact Same_new n1
  have h1 : Ha p1 = some (.lst (wIf b1 (Str.ofString "summary"))) := by rw [eHa]; exact upd_same
  rw [← eHa]
  clear eHa
  dsimp only [gName]
  refine st_eq (σ' := [y0, some (.ref l), y2, some (.ref a), some (.ref p1)]) rfl ?_
  refine ⟨_, rfl, isw rfl XC k2 (hdm s1) fun p2 n2 => ?_⟩
  have t2 := Same_new (o := .lst (wIf b2 (Str.ofString "value"))) n2
  refine ⟨p1, p2, _, _, rfl, rfl, t2 _ _ h1, upd_same, by omega, fun p3 n3 => ?_⟩
  obtain ⟨Hb, eHb⟩ : ∃ Hb, Hb = upd (upd Ha p2 (.lst (wIf b2 (Str.ofString "value")))) p3 (.lst (wIf b1 (Str.ofString "summary") ++ wIf b2 (Str.ofString "value"))) := ⟨_, rfl⟩
  have s3 : Same H1 Hb := by rw [eHb]; exact (s1.trans t2).trans (Same_new n3)
  have h3 : Hb p3 = some (.lst (wIf b1 (Str.ofString "summary") ++ wIf b2 (Str.ofString "value"))) := by rw [eHb]; exact upd_same
  rw [← eHb]
  clear eHb
  dsimp only [gName]
  refine st_eq (σ' := [y0, some (.ref l), y2, some (.ref a), some (.ref p3)]) rfl ?_
  refine ⟨_, rfl, isw rfl XC k3 (hdm s3) fun p4 n4 => ?_⟩
  have t4 := Same_new (o := .lst (wIf b3 (Str.ofString "none"))) n4
  refine ⟨p3, p4, _, _, rfl, rfl, t4 _ _ h3, upd_same, by simp only [List.length_append]; omega, fun p5 n5 => ?_⟩
  have np : H1 p5 = none := (s3.trans t4).free n5
  obtain ⟨H5, eH5⟩ : ∃ H5, H5 = upd (upd Hb p4 (.lst (wIf b3 (Str.ofString "none")))) p5 (.lst (wIf b1 (Str.ofString "summary") ++ wIf b2 (Str.ofString "value") ++ wIf b3 (Str.ofString "none"))) := ⟨_, rfl⟩
  have s5 : Same H1 H5 := by rw [eH5]; exact (s3.trans t4).trans (Same_new n5)
  have h5 : H5 p5 = some (.lst (wIf b1 (Str.ofString "summary") ++ wIf b2 (Str.ofString "value") ++ wIf b3 (Str.ofString "none"))) := by rw [eH5]; exact upd_same
  rw [← eH5]
  clear eH5
  dsimp only [gName]
  refine st_eq (σ' := [y0, some (.ref l), y2, some (.ref a), some (.ref p5)]) rfl ?_
  -- the end
  have fin : ∀ (H6 : Hp) (c : List V), Same H1 H6 → H6 p5 = some (.lst c) → c.length ≤ 4 → c ++ wIf b5 (Str.ofString "long") = [.str W] →
      tRet (tOp rCat (tVar 4) (tIf (tB (tCB (rIsX K a (.ref D) d) (tCons (tVar 3) (tCons (tC (.ref cL)) tNil)))) (tLst (tCons (tC (.str (Str.ofString "long"))) tNil)) (tLst tNil))) De [y0, some (.ref l), y2, some (.ref a), some (.ref p5)] H6 := by
    intro H6 c s6 h6 l6 e6
    refine ⟨_, rfl, isw rfl XC k5 (hdm s6) fun p7 n7 => ?_⟩
    have t7 := Same_new (o := .lst (wIf b5 (Str.ofString "long"))) n7
    refine ⟨p5, p7, _, _, rfl, rfl, t7 _ _ h6, upd_same, by omega, fun p8 n8 => ?_⟩
    have t8 := Same_new (o := .lst (c ++ wIf b5 (Str.ofString "long"))) n8
    exact k _ p8 ((s6.trans t7).trans t8) (by rw [e6]; exact upd_same)
  refine isx rfl XC k4 (hdm s5) ?_
  cases b4 with
  | false =>
    refine iteF (fin H5 _ s5 h5 (by rw [List.length_append, List.length_append]; omega) ?_)
    rw [← hw]
    simp [wIf]
  | true =>
    obtain ⟨rfl, dd, u, o, rfl, hx, hu, hth⟩ := hb rfl
    refine iteT ?_
    refine ⟨_, rfl, .inl ⟨rfl, _, SqL.of h5⟩, ?_⟩
    refine ⟨_, rfl, rfl, rfl, dd, _, _, rfl, s5 _ _ hx, (by rw [lookup_put, if_pos rfl]), _, rfl, l, xs, 1, u, rfl, rfl, SqL.of (s5 _ _ hl), at_of (j := 1) rfl hu, u, o, rfl, hth.mono s5, fun H6 s6 => ?_⟩
    have s16 := s5.trans s6
    have h6 := s6 _ _ h5
    refine ⟨by cases o <;> rfl, _, rfl, ?_⟩
    rw [decide_eq_true rfl]
    refine iteT ⟨p5, _, _, rfl, rfl, h6, (by rw [List.length_append, List.length_append]; omega), ?_⟩
    refine fin _ _ (Same_mut s16 np) upd_same (by rw [List.length_append, List.length_append, List.length_append]; show _ + 1 ≤ 4; omega) ?_
    rw [← hw]
    rfl
/-- what is known of the five classes -/
structure FiveX (K : PySem.W.Frag) (c : Cs) (R : Addr) : Prop where
  ex : ∀ D ∈ [c.bs, c.bv, c.nr, c.bt, c.tl], ExcC K D ∧ PySem.W.exmOne K (.ref D) (.ref R) = some true
  bs : PySem.W.kitOne K (.ref c.bs) (.ref c.bs) = some true ∧ PySem.W.kitOne K (.ref c.bs) (.ref c.bv) = some false ∧ PySem.W.kitOne K (.ref c.bs) (.ref c.nr) = some false ∧ PySem.W.kitOne K (.ref c.bs) (.ref c.bt) = some false ∧ PySem.W.kitOne K (.ref c.bs) (.ref c.tl) = some false
  bv : PySem.W.kitOne K (.ref c.bv) (.ref c.bs) = some false ∧ PySem.W.kitOne K (.ref c.bv) (.ref c.bv) = some true ∧ PySem.W.kitOne K (.ref c.bv) (.ref c.nr) = some false ∧ PySem.W.kitOne K (.ref c.bv) (.ref c.bt) = some false ∧ PySem.W.kitOne K (.ref c.bv) (.ref c.tl) = some false
  nr : PySem.W.kitOne K (.ref c.nr) (.ref c.bs) = some false ∧ PySem.W.kitOne K (.ref c.nr) (.ref c.bv) = some false ∧ PySem.W.kitOne K (.ref c.nr) (.ref c.nr) = some true ∧ PySem.W.kitOne K (.ref c.nr) (.ref c.bt) = some false ∧ PySem.W.kitOne K (.ref c.nr) (.ref c.tl) = some false
  bt : PySem.W.kitOne K (.ref c.bt) (.ref c.bs) = some false ∧ PySem.W.kitOne K (.ref c.bt) (.ref c.bv) = some false ∧ PySem.W.kitOne K (.ref c.bt) (.ref c.nr) = some false ∧ PySem.W.kitOne K (.ref c.bt) (.ref c.bt) = some true ∧ PySem.W.kitOne K (.ref c.bt) (.ref c.tl) = some false
  tl : PySem.W.kitOne K (.ref c.tl) (.ref c.bs) = some false ∧ PySem.W.kitOne K (.ref c.tl) (.ref c.bv) = some false ∧ PySem.W.kitOne K (.ref c.tl) (.ref c.nr) = some false ∧ PySem.W.kitOne K (.ref c.tl) (.ref c.bt) = some false ∧ PySem.W.kitOne K (.ref c.tl) (.ref c.tl) = some true
def spTold (K : PySem.W.Frag) (C : Addr) : Sp := fun vs H Q _ => ∃ (kd tn : Nat) (l : Addr) (xs : List V) (oc : Oc), vs = [.int (kd : Int), .ref l, .int (tn : Int)] ∧ H l = some (.lst xs) ∧ kd ≤ 3 ∧ tn ≤ 10 ∧ AskA K C H kd xs oc ∧
  (∀ o, oc = .told o → ∃ u, xs[1]? = some u ∧ ThAt K H u o) ∧ ∀ H' p, Same H H' → H' p = some (.lst [.str (ocW oc)]) → Q (.ref p) H'
theorem sc__law_told : FnScope ["_law_kind", "_law_t", "_law_turn", "e", "_law_found"] ["_law_kind", "_law_t", "_law_turn"] (defScope s__law_told) := ⟨rfl, rfl, rfl, by decide +kernel, rfl, by decide +kernel, by decide +kernel⟩
set_option maxHeartbeats 32000000 in
theorem ok__law_told {f : Addr} {fd : FuncData} (F : Fun K "_law_told" "_law_told" s__law_told f fd)  (mgC_RankError : mg "RankError" = some (.ref C_RankError)) (D__law_ask : DnX P w K mg base "_law_ask" ["_law_kind", "_law_t", "_law_turn"] 15 (spAsk K C ⟨C_BadSummary, C_BadValue, C_NoRow, C_BadTold, C_TooLong⟩)) (m_isinstance : mg "isinstance" = none) (mgC_BadSummary : mg "BadSummary" = some (.ref C_BadSummary)) (mgC_BadValue : mg "BadValue" = some (.ref C_BadValue)) (mgC_NoRow : mg "NoRow" = some (.ref C_NoRow)) (mgC_BadTold : mg "BadTold" = some (.ref C_BadTold)) (XX_BadTold : XfC K C_BadTold) (nf_BadTold_index : PySem.W.findIn K (.ref C_BadTold) "index" = some none) (D__law_thing_at : DnH P w K mg base "_law_thing_at" ["_law_value"] 3 (spThing K)) (mgC_TooLong : mg "TooLong" = some (.ref C_TooLong)) (FX : FiveX K ⟨C_BadSummary, C_BadValue, C_NoRow, C_BadTold, C_TooLong⟩ C_RankError) : FnOk P w K mg base CX0 16 f fd ["_law_kind", "_law_t", "_law_turn"] (spTold K C) := by
  refine F.ok sc__law_told (fun vs H Q E h => ?_) (fun cdv A outer s H vs Q E hr h => ?_)
  · obtain ⟨kd, tn, l, xs, oc, rfl, _⟩ := h
    rfl
  · obtain ⟨kd, tn, l, xs, oc, rfl, hl, k3, t10, hA, hth, k⟩ := h
    have nd := sc__law_told.nd
    have hr3 : Room 3 _ := hr.mono (by decide)
    have hr15 : Room 15 _ := hr.mono (by decide)
    refine ⟨_, pss_cons (L2N.ps_try_as (i := 3) (tb := fun W => tDrop (tCallS (spAsk K C ⟨C_BadSummary, C_BadValue, C_NoRow, C_BadTold, C_TooLong⟩) (WE W) (tCons (tVar 0) (tCons (tVar 1) (tCons (tVar 2) tNil))))) (ts := fun a cls d => tsTold K C_BadSummary C_BadValue C_NoRow C_BadTold C_TooLong a cls d) (Wout := fun _ _ _ _ => False) rfl rfl nd rfl rfl ⟨rfl, by decide, .inl mgC_RankError⟩ takes0N (fun W pn xe tk _ => by exact (pss_one (ps_expr (pe_dnX D__law_ask hr15 tk (pa_cons (pv 0) (pa_cons (pv 1) (pa_cons (pv 2) pa_nil)))))))
      (fun a oe cls d pn hz hf => by exact (pss_cons (ps_set (i := 4) nd rfl (Or.inl rfl) (pe_ifExp (pt_val (pe_callB (call_isX hz.zc hf) (by rfl) m_isinstance (by decide +kernel) (pa_cons (pv 3) (pa_cons (pe_glob (v := .ref C_BadSummary) rfl mgC_BadSummary rfl) pa_nil)))) (pe_lst (pa_cons pe_str pa_nil)) (pe_lst pa_nil)))
        (pss_cons (ps_set (i := 4) nd rfl (Or.inl rfl) (pe_op op_cat (pv 4) (pe_ifExp (pt_val (pe_callB (call_isX hz.zc hf) (by rfl) m_isinstance (by decide +kernel) (pa_cons (pv 3) (pa_cons (pe_glob (v := .ref C_BadValue) rfl mgC_BadValue rfl) pa_nil)))) (pe_lst (pa_cons pe_str pa_nil)) (pe_lst pa_nil))))
        (pss_cons (ps_set (i := 4) nd rfl (Or.inl rfl) (pe_op op_cat (pv 4) (pe_ifExp (pt_val (pe_callB (call_isX hz.zc hf) (by rfl) m_isinstance (by decide +kernel) (pa_cons (pv 3) (pa_cons (pe_glob (v := .ref C_NoRow) rfl mgC_NoRow rfl) pa_nil)))) (pe_lst (pa_cons pe_str pa_nil)) (pe_lst pa_nil))))
        (pss_cons (ps_if (by exact (pt_val (pe_callB (call_isX hz.zc hf) (by rfl) m_isinstance (by decide +kernel) (pa_cons (pv 3) (pa_cons (pe_glob (v := .ref C_BadTold) rfl mgC_BadTold rfl) pa_nil))))) (by exact (pss_one (ps_expr (pe_bm PySem.F.plainAttrs_list PySem.F.slot_list_append PySem.F.type_list_append mt_append (pv 4) (pa_cons (pe_ifExp (pt_cmpR op_eq (by exact (pe_xf XX_BadTold nf_BadTold_index hz.zc hf (pv 3))) (by exact (pe_dnH D__law_thing_at (room_suite hr3) (hot_suite hz hf) (pa_cons (pe_ix ix_list (pv 1) pe_int (fun _ _ => rfl)) pa_nil))) (nomark _)) pe_str pe_str) pa_nil))))) (by exact pss_nil))
        (pss_one (ps_ret (pe_op op_cat (pv 4) (pe_ifExp (pt_val (pe_callB (call_isX hz.zc hf) (by rfl) m_isinstance (by decide +kernel) (pa_cons (pv 3) (pa_cons (pe_glob (v := .ref C_TooLong) rfl mgC_TooLong rfl) pa_nil)))) (pe_lst (pa_cons pe_str pa_nil)) (pe_lst pa_nil)))))))))))
        (pss_one (ps_ret (pe_lst (pa_cons pe_str pa_nil)))), ?_⟩
    refine ⟨_, rfl, _, rfl, _, rfl, kd, tn, l, xs, oc, rfl, hl, k3, t10, hA, ?_⟩
    cases oc with
    | sum =>
      intro H1 s1
      exact ⟨true, (FX.ex C_BadSummary (by simp)).2, fun _ a na => told_suite (b1 := true) (b2 := false) (b3 := false) (b4 := false) (b5 := false) (s1 _ _ hl) (FX.ex C_BadSummary (by simp)).1 FX.bs.1 FX.bs.2.1 FX.bs.2.2.1 FX.bs.2.2.2.1 FX.bs.2.2.2.2 (fun dd z => nomatch z) (fun z => Bool.noConfusion z) rfl fun H' p s' h => k H' p (s1.trans s') h, fun z => Bool.noConfusion z⟩
    | val =>
      intro H1 s1
      exact ⟨true, (FX.ex C_BadValue (by simp)).2, fun _ a na => told_suite (b1 := false) (b2 := true) (b3 := false) (b4 := false) (b5 := false) (s1 _ _ hl) (FX.ex C_BadValue (by simp)).1 FX.bv.1 FX.bv.2.1 FX.bv.2.2.1 FX.bv.2.2.2.1 FX.bv.2.2.2.2 (fun dd z => nomatch z) (fun z => Bool.noConfusion z) rfl fun H' p s' h => k H' p (s1.trans s') h, fun z => Bool.noConfusion z⟩
    | non =>
      intro H1 s1
      exact ⟨true, (FX.ex C_NoRow (by simp)).2, fun _ a na => told_suite (b1 := false) (b2 := false) (b3 := true) (b4 := false) (b5 := false) (s1 _ _ hl) (FX.ex C_NoRow (by simp)).1 FX.nr.1 FX.nr.2.1 FX.nr.2.2.1 FX.nr.2.2.2.1 FX.nr.2.2.2.2 (fun dd z => nomatch z) (fun z => Bool.noConfusion z) rfl fun H' p s' h => k H' p (s1.trans s') h, fun z => Bool.noConfusion z⟩
    | long =>
      intro H1 s1
      exact ⟨true, (FX.ex C_TooLong (by simp)).2, fun _ a na => told_suite (b1 := false) (b2 := false) (b3 := false) (b4 := false) (b5 := true) (s1 _ _ hl) (FX.ex C_TooLong (by simp)).1 FX.tl.1 FX.tl.2.1 FX.tl.2.2.1 FX.tl.2.2.2.1 FX.tl.2.2.2.2 (fun dd z => nomatch z) (fun z => Bool.noConfusion z) rfl fun H' p s' h => k H' p (s1.trans s') h, fun z => Bool.noConfusion z⟩
    | told o =>
      intro H1 d s1 nd1 hd1
      obtain ⟨u, hu, hth⟩ := hth o rfl
      exact ⟨true, (FX.ex C_BadTold (by simp)).2, fun _ a na => told_suite (b1 := false) (b2 := false) (b3 := false) (b4 := true) (b5 := false) (s1 _ _ hl) (FX.ex C_BadTold (by simp)).1 FX.bt.1 FX.bt.2.1 FX.bt.2.2.1 FX.bt.2.2.2.1 FX.bt.2.2.2.2 (fun dd z => ⟨_, by cases z; exact hd1⟩) (fun _ => ⟨rfl, d, u, o, rfl, hd1, hu, hth.mono s1⟩) rfl fun H' p s' h => k H' p (s1.trans s') h, fun z => Bool.noConfusion z⟩
    | good =>
      intro v H1 s1
      exact ⟨(by show 1 ≤ sizeLine; decide), fun p np => k _ p (s1.trans (Same_new np)) upd_same⟩
-- @prem _law_told _law_told  : mgC_RankError D__law_ask m_isinstance mgC_BadSummary mgC_BadValue mgC_NoRow mgC_BadTold XX_BadTold nf_BadTold_index D__law_thing_at mgC_TooLong
end
end SR

set_option Elab.async false
set_option linter.all false
set_option maxRecDepth 100000
set_option maxHeartbeats 4000000
/-! What the law's drawn things are: good ones and ones that are none, told apart from the lists that change. -/
namespace SR
open PySem PySem.Spec PyProof.Rows L2
def minus (H : Hp) (S : List Addr) : Hp := fun b => if b ∈ S then none else H b
def Lists (H : Hp) (S : List Addr) : Prop := ∀ b ∈ S, ∃ xs, H b = some (.lst xs)
theorem Lists.mono {H H' : Hp} {S : List Addr} (s : Same H H') (h : Lists H S) : Lists H' S := fun b hb => let ⟨xs, e⟩ := h b hb; ⟨xs, s _ _ e⟩
theorem Lists.new {H : Hp} {S : List Addr} (h : Lists H S) {a : Addr} (n : H a = none) : a ∉ S := fun z => let ⟨_, e⟩ := h a z; nomatch n.symm.trans e
theorem minus_at {H : Hp} {S : List Addr} {a : Addr} {o : HO} (h : H a = some o) (n : a ∉ S) : minus H S a = some o := (if_neg n).trans h
theorem minus_le {H : Hp} {S : List Addr} : Same (minus H S) H := fun b o e => by
  unfold minus at e
  split at e
  · cases e
  · exact e
theorem minus_same {H H' : Hp} {S : List Addr} (s : Same H H') : Same (minus H S) (minus H' S) := fun b o e => by
  unfold minus at e ⊢
  split at e
  · cases e
  · rename_i hn
    rw [if_neg hn]
    exact s _ _ e
theorem minus_but {H H' : Hp} {S : List Addr} (s : ∀ b o, b ∉ S → H b = some o → H' b = some o) : Same (minus H S) (minus H' S) := fun b o e => by
  unfold minus at e ⊢
  split at e
  · cases e
  · rename_i hn
    rw [if_neg hn]
    exact s _ _ hn e
theorem minus_D {p c : Addr} {H H' : Hp} {S : List Addr} (hp : p ∈ S) (hc : c ∈ S) (s : SameD p c H H') : Same (minus H S) (minus H' S) :=
  minus_but fun b o hb e => s b o e (fun z => hb (z ▸ hp)) (fun z => hb (z ▸ hc))
theorem minus_nl {H : Hp} {S : List Addr} (h : Lists H S) {a : Addr} {o : HO} (e : H a = some o) (n : ∀ xs, o ≠ .lst xs) : minus H S a = some o :=
  minus_at e fun z => let ⟨xs, e2⟩ := h a z; n xs (Option.some.inj (e.symm.trans e2))
/-- what never changes -/
inductive Firm : HO → Prop
  | tup (xs : List V) : Firm (.tup xs)
  | ins (C dx : Addr) (fs) : Firm (.ins C dx fs)
  | frz (o : Obj) (xs : List V) : Firm (.frz o (.tup xs))
theorem sum_imp {H H' : Hp} (f : ∀ a o, H a = some o → Firm o → H' a = some o) {C : Addr} {v : V} {n : Int} {es : List Ent} (h : SumV C H v n es) : SumV C H' v n es := by
  obtain ⟨q, dx, u, e, b, t, vs, e2, b2, k⟩ := h
  exact ⟨q, dx, u, e, f _ _ b (.ins ..), t, vs, e2, f _ _ b2 (.tup _), Paired.mapP k fun _ _ x => let ⟨t, a, b⟩ := x; ⟨t, a, f _ _ b (.tup _)⟩⟩
theorem tp_imp {H H' : Hp} (f : ∀ a o, H a = some o → Firm o → H' a = some o) {u : V} {T : List (Int × Int)} (h : TP H u T) : TP H' u T := by
  obtain ⟨a, ps, e, ⟨o, h1, h2⟩, r⟩ := h
  exact ⟨a, ps, e, ⟨o, f _ _ h1 (.frz ..), h2⟩, Paired.mapP r fun _ _ x => f _ _ x (.tup _)⟩
theorem Firm.nl {o : HO} (h : Firm o) : ∀ xs, o ≠ .lst xs := by cases h <;> intro _ z <;> cases z
theorem Firm.nd {o : HO} (h : Firm o) : ∀ xs, o ≠ .dK xs := by cases h <;> intro _ z <;> cases z
theorem minus_sum {H : Hp} {S : List Addr} (L : Lists H S) {C : Addr} {v : V} {n : Int} {es : List Ent} (h : SumV C H v n es) : SumV C (minus H S) v n es := sum_imp (fun a o e f => minus_nl L e f.nl) h
theorem minus_tp {H : Hp} {S : List Addr} (L : Lists H S) {u : V} {T : List (Int × Int)} (h : TP H u T) : TP (minus H S) u T := tp_imp (fun a o e f => minus_nl L e f.nl) h
def DTold (K : PySem.W.Frag) (G : Hp) (v : V) : Prop := ∃ o, TBad K G 3 v o ∧ TBad K G 41 v o ∧ ThAt K G v o
theorem DTold.mono {K : PySem.W.Frag} {G G' : Hp} {v : V} (s : Same G G') (h : DTold K G v) : DTold K G' v := let ⟨o, a, b, c⟩ := h; ⟨o, a.mono s, b.mono s, c.mono s⟩
/-- a drawn thing: which one, good or none -/
def Ds (K : PySem.W.Frag) (C : Addr) (G : Hp) (v : V) : Nat → Bool → Prop
  | 0, false => SumV C G v 3 [(5, 2, 2)]
  | 0, true => ∃ T, Any K G v T
  | 1, false => v = .int (10 ^ 30)
  | 1, true => (∃ T, Any K G v T) ∧ bV v = false
  | _, false => ∃ tl, TP G v tl ∧ ToldOk 3 tl ∧ ToldOk 41 tl
  | _, true => DTold K G v
theorem Ds.mono {K : PySem.W.Frag} {C : Addr} {G G' : Hp} {v : V} {nm : Nat} {b : Bool} (s : Same G G') (h : Ds K C G v nm b) : Ds K C G' v nm b := by
  match nm, b, h with
  | 0, false, h => exact SumV.mono s h
  | 0, true, h => exact let ⟨T, a⟩ := h; ⟨T, a.mono s⟩
  | 1, false, h => exact h
  | 1, true, h => exact let ⟨⟨T, a⟩, c⟩ := h; ⟨⟨T, a.mono s⟩, c⟩
  | _ + 2, false, h => exact let ⟨tl, a, c⟩ := h; ⟨tl, a.mono s, c⟩
  | _ + 2, true, h => exact DTold.mono s h
def nmS : Nat → Str
  | 0 => Str.ofString "summary"
  | 1 => Str.ofString "value"
  | _ => Str.ofString "told"
theorem tk_good {n : Int} (h : 3 ≤ n) : ToldOk n [(1, 4), (3, 7)] := by
  refine ⟨by show 2 ≤ 12; decide, fun p hp => ?_, fun p hp => ?_, .cons (fun q hq => ?_) (.cons (fun q hq => nomatch hq) .nil)⟩
  · simp only [List.mem_cons, List.not_mem_nil, or_false] at hp
    rcases hp with rfl | rfl
    · exact ⟨by decide, by show 1 ≤ n; omega⟩
    · exact ⟨by decide, h⟩
  · simp only [List.mem_cons, List.not_mem_nil, or_false] at hp
    rcases hp with rfl | rfl
    · exact ⟨by show -10 ^ 30 ≤ (4 : Int); decide, by show (4 : Int) ≤ 10 ^ 30; decide⟩
    · exact ⟨by show -10 ^ 30 ≤ (7 : Int); decide, by show (7 : Int) ≤ 10 ^ 30; decide⟩
  · rw [List.mem_singleton] at hq
    subst hq
    exact ⟨by decide, by decide⟩
theorem dtold {K : PySem.W.Frag} {G : Hp} {a : Addr} {xs : List V} {ths : List (Option (List V))} {ds : List PyData} {i : Nat} (h : G a = some (.tup xs)) (l : xs.length ≤ 12) (t : Paired (Th K G) xs ths) (n3 : nbad 3 0 (-10 ^ 30) ths = some i) (n41 : nbad 41 0 (-10 ^ 30) ths = some i)
    (dp : DpAll K G xs ds) (sh : ∀ d ∈ ds, SeqAt.shaped d = true) (hd : (difs ds ds.length).head? = some i) : DTold K G (.ref a) :=
  ⟨some i, .at_ h l t n3, .at_ h l t n41, .inr (.inr ⟨a, xs, ds, i, rfl, rfl, h, l, dp, sh, hd⟩)⟩
theorem dnone {K : PySem.W.Frag} {G : Hp} {v : V} {T : String} (h : Any K G v T) (n : T ≠ "tuple") : DTold K G v := ⟨none, .notT h n, .notT h n, .inl ⟨rfl, T, h, n⟩⟩
theorem dlong {K : PySem.W.Frag} {G : Hp} {a : Addr} {xs : List V} (h : G a = some (.tup xs)) (l : 12 < xs.length) : DTold K G (.ref a) := ⟨none, .long h l, .long h l, .inr (.inl ⟨rfl, a, xs, rfl, h, l⟩)⟩
/-- ints and truth values as they are written -/
def toD : V → PyData
  | .int i => .int i
  | .bl b => .bool b
  | _ => .none
inductive Sc : V → Prop
  | int (i : Int) : Sc (.int i)
  | bl (b : Bool) : Sc (.bl b)
theorem Sc.any {K : PySem.W.Frag} {G : Hp} {v : V} (h : Sc v) : ∃ T, Any K G v T := by
  cases h with
  | int i => exact ⟨_, .int i⟩
  | bl b => exact ⟨_, .bl b⟩
theorem Sc.dp {K : PySem.W.Frag} {G : Hp} {v : V} (h : Sc v) : Dp K G v (toD v) := by
  cases h with
  | int i => exact .int i
  | bl b => exact .bl b
theorem scs_any {K : PySem.W.Frag} {G : Hp} {xs : List V} (h : ∀ x ∈ xs, Sc x) : ∀ y ∈ xs, ∃ T, Any K G y T := fun y hy => (h y hy).any
theorem scs_dp {K : PySem.W.Frag} {G : Hp} : ∀ {xs : List V}, (∀ x ∈ xs, Sc x) → DpAll K G xs (xs.map toD)
  | [], _ => .nil
  | x :: xs, h => .cons (h x List.mem_cons_self).dp (scs_dp fun y hy => h y (List.mem_cons_of_mem _ hy))
theorem th_tup {K : PySem.W.Frag} {G : Hp} {t : Addr} {xs : List V} (h : G t = some (.tup xs)) (a : ∀ x ∈ xs, Sc x) : Th K G (.ref t) (some xs) := ⟨t, rfl, h, scs_any a⟩
theorem dp_tup {K : PySem.W.Frag} {G : Hp} {t : Addr} {xs : List V} (h : G t = some (.tup xs)) (a : ∀ x ∈ xs, Sc x) : Dp K G (.ref t) (.tuple (xs.map toD)) := .tup (SqT.of h) (scs_dp a)

/-! ### the things told, one by one -/
section
variable {K : PySem.W.Frag} {G : Hp} {one z1 z2 z3 : Addr} {xs ys : List V}
theorem sc14 : ∀ x ∈ [V.int 1, V.int 4], Sc x := fun x h => by
  simp only [List.mem_cons, List.not_mem_nil, or_false] at h
  rcases h with rfl | rfl <;> exact .int _
theorem sc2 {a b : V} (ha : Sc a) (hb : Sc b) : ∀ x ∈ [a, b], Sc x := fun x h => by
  simp only [List.mem_cons, List.not_mem_nil, or_false] at h
  rcases h with rfl | rfl <;> assumption
theorem sc1 {a : V} (ha : Sc a) : ∀ x ∈ [a], Sc x := fun x h => by
  simp only [List.mem_cons, List.not_mem_nil, or_false] at h
  rcases h with rfl
  exact ha
theorem told2 (h1 : G one = some (.tup [.int 1, .int 4])) (h2 : G z1 = some (.tup xs)) (h3 : G z2 = some (.tup [.ref one, .ref z1])) (sc : ∀ x ∈ xs, Sc x)
    (n3 : nbad 3 0 (-10 ^ 30) [some [.int 1, .int 4], some xs] = some 1 := by decide +kernel) (n41 : nbad 41 0 (-10 ^ 30) [some [.int 1, .int 4], some xs] = some 1 := by decide +kernel)
    (sh : (∀ d ∈ [PyData.tuple [.int 1, .int 4], .tuple (xs.map toD)], SeqAt.shaped d = true) := by decide +kernel) (hd : (difs [PyData.tuple [.int 1, .int 4], .tuple (xs.map toD)] 2).head? = some 1 := by decide +kernel) : DTold K G (.ref z2) :=
  dtold h3 (by show 2 ≤ 12; decide) (.cons (th_tup h1 sc14) (.cons (th_tup h2 sc) .nil)) n3 n41 (.cons (dp_tup h1 sc14) (.cons (dp_tup h2 sc) .nil)) sh hd
theorem toldL (h1 : G one = some (.tup [.int 1, .int 4])) (h2 : G z1 = some (.lst xs)) (h3 : G z2 = some (.tup [.ref one, .ref z1])) (sc : ∀ x ∈ xs, Sc x)
    (n3 : nbad 3 0 (-10 ^ 30) [some [.int 1, .int 4], none] = some 1 := by decide +kernel) (n41 : nbad 41 0 (-10 ^ 30) [some [.int 1, .int 4], none] = some 1 := by decide +kernel)
    (sh : (∀ d ∈ [PyData.tuple [.int 1, .int 4], .list (xs.map toD)], SeqAt.shaped d = true) := by decide +kernel) (hd : (difs [PyData.tuple [.int 1, .int 4], .list (xs.map toD)] 2).head? = some 1 := by decide +kernel) : DTold K G (.ref z2) :=
  dtold h3 (by show 2 ≤ 12; decide) (.cons (th_tup h1 sc14) (.cons (b := none) ⟨"list", .lst h2, by decide⟩ .nil)) n3 n41 (.cons (dp_tup h1 sc14) (.cons (.lst (SqL.of h2) (scs_dp sc)) .nil)) sh hd
theorem toldN (h1 : G one = some (.tup [.int 1, .int 4])) (h3 : G z2 = some (.tup [.ref one, .non])) : DTold K G (.ref z2) :=
  dtold (i := 1) h3 (by show 2 ≤ 12; decide) (.cons (th_tup h1 sc14) (.cons (b := none) ⟨"NoneType", .non, by decide⟩ .nil)) (by decide +kernel) (by decide +kernel) (.cons (dp_tup h1 sc14) (.cons .non .nil)) (by decide +kernel) (by decide +kernel)
theorem toldF (h1 : G one = some (.tup [.int 1, .int 4])) (h2 : G z1 = some (.tup [.int 0, .int 5])) (h3 : G z2 = some (.tup [.ref z1, .ref one])) : DTold K G (.ref z2) :=
  dtold (i := 0) h3 (by show 2 ≤ 12; decide) (.cons (th_tup h2 (sc2 (.int _) (.int _))) (.cons (th_tup h1 sc14) .nil)) (by decide +kernel) (by decide +kernel) (.cons (dp_tup h2 (sc2 (.int _) (.int _))) (.cons (dp_tup h1 sc14) .nil)) (by decide +kernel) (by decide +kernel)
theorem toldNF (h1 : G one = some (.tup [.int 1, .int 4])) (h3 : G z2 = some (.tup [.non, .ref one])) : DTold K G (.ref z2) :=
  dtold (i := 0) h3 (by show 2 ≤ 12; decide) (.cons (b := none) ⟨"NoneType", .non, by decide⟩ (.cons (th_tup h1 sc14) .nil)) (by decide +kernel) (by decide +kernel) (.cons .non (.cons (dp_tup h1 sc14) .nil)) (by decide +kernel) (by decide +kernel)
theorem told3N (h1 : G one = some (.tup [.int 1, .int 4])) (h2 : G z1 = some (.tup [.int 2, .int 4])) (h3 : G z2 = some (.tup [.ref one, .ref z1, .non])) : DTold K G (.ref z2) :=
  dtold (i := 2) h3 (by show 3 ≤ 12; decide) (.cons (th_tup h1 sc14) (.cons (th_tup h2 (sc2 (.int _) (.int _))) (.cons (b := none) ⟨"NoneType", .non, by decide⟩ .nil))) (by decide +kernel) (by decide +kernel) (.cons (dp_tup h1 sc14) (.cons (dp_tup h2 (sc2 (.int _) (.int _))) (.cons .non .nil))) (by decide +kernel) (by decide +kernel)
theorem told3 (h1 : G one = some (.tup [.int 1, .int 4])) (h2 : G z1 = some (.tup [.int 2, .int 4])) (h4 : G z3 = some (.tup [.int 2, .int 5])) (h3 : G z2 = some (.tup [.ref one, .ref z1, .ref z3])) : DTold K G (.ref z2) :=
  dtold (i := 2) h3 (by show 3 ≤ 12; decide) (.cons (th_tup h1 sc14) (.cons (th_tup h2 (sc2 (.int _) (.int _))) (.cons (th_tup h4 (sc2 (.int _) (.int _))) .nil))) (by decide +kernel) (by decide +kernel) (.cons (dp_tup h1 sc14) (.cons (dp_tup h2 (sc2 (.int _) (.int _))) (.cons (dp_tup h4 (sc2 (.int _) (.int _))) .nil))) (by decide +kernel) (by decide +kernel)
end
/-- a list of things that are none so far -/
def Acc (K : PySem.W.Frag) (S : List Addr) (H : Hp) (vs : List V) : Prop := ∀ v ∈ vs, DTold K (minus H S) v
theorem Acc.snoc {K : PySem.W.Frag} {S : List Addr} {H H1 : Hp} {vs : List V} {v : V} (a : Acc K S H vs) (t : Same H H1) (d : DTold K (minus H1 S) v) : Acc K S H1 (vs ++ [v]) := fun x hx => by
  rcases List.mem_append.mp hx with h | h
  · exact (a x h).mono (minus_same t)
  · rw [List.mem_singleton] at h
    subst h
    exact d
theorem Acc.mono {K : PySem.W.Frag} {S : List Addr} {H H1 : Hp} {vs : List V} (a : Acc K S H vs) (t : Same H H1) : Acc K S H1 vs := fun x hx => (a x hx).mono (minus_same t)
theorem one_new {H : Hp} {z : Addr} {o : HO} (n : H z = none) : ∃ H1, upd H z o = H1 ∧ Same H H1 ∧ H1 z = some o := ⟨_, rfl, Same_new n, upd_same⟩
theorem pair_new {H : Hp} {z1 z2 : Addr} {o1 o2 : HO} (n1 : H z1 = none) (n2 : upd H z1 o1 z2 = none) : ∃ H1, upd (upd H z1 o1) z2 o2 = H1 ∧ Same H H1 ∧ H1 z1 = some o1 ∧ H1 z2 = some o2 ∧ H z2 = none :=
  ⟨_, rfl, (Same_new n1).trans (Same_new n2), Same_new n2 _ _ upd_same, upd_same, (Same_new n1).free n2⟩
end SR

set_option Elab.async false
set_option linter.all false
set_option maxRecDepth 100000
set_option maxHeartbeats 4000000
/-! The law's good things. -/
namespace SR
open PySem PySem.Spec PyProof.Rows L2

section
variable {P : Program} {w : World} {K : PySem.W.Frag} {mg : Str → Option Value} {base : Heap} {C C_BadSummary C_NoRow C_TooLong C_BadValue C_BadTold fI : Addr}
def spGood (K : PySem.W.Frag) (C : Addr) : Sp := fun vs H Q _ => ∃ (nm : Nat) (S : List Addr), vs = [.str (nmS nm)] ∧ nm ≤ 2 ∧ Lists H S ∧ ∀ H' v, Same H H' → Ds K C (minus H' S) v nm false → Q v H'
theorem sc__law_good_one : FnScope ["_law_name", "_law_good"] ["_law_name"] (defScope s__law_good_one) := ⟨rfl, rfl, rfl, by decide +kernel, rfl, by decide +kernel, by decide +kernel⟩
set_option maxHeartbeats 16000000 in
theorem ok__law_good_one {f : Addr} {fd : FuncData} (F : Fun K "_law_good_one" "_law_good_one" s__law_good_one f fd)  (T : SumT K mg C) (DS : DnMk P w K mg base C)  : FnOk P w K mg base CX0 9 f fd ["_law_name"] (spGood K C) := by
  refine F.ok sc__law_good_one (fun vs H Q E h => ?_) (fun cdv A outer s H vs Q E hr h => ?_)
  · obtain ⟨nm, S, rfl, _⟩ := h
    rfl
  · obtain ⟨nm, S, rfl, n2, hL, k⟩ := h
    have nd := sc__law_good_one.nd
    have hr7 : Room 7 _ := hr.mono (by decide)
    refine ⟨_, pss_cons (ps_set (i := 1) nd rfl (Or.inl rfl) (pe_disp (pps_cons pe_str (pe_mkS DS T hr7 (pa_cons pe_int (pa_cons (pe_tup (pa_cons (pe_tup (pa_cons pe_int (pa_cons pe_int (pa_cons pe_int pa_nil)))) pa_nil)) pa_nil))) (pps_cons pe_str (pe_op op_pow pe_int pe_int) (pps_cons pe_str (pe_tupF (pa_cons (pe_tup (pa_cons pe_int (pa_cons pe_int pa_nil))) (pa_cons (pe_tup (pa_cons pe_int (pa_cons pe_int pa_nil))) pa_nil))) pps_nil))) rfl rfl (fun z => nomatch z) (by decide)))
        (pss_one (ps_ret (pe_dget (Nat.lt_of_le_of_lt (Nat.add_le_add_left (by decide : (1 : Nat) ≤ 64) _) hr.units) (pv 1) (pv 0) (fun _ _ => rfl)))), ?_⟩
    have l1 : 1 ≤ sizeLine := by show 1 ≤ sizeLine; decide
    have l3 : 3 ≤ sizeLine := by show 3 ≤ sizeLine; decide
    have l2 : 2 ≤ sizeLine := by show 2 ≤ sizeLine; decide
    have wA : Valid 3 [(5, 2, 2)] := by
      refine ⟨by decide, by decide, by decide, fun j hj => ?_, fun j hj => absurd hj (by simp)⟩
      obtain rfl : j = 0 := by have : j < 1 := hj; omega
      exact ⟨by decide +kernel, by decide +kernel, by decide, by decide, by decide⟩
    refine fun q nq => ⟨l3, fun y1 m1 => ⟨l1, fun y2 m2 => ?_⟩⟩
    have sq := Same_new (o := .dK []) nq
    have u1 := Same_new (o := .tup [.int 5, .int 2, .int 2]) m1
    have u2 := Same_new (o := .tup [.ref y1]) m2
    have tv : TupV (upd (upd (upd H q (.dK [])) y1 (.tup [.int 5, .int 2, .int 2])) y2 (.tup [.ref y1])) (.ref y2) [(5, 2, 2)] := ⟨y2, _, rfl, upd_same, .cons ⟨y1, rfl, u2 _ _ upd_same⟩ .nil⟩
    have hq : (upd (upd (upd H q (.dK [])) y1 (.tup [.int 5, .int 2, .int 2])) y2 (.tup [.ref y1])) q = some (.dK []) := u2 _ _ (u1 _ _ upd_same)
    have s0 := (sq.trans u1).trans u2
    refine fun x dx nx nd' ne => sum_mk tv wA nx nd' ne fun H2 s2 hs2 => ?_
    refine ⟨_, _, rfl, rfl, ⟨by decide, by decide, by decide⟩, ?_⟩
    refine ⟨l2, fun z1 n1 => ⟨l2, fun z2 n2 => ⟨l2, fun z3 o n3 ho => ?_⟩⟩⟩
    have v1 := Same_new (o := .tup [.int 1, .int 4]) n1
    have v2 := Same_new (o := .tup [.int 3, .int 7]) n2
    have v3 := Same_new (o := .frz o (.tup [.ref z1, .ref z2])) n3
    have tp : TP (upd (upd (upd H2 z1 (.tup [.int 1, .int 4])) z2 (.tup [.int 3, .int 7])) z3 (.frz o (.tup [.ref z1, .ref z2]))) (.ref z3) [(1, 4), (3, 7)] := ⟨z3, [z1, z2], rfl, PlT.new ho, .cons (v3 _ _ (v2 _ _ upd_same)) (.cons (v3 _ _ upd_same) .nil)⟩
    have s3 : Same H2 (upd (upd (upd H2 z1 (.tup [.int 1, .int 4])) z2 (.tup [.int 3, .int 7])) z3 (.frz o (.tup [.ref z1, .ref z2]))) := (v1.trans v2).trans v3
    obtain ⟨H3, e3⟩ : ∃ H3, H3 = upd (upd (upd H2 z1 (.tup [.int 1, .int 4])) z2 (.tup [.int 3, .int 7])) z3 (.frz o (.tup [.ref z1, .ref z2])) := ⟨_, rfl⟩
    rw [← e3] at tp s3 ⊢
    clear e3
    have s4 : Same H H3 := (s0.trans s2).trans s3
    have hq3 := s3 _ _ (s2 _ _ hq)
    refine ⟨hq3, [(.inr (Str.ofString "summary"), .ref x), (.inr (Str.ofString "value"), .int (10 ^ 30)), (.inr (Str.ofString "told"), .ref z3)], rfl, Nat.le_of_ble_eq_true rfl, ?_⟩
    have s5 : Same H (upd H3 q (.dK (mergeK [] [(.inr (Str.ofString "summary"), .ref x), (.inr (Str.ofString "value"), .int (10 ^ 30)), (.inr (Str.ofString "told"), .ref z3)]))) := Same_mut s4 nq
    have kp : ∀ b o, b ≠ q → H3 b = some o → upd H3 q (.dK (mergeK [] [(.inr (Str.ofString "summary"), .ref x), (.inr (Str.ofString "value"), .int (10 ^ 30)), (.inr (Str.ofString "told"), .ref z3)])) b = some o := fun b o hb e => by rw [upd_ne hb]; exact e
    have hs3 := hs2.mono s3
    have hd : upd H3 q (.dK (mergeK [] [(.inr (Str.ofString "summary"), .ref x), (.inr (Str.ofString "value"), .int (10 ^ 30)), (.inr (Str.ofString "told"), .ref z3)])) q = some _ := upd_same
    obtain ⟨H4, e4⟩ : ∃ H4, H4 = upd H3 q (.dK (mergeK [] [(.inr (Str.ofString "summary"), .ref x), (.inr (Str.ofString "value"), .int (10 ^ 30)), (.inr (Str.ofString "told"), .ref z3)])) := ⟨_, rfl⟩
    rw [← e4] at s5 kp hd ⊢
    clear e4
    dsimp only [gName]
    refine st_eq (σ' := [some (.str (nmS nm)), some (.ref q)]) rfl ?_
    refine ⟨_, rfl, _, rfl, q, ?_⟩
    have L4 := hL.mono s5
    have sub : ∀ a o, H3 a = some o → Firm o → minus H4 S a = some o := fun a o e f => minus_nl L4 (kp a o (fun z => by subst z; exact f.nd _ (Option.some.inj (e.symm.trans hq3))) e) f.nl
    match nm, n2, k with
    | 0, _, k => exact ⟨_, rfl, .inl ⟨_, .inr (Str.ofString "summary"), .inl hd, rfl, rfl⟩, k _ _ s5 (sum_imp sub hs3)⟩
    | 1, _, k => exact ⟨_, rfl, .inl ⟨_, .inr (Str.ofString "value"), .inl hd, rfl, rfl⟩, k _ _ s5 rfl⟩
    | 2, _, k => exact ⟨_, rfl, .inl ⟨_, .inr (Str.ofString "told"), .inl hd, rfl, rfl⟩, k _ _ s5 ⟨_, tp_imp sub tp, tk_good (by decide), tk_good (by decide)⟩⟩
-- @prem _law_good_one _law_good_one  : T DS
end
end SR

set_option Elab.async false
set_option linter.all false
set_option maxRecDepth 100000
set_option maxHeartbeats 4000000
/-! The law's things that are none. -/
namespace SR
open PySem PySem.Spec PyProof.Rows L2

section
variable {P : Program} {w : World} {K : PySem.W.Frag} {mg : Str → Option Value} {base : Heap} {C C_BadSummary C_NoRow C_TooLong C_BadValue C_BadTold fI : Addr}
def spBad (K : PySem.W.Frag) (C : Addr) : Sp := fun vs H Q _ => ∃ (p c : Addr) (nm : Nat) (S : List Addr), vs = [.ref p, .str (nmS nm)] ∧ nm ≤ 2 ∧ DrawAt H p c ∧ p ∈ S ∧ c ∈ S ∧ Lists H S ∧ ∀ H' v, SameD p c H H' → DrawAt H' p c → Ds K C (minus H' S) v nm true → Q v H'
theorem sc__law_bad_one : FnScope ["_law_h", "_law_name", "_law_bad", "_law_one"] ["_law_h", "_law_name"] (defScope s__law_bad_one) := ⟨rfl, rfl, rfl, by decide +kernel, rfl, by decide +kernel, by decide +kernel⟩
set_option maxHeartbeats 16000000 in
theorem ok__law_bad_one {f : Addr} {fd : FuncData} (F : Fun K "_law_bad_one" "_law_bad_one" s__law_bad_one f fd)  (T : SumT K mg C) (DS : DnMk P w K mg base C) (D__law_next : Dn P w K mg base "_law_next" ["_law_h", "_law_bound"] 1 (spNext)) (m_len : mg "len" = none)  : FnOk P w K mg base CX0 9 f fd ["_law_h", "_law_name"] (spBad K C) := by
  refine F.ok sc__law_bad_one (fun vs H Q E h => ?_) (fun cdv A outer s H vs Q E hr h => ?_)
  · obtain ⟨p, c, nm, S, rfl, _⟩ := h
    rfl
  · obtain ⟨p, c, nm, S, rfl, n2, hD, hp, hc, hL, k⟩ := h
    have nd := sc__law_bad_one.nd
    have hr1 : Room 1 _ := hr.mono (by decide)
    have hr7 : Room 7 _ := hr.mono (by decide)
    refine ⟨_, pss_cons (ps_set (i := 2) nd rfl (Or.inl rfl) (pe_lst (pa_cons pe_non (pa_cons pe_bl (pa_cons pe_str (pa_cons (pe_op op_add (pe_op op_pow pe_int pe_int) pe_int) (pa_cons (pe_op op_sub (pe_un un_neg (pe_op op_pow pe_int pe_int)) pe_int) (pa_cons (pe_tup (pa_cons pe_int pa_nil)) (pa_cons (pe_lst (pa_cons pe_int pa_nil)) pa_nil)))))))))
        (pss_cons (ps_if (pt_cmpR (op_eqD hr.units) (pv 1) pe_str (nomark _)) (pss_one (ps_set (i := 2) nd rfl (Or.inl rfl) (pe_lst (pa_cons pe_non (pa_cons (pe_tup (pa_cons pe_int (pa_cons (pe_tup (pa_cons (pe_tup (pa_cons pe_int (pa_cons pe_int (pa_cons pe_int pa_nil)))) pa_nil)) pa_nil))) (pa_cons pe_int (pa_cons pe_str (pa_cons (pe_lst (pa_cons (pe_mkS DS T hr7 (pa_cons pe_int (pa_cons (pe_tup pa_nil) pa_nil))) pa_nil)) (pa_cons (pe_tup (pa_cons (pe_tup (pa_cons pe_int (pa_cons pe_int (pa_cons pe_int pa_nil)))) pa_nil)) pa_nil))))))))) pss_nil)
        (pss_cons (ps_if (pt_cmpR (op_eqD hr.units) (pv 1) pe_str (nomark _)) (pss_cons (ps_set (i := 3) nd rfl (Or.inl rfl) (pe_tup (pa_cons pe_int (pa_cons pe_int pa_nil))))
        (pss_cons (ps_set (i := 2) nd rfl (Or.inl rfl) (pe_lst (pa_cons pe_non (pa_cons (pe_lst (pa_cons (pv 3) pa_nil)) (pa_cons (pe_op op_repT (pe_tup (pa_cons (pv 3) pa_nil)) pe_int) (pa_cons (pe_tup (pa_cons (pv 3) (pa_cons (pe_tup (pa_cons pe_int (pa_cons pe_int pa_nil))) pa_nil))) (pa_cons (pe_tup (pa_cons (pv 3) (pa_cons (pe_tup (pa_cons pe_int (pa_cons pe_int pa_nil))) pa_nil))) (pa_cons (pe_tup (pa_cons (pv 3) (pa_cons (pe_tup (pa_cons pe_int (pa_cons pe_int pa_nil))) pa_nil))) (pa_cons pe_int pa_nil)))))))))
        (pss_cons (ps_set (i := 2) nd rfl (Or.inl rfl) (pe_op op_cat (pv 2) (pe_lst (pa_cons (pe_tup (pa_cons (pv 3) (pa_cons (pe_tup (pa_cons pe_int (pa_cons pe_bl pa_nil))) pa_nil))) (pa_cons (pe_tup (pa_cons (pv 3) (pa_cons (pe_tup (pa_cons pe_int pa_nil)) pa_nil))) (pa_cons (pe_tup (pa_cons (pv 3) (pa_cons (pe_lst (pa_cons pe_int (pa_cons pe_int pa_nil))) pa_nil))) (pa_cons (pe_tup (pa_cons (pv 3) (pa_cons (pe_tup (pa_cons pe_bl (pa_cons pe_int pa_nil))) pa_nil))) pa_nil)))))))
        (pss_cons (ps_set (i := 2) nd rfl (Or.inl rfl) (pe_op op_cat (pv 2) (pe_lst (pa_cons (pe_tup (pa_cons (pv 3) (pa_cons (pe_tup (pa_cons pe_int (pa_cons pe_int pa_nil))) pa_nil))) (pa_cons (pe_tup (pa_cons (pv 3) (pa_cons pe_non pa_nil))) (pa_cons (pe_tup (pa_cons (pv 3) (pa_cons (pe_tup (pa_cons pe_int (pa_cons (pe_op op_add (pe_op op_pow pe_int pe_int) pe_int) pa_nil))) pa_nil))) pa_nil))))))
        (pss_one (ps_set (i := 2) nd rfl (Or.inl rfl) (pe_op op_cat (pv 2) (pe_lst (pa_cons (pe_tup (pa_cons (pe_tup (pa_cons pe_int (pa_cons pe_int pa_nil))) (pa_cons (pv 3) pa_nil))) (pa_cons (pe_tup (pa_cons pe_non (pa_cons (pv 3) pa_nil))) (pa_cons (pe_tup (pa_cons (pv 3) (pa_cons (pe_tup (pa_cons pe_int (pa_cons pe_int pa_nil))) (pa_cons pe_non pa_nil)))) (pa_cons (pe_tup (pa_cons (pv 3) (pa_cons (pe_tup (pa_cons pe_int (pa_cons pe_int pa_nil))) (pa_cons (pe_tup (pa_cons pe_int (pa_cons pe_int pa_nil))) pa_nil)))) pa_nil)))))))))))) pss_nil)
        (pss_one (ps_ret (pe_ix ix_list (pv 2) (pe_dn D__law_next hr1 (pa_cons (pv 0) (pa_cons (pe_callB call_len_seq (by rfl) m_len PySem.boot_len (pa_cons (pv 2) pa_nil)) pa_nil))) (fun _ _ => rfl)))))), ?_⟩
    have l1 : 1 ≤ sizeLine := by show 1 ≤ sizeLine; decide
    have l2 : 2 ≤ sizeLine := by show 2 ≤ sizeLine; decide
    have l3 : 3 ≤ sizeLine := by show 3 ≤ sizeLine; decide
    have l4 : 4 ≤ sizeLine := by show 4 ≤ sizeLine; decide
    have l6 : 6 ≤ sizeLine := by show 6 ≤ sizeLine; decide
    have l7 : 7 ≤ sizeLine := by show 7 ≤ sizeLine; decide
    have mu : ∀ {H' : Hp}, Same H H' → SameD p c H H' := fun s => sameD_of s
    have last : ∀ (H1 : Hp) (L : Addr) (ws : List V), Same H H1 → H L = none → H1 L = some (.lst ws) → 0 < ws.length → ws.length ≤ 50 → (∀ v ∈ ws, Ds K C (minus H1 S) v nm true) → spNext [.ref p, .int (ws.length : Int)] H1 (fun y H2 => rIxL K (.ref L) y H2 Q) E0 := by
      intro H1 L ws s1 nL hl l0 l50 hw
      refine ⟨p, c, _, rfl, hD.mono s1, by omega, nb (by omega) (by omega), fun H2 r r0 r1 d2 s2 => ?_⟩
      have jl : r.toNat < ws.length := by omega
      have ej : ws[r.toNat]? = some ws[r.toNat] := List.getElem?_eq_getElem jl
      exact ⟨L, ws, r, ws[r.toNat], rfl, rfl, SqL.of (s2.at hl (hD.fresh nL)), at_of (j := r.toNat) (by omega) ej, k _ _ ((sameD_of s1).trans s2) d2 ((hw _ (List.mem_of_getElem? ej)).mono (minus_D hp hc s2))⟩
    refine ⟨_, _, rfl, rfl, ⟨by decide, by decide, by decide⟩, _, _, rfl, rfl, _, _, rfl, rfl, ⟨by decide, by decide, by decide⟩, _, rfl, _, _, rfl, rfl, l1, fun z1 n1 => ⟨l1, fun z2 n2 => ⟨l7, fun L nL => ?_⟩⟩⟩
    obtain ⟨H1, e1, t1, a1, b1, m1⟩ := pair_new (o2 := .lst [.int 1]) n1 n2
    rw [e1] at nL ⊢
    clear e1
    obtain ⟨H2, e2, t2, a2⟩ := one_new (o := .lst [.non, .bl true, .str (Str.ofString "1"), .int (10 ^ (30 : Int).toNat + 1), .int (-10 ^ (30 : Int).toNat - 1), .ref z1, .ref z2]) nL
    rw [e2]
    clear e2
    have s2 := t1.trans t2
    have nLH := t1.free nL
    have g1 : minus H2 S z1 = some (.tup [.int 1]) := minus_at (t2 _ _ a1) (hL.new n1)
    have g2 : minus H2 S z2 = some (.lst [.int 1]) := minus_at (t2 _ _ b1) (hL.new m1)
    dsimp only [gName]
    refine st_eq (σ' := [some (.ref p), some (.str (nmS nm)), some (.ref L), none]) rfl ?_
    clear n1 n2 nL a1 b1 m1 t1 t2
    match nm, n2, k, last with
    | 1, _, k, last =>
      refine ⟨_, rfl, .str (Str.ofString "value"), .str (Str.ofString "summary"), .str _, .str _, by decide +kernel, by decide +kernel, ?_⟩
      rw [show PyData.eqv (.str (Str.ofString "value")) (.str (Str.ofString "summary")) = false by decide +kernel]
      refine ⟨_, rfl, iteF ?_⟩
      refine ⟨_, rfl, .str (Str.ofString "value"), .str (Str.ofString "told"), .str _, .str _, by decide +kernel, by decide +kernel, ?_⟩
      rw [show PyData.eqv (.str (Str.ofString "value")) (.str (Str.ofString "told")) = false by decide +kernel]
      refine ⟨_, rfl, iteF ?_⟩
      exact ⟨_, rfl, _, rfl, _, rfl, L, _, rfl, .inl (SqL.of a2), last _ _ _ s2 nLH a2 (Nat.le_of_ble_eq_true rfl) (Nat.le_of_ble_eq_true rfl) fun v hv => by
        simp only [List.mem_cons, List.not_mem_nil, or_false] at hv
        rcases hv with rfl | rfl | rfl | rfl | rfl | rfl | rfl
        · exact ⟨⟨_, .non⟩, rfl⟩
        · exact ⟨⟨_, .bl _⟩, rfl⟩
        · exact ⟨⟨_, .str _⟩, rfl⟩
        · exact ⟨⟨_, .int _⟩, by decide +kernel⟩
        · exact ⟨⟨_, .int _⟩, by decide +kernel⟩
        · exact ⟨⟨_, .tup g1⟩, rfl⟩
        · exact ⟨⟨_, .lst g2⟩, rfl⟩⟩
    | 0, _, k, last =>
      refine ⟨_, rfl, .str (Str.ofString "summary"), .str (Str.ofString "summary"), .str _, .str _, by decide +kernel, by decide +kernel, ?_⟩
      rw [show PyData.eqv (.str (Str.ofString "summary")) (.str (Str.ofString "summary")) = true by decide +kernel]
      refine ⟨_, rfl, iteT ?_⟩
      refine ⟨l3, fun y1 n1 => ⟨l1, fun y2 n2 => ⟨l2, fun y3 n3 => ?_⟩⟩⟩
      obtain ⟨H3, e3, t3, a3, b3, m3⟩ := pair_new (o2 := .tup [.ref y1]) n1 n2
      rw [e3] at n3 ⊢
      clear e3
      obtain ⟨H4, e4, t4, a4⟩ := one_new (o := .tup [.int 3, .ref y2]) n3
      rw [e4]
      clear e4
      have nn3 := s2.free (t3.free n3)
      refine ⟨Nat.zero_le _, fun y4 n4 => ?_⟩
      obtain ⟨H5, e5, t5, a5⟩ := one_new (o := .tup []) n4
      rw [e5]
      clear e5
      have w0 : Valid 1 [] := ⟨by decide, by decide, by decide, fun j hj => absurd hj (Nat.not_lt_zero _), fun j hj => absurd hj (Nat.not_lt_zero _)⟩
      refine fun x dx nx nd' ne => sum_mk ⟨y4, [], rfl, a5, .nil⟩ w0 nx nd' ne fun H6 t6 hs6 => ?_
      refine ⟨l1, fun y5 n5 => ?_⟩
      obtain ⟨H7, e7, t7, a7⟩ := one_new (o := .lst [.ref x]) n5
      rw [e7]
      clear e7
      refine ⟨l3, fun y6 n6 => ⟨l1, fun y7 n7 => ?_⟩⟩
      obtain ⟨H8, e8, t8, a8, b8, m8⟩ := pair_new (o2 := .tup [.ref y6]) n6 n7
      rw [e8]
      clear e8
      refine ⟨l6, fun M nM => ?_⟩
      obtain ⟨H9, e9, t9, a9⟩ := one_new (o := .lst [.non, .ref y3, .int 3, .str (Str.ofString "a"), .ref y5, .ref y7]) nM
      rw [e9]
      clear e9
      have s4 := (s2.trans t3).trans t4
      have s6 := (s4.trans t5).trans t6
      have s8 := (s6.trans t7).trans t8
      have s9 := s8.trans t9
      have g3 : minus H9 S y3 = some (.tup [.int 3, .ref y2]) := minus_at (t9 _ _ (t8 _ _ (t7 _ _ (t6 _ _ (t5 _ _ a4))))) (hL.new nn3)
      have g5 : minus H9 S y5 = some (.lst [.ref x]) := minus_at (t9 _ _ (t8 _ _ a7)) (hL.new (s6.free n5))
      have g7 : minus H9 S y7 = some (.tup [.ref y6]) := minus_at (t9 _ _ b8) (hL.new ((s6.trans t7).free m8))
      dsimp only [gName]
      refine st_eq (σ' := [some (.ref p), some (.str (Str.ofString "summary")), some (.ref M), none]) rfl ?_
      refine ⟨_, rfl, .str (Str.ofString "summary"), .str (Str.ofString "told"), .str _, .str _, by decide +kernel, by decide +kernel, ?_⟩
      rw [show PyData.eqv (.str (Str.ofString "summary")) (.str (Str.ofString "told")) = false by decide +kernel]
      refine ⟨_, rfl, iteF ?_⟩
      exact ⟨_, rfl, _, rfl, _, rfl, M, _, rfl, .inl (SqL.of a9), last _ _ _ s9 (s8.free nM) a9 (Nat.le_of_ble_eq_true rfl) (Nat.le_of_ble_eq_true rfl) fun v hv => by
        simp only [List.mem_cons, List.not_mem_nil, or_false] at hv
        rcases hv with rfl | rfl | rfl | rfl | rfl | rfl
        · exact ⟨_, .non⟩
        · exact ⟨_, .tup g3⟩
        · exact ⟨_, .int _⟩
        · exact ⟨_, .str _⟩
        · exact ⟨_, .lst g5⟩
        · exact ⟨_, .tup g7⟩⟩
    | 2, _, k, last =>
      refine ⟨_, rfl, .str (Str.ofString "told"), .str (Str.ofString "summary"), .str _, .str _, by decide +kernel, by decide +kernel, ?_⟩
      rw [show PyData.eqv (.str (Str.ofString "told")) (.str (Str.ofString "summary")) = false by decide +kernel]
      refine ⟨_, rfl, iteF ?_⟩
      refine ⟨_, rfl, .str (Str.ofString "told"), .str (Str.ofString "told"), .str _, .str _, by decide +kernel, by decide +kernel, ?_⟩
      rw [show PyData.eqv (.str (Str.ofString "told")) (.str (Str.ofString "told")) = true by decide +kernel]
      refine ⟨_, rfl, iteT ?_⟩
      refine ⟨l2, fun one n1 => ?_⟩
      obtain ⟨H3, e3, t3, a3⟩ := one_new (o := .tup [.int 1, .int 4]) n1
      rw [e3]
      clear e3
      have s3 := s2.trans t3
      have o3 : minus H3 S one = some (.tup [.int 1, .int 4]) := minus_at a3 (hL.new (s2.free n1))
      dsimp only [gName]
      refine st_eq (σ' := [some (.ref p), some (.str (Str.ofString "told")), some (.ref L), some (.ref one)]) rfl ?_
      have k1 := Acc.snoc (fun v hv => nomatch hv : Acc K S H3 []) (Same.refl H3) (dnone .non (by decide))
      refine ⟨_, rfl, l1, fun z4 n4 => ?_⟩
      obtain ⟨H4, e4, t4, a4⟩ := one_new (o := .lst [.ref one]) n4
      rw [e4]
      clear e4
      have s4 := s3.trans t4
      have o4 := minus_same (S := S) t4 _ _ o3
      have c4 := Acc.snoc k1 t4 (dnone (.lst (minus_at a4 (hL.new (s3.free n4)))) (by decide))
      refine ⟨_, rfl, l1, fun z5 n5 => ⟨z5, 13, _, rfl, rfl, SqT.of upd_same, fun z => (nomatch z), by decide, by decide, Nat.le_of_ble_eq_true rfl, fun w5 m5 => ?_⟩⟩
      obtain ⟨H5, e5, t5, a5, b5, f5⟩ := pair_new (o2 := .tup (List.replicate (13 : Int).toNat [.ref one]).flatten) n5 m5
      rw [e5]
      clear e5 m5
      have s5 := s4.trans t5
      have o5 := minus_same (S := S) t5 _ _ o4
      have c5 := Acc.snoc c4 t5 (dlong (minus_at b5 (hL.new (s4.free f5))) (by show 12 < (List.replicate 13 [V.ref one]).flatten.length; simp))
      refine ⟨_, rfl, l2, fun z6 n6 => ⟨l2, fun w6 m6 => ?_⟩⟩
      obtain ⟨H6, e6, t6, a6, b6, f6⟩ := pair_new (o2 := .tup [.ref one, .ref z6]) n6 m6
      rw [e6]
      clear e6 m6
      have s6 := s5.trans t6
      have o6 := minus_same (S := S) t6 _ _ o5
      have c6 := Acc.snoc c5 t6 (told2 o6 (minus_at a6 (hL.new (s5.free n6))) (minus_at b6 (hL.new (s5.free f6))) (sc2 (.int _) (.int _)))
      refine ⟨_, rfl, l2, fun z7 n7 => ⟨l2, fun w7 m7 => ?_⟩⟩
      obtain ⟨H7, e7, t7, a7, b7, f7⟩ := pair_new (o2 := .tup [.ref one, .ref z7]) n7 m7
      rw [e7]
      clear e7 m7
      have s7 := s6.trans t7
      have o7 := minus_same (S := S) t7 _ _ o6
      have c7 := Acc.snoc c6 t7 (told2 o7 (minus_at a7 (hL.new (s6.free n7))) (minus_at b7 (hL.new (s6.free f7))) (sc2 (.int _) (.int _)))
      refine ⟨_, rfl, l2, fun z8 n8 => ⟨l2, fun w8 m8 => ?_⟩⟩
      obtain ⟨H8, e8, t8, a8, b8, f8⟩ := pair_new (o2 := .tup [.ref one, .ref z8]) n8 m8
      rw [e8]
      clear e8 m8
      have s8 := s7.trans t8
      have o8 := minus_same (S := S) t8 _ _ o7
      have c8 := Acc.snoc c7 t8 (told2 o8 (minus_at a8 (hL.new (s7.free n8))) (minus_at b8 (hL.new (s7.free f8))) (sc2 (.int _) (.int _)))
      have k2 := Acc.snoc c8 (Same.refl H8) (dnone (.int 3) (by decide))
      refine ⟨l7, fun q9a r9 => ?_⟩
      obtain ⟨H9, e9, t9, a9⟩ := one_new (o := .lst [.non, .ref z4, .ref w5, .ref w6, .ref w7, .ref w8, .int 3]) r9
      rw [e9]
      clear e9
      have s9 := s8.trans t9
      have o9 := minus_same (S := S) t9 _ _ o8
      have c9 := k2.mono t9
      have A9 : Acc K S H9 [.non, .ref z4, .ref w5, .ref w6, .ref w7, .ref w8, .int 3] := c9
      have q9 := a9
      have nl9 := s8.free r9
      dsimp only [gName]
      refine st_eq (σ' := [some (.ref p), some (.str (Str.ofString "told")), some (.ref q9a), some (.ref one)]) rfl ?_
      refine ⟨_, rfl, _, rfl, l2, fun z10 n10 => ⟨l2, fun w10 m10 => ?_⟩⟩
      obtain ⟨H10, e10, t10, a10, b10, f10⟩ := pair_new (o2 := .tup [.ref one, .ref z10]) n10 m10
      rw [e10]
      clear e10 m10
      have s10 := s9.trans t10
      have o10 := minus_same (S := S) t10 _ _ o9
      have q10 := t10 _ _ q9
      have A10 := A9.mono t10
      have c10 := Acc.snoc (fun v hv => nomatch hv : Acc K S H9 []) t10 (told2 o10 (minus_at a10 (hL.new (s9.free n10))) (minus_at b10 (hL.new (s9.free f10))) (sc2 (.int _) (.bl _)))
      refine ⟨_, rfl, l1, fun z11 n11 => ⟨l2, fun w11 m11 => ?_⟩⟩
      obtain ⟨H11, e11, t11, a11, b11, f11⟩ := pair_new (o2 := .tup [.ref one, .ref z11]) n11 m11
      rw [e11]
      clear e11 m11
      have s11 := s10.trans t11
      have o11 := minus_same (S := S) t11 _ _ o10
      have q11 := t11 _ _ q10
      have A11 := A10.mono t11
      have c11 := Acc.snoc c10 t11 (told2 o11 (minus_at a11 (hL.new (s10.free n11))) (minus_at b11 (hL.new (s10.free f11))) (sc1 (.int _)))
      refine ⟨_, rfl, l2, fun z12 n12 => ⟨l2, fun w12 m12 => ?_⟩⟩
      obtain ⟨H12, e12, t12, a12, b12, f12⟩ := pair_new (o2 := .tup [.ref one, .ref z12]) n12 m12
      rw [e12]
      clear e12 m12
      have s12 := s11.trans t12
      have o12 := minus_same (S := S) t12 _ _ o11
      have q12 := t12 _ _ q11
      have A12 := A11.mono t12
      have c12 := Acc.snoc c11 t12 (toldL o12 (minus_at a12 (hL.new (s11.free n12))) (minus_at b12 (hL.new (s11.free f12))) (sc2 (.int _) (.int _)))
      refine ⟨_, rfl, l2, fun z13 n13 => ⟨l2, fun w13 m13 => ?_⟩⟩
      obtain ⟨H13, e13, t13, a13, b13, f13⟩ := pair_new (o2 := .tup [.ref one, .ref z13]) n13 m13
      rw [e13]
      clear e13 m13
      have s13 := s12.trans t13
      have o13 := minus_same (S := S) t13 _ _ o12
      have q13 := t13 _ _ q12
      have A13 := A12.mono t13
      have c13 := Acc.snoc c12 t13 (told2 o13 (minus_at a13 (hL.new (s12.free n13))) (minus_at b13 (hL.new (s12.free f13))) (sc2 (.bl _) (.int _)))
      refine ⟨l4, fun q14a r14 => ?_⟩
      obtain ⟨H14, e14, t14, a14⟩ := one_new (o := .lst [.ref w10, .ref w11, .ref w12, .ref w13]) r14
      rw [e14]
      clear e14
      have s14 := s13.trans t14
      have o14 := minus_same (S := S) t14 _ _ o13
      have q14 := t14 _ _ q13
      have A14 := A13.mono t14
      have c14 := c13.mono t14
      refine ⟨q9a, q14a, _, _, rfl, rfl, q14, a14, by show 7 + 4 ≤ sizeLine; decide, fun q15a r15 => ?_⟩
      obtain ⟨H15, e15, t15, a15⟩ := one_new (o := .lst [.non, .ref z4, .ref w5, .ref w6, .ref w7, .ref w8, .int 3, .ref w10, .ref w11, .ref w12, .ref w13]) r15
      rw [show upd H14 q15a (.lst ([.non, .ref z4, .ref w5, .ref w6, .ref w7, .ref w8, .int 3] ++ [.ref w10, .ref w11, .ref w12, .ref w13])) = H15 from e15]
      clear e15
      have s15 := s14.trans t15
      have o15 := minus_same (S := S) t15 _ _ o14
      have A15 : Acc K S H15 [.non, .ref z4, .ref w5, .ref w6, .ref w7, .ref w8, .int 3, .ref w10, .ref w11, .ref w12, .ref w13] := fun v hv => (List.mem_append.mp (show v ∈ [.non, .ref z4, .ref w5, .ref w6, .ref w7, .ref w8, .int 3] ++ [.ref w10, .ref w11, .ref w12, .ref w13] from hv)).elim (A14.mono t15 v) (c14.mono t15 v)
      have q15 := a15
      have nl15 := s14.free r15
      dsimp only [gName]
      refine st_eq (σ' := [some (.ref p), some (.str (Str.ofString "told")), some (.ref q15a), some (.ref one)]) rfl ?_
      refine ⟨_, rfl, _, rfl, l2, fun z16 n16 => ⟨l2, fun w16 m16 => ?_⟩⟩
      obtain ⟨H16, e16, t16, a16, b16, f16⟩ := pair_new (o2 := .tup [.ref one, .ref z16]) n16 m16
      rw [e16]
      clear e16 m16
      have s16 := s15.trans t16
      have o16 := minus_same (S := S) t16 _ _ o15
      have q16 := t16 _ _ q15
      have A16 := A15.mono t16
      have c16 := Acc.snoc (fun v hv => nomatch hv : Acc K S H15 []) t16 (told2 o16 (minus_at a16 (hL.new (s15.free n16))) (minus_at b16 (hL.new (s15.free f16))) (sc2 (.int _) (.int _)))
      refine ⟨_, rfl, l2, fun z17 n17 => ?_⟩
      obtain ⟨H17, e17, t17, a17⟩ := one_new (o := .tup [.ref one, .non]) n17
      rw [e17]
      clear e17
      have s17 := s16.trans t17
      have o17 := minus_same (S := S) t17 _ _ o16
      have q17 := t17 _ _ q16
      have A17 := A16.mono t17
      have c17 := Acc.snoc c16 t17 (toldN o17 (minus_at a17 (hL.new (s16.free n17))))
      refine ⟨_, rfl, _, _, rfl, rfl, ⟨by decide, by decide, by decide⟩, _, _, rfl, rfl, l2, fun z18 n18 => ⟨l2, fun w18 m18 => ?_⟩⟩
      obtain ⟨H18, e18, t18, a18, b18, f18⟩ := pair_new (o2 := .tup [.ref one, .ref z18]) n18 m18
      rw [e18]
      clear e18 m18
      have s18 := s17.trans t18
      have o18 := minus_same (S := S) t18 _ _ o17
      have q18 := t18 _ _ q17
      have A18 := A17.mono t18
      have c18 := Acc.snoc c17 t18 (told2 o18 (minus_at a18 (hL.new (s17.free n18))) (minus_at b18 (hL.new (s17.free f18))) (sc2 (.int _) (.int _)))
      refine ⟨l3, fun q19a r19 => ?_⟩
      obtain ⟨H19, e19, t19, a19⟩ := one_new (o := .lst [.ref w16, .ref z17, .ref w18]) r19
      rw [e19]
      clear e19
      have s19 := s18.trans t19
      have o19 := minus_same (S := S) t19 _ _ o18
      have q19 := t19 _ _ q18
      have A19 := A18.mono t19
      have c19 := c18.mono t19
      refine ⟨q15a, q19a, _, _, rfl, rfl, q19, a19, by show 11 + 3 ≤ sizeLine; decide, fun q20a r20 => ?_⟩
      obtain ⟨H20, e20, t20, a20⟩ := one_new (o := .lst [.non, .ref z4, .ref w5, .ref w6, .ref w7, .ref w8, .int 3, .ref w10, .ref w11, .ref w12, .ref w13, .ref w16, .ref z17, .ref w18]) r20
      rw [show upd H19 q20a (.lst ([.non, .ref z4, .ref w5, .ref w6, .ref w7, .ref w8, .int 3, .ref w10, .ref w11, .ref w12, .ref w13] ++ [.ref w16, .ref z17, .ref w18])) = H20 from e20]
      clear e20
      have s20 := s19.trans t20
      have o20 := minus_same (S := S) t20 _ _ o19
      have A20 : Acc K S H20 [.non, .ref z4, .ref w5, .ref w6, .ref w7, .ref w8, .int 3, .ref w10, .ref w11, .ref w12, .ref w13, .ref w16, .ref z17, .ref w18] := fun v hv => (List.mem_append.mp (show v ∈ [.non, .ref z4, .ref w5, .ref w6, .ref w7, .ref w8, .int 3, .ref w10, .ref w11, .ref w12, .ref w13] ++ [.ref w16, .ref z17, .ref w18] from hv)).elim (A19.mono t20 v) (c19.mono t20 v)
      have q20 := a20
      have nl20 := s19.free r20
      dsimp only [gName]
      refine st_eq (σ' := [some (.ref p), some (.str (Str.ofString "told")), some (.ref q20a), some (.ref one)]) rfl ?_
      refine ⟨_, rfl, l2, fun z21 n21 => ⟨_, rfl, l2, fun w21 m21 => ?_⟩⟩
      obtain ⟨H21, e21, t21, a21, b21, f21⟩ := pair_new (o2 := .tup [.ref z21, .ref one]) n21 m21
      rw [e21]
      clear e21 m21
      have s21 := s20.trans t21
      have o21 := minus_same (S := S) t21 _ _ o20
      have q21 := t21 _ _ q20
      have A21 := A20.mono t21
      have c21 := Acc.snoc (fun v hv => nomatch hv : Acc K S H20 []) t21 (toldF o21 (minus_at a21 (hL.new (s20.free n21))) (minus_at b21 (hL.new (s20.free f21))))
      refine ⟨_, rfl, l2, fun z22 n22 => ?_⟩
      obtain ⟨H22, e22, t22, a22⟩ := one_new (o := .tup [.non, .ref one]) n22
      rw [e22]
      clear e22
      have s22 := s21.trans t22
      have o22 := minus_same (S := S) t22 _ _ o21
      have q22 := t22 _ _ q21
      have A22 := A21.mono t22
      have c22 := Acc.snoc c21 t22 (toldNF o22 (minus_at a22 (hL.new (s21.free n22))))
      refine ⟨_, rfl, l2, fun z23 n23 => ⟨l3, fun w23 m23 => ?_⟩⟩
      obtain ⟨H23, e23, t23, a23, b23, f23⟩ := pair_new (o2 := .tup [.ref one, .ref z23, .non]) n23 m23
      rw [e23]
      clear e23 m23
      have s23 := s22.trans t23
      have o23 := minus_same (S := S) t23 _ _ o22
      have q23 := t23 _ _ q22
      have A23 := A22.mono t23
      have c23 := Acc.snoc c22 t23 (told3N o23 (minus_at a23 (hL.new (s22.free n23))) (minus_at b23 (hL.new (s22.free f23))))
      refine ⟨_, rfl, l2, fun z24 n24 => ⟨l2, fun y24 r24 => ⟨l3, fun w24 m24 => ?_⟩⟩⟩
      obtain ⟨G24, g24, i24, j24⟩ := one_new (o := .tup [.int 2, .int 4]) n24
      rw [g24] at r24 m24 ⊢
      clear g24
      obtain ⟨H24, e24, v24, a24, b24, f24⟩ := pair_new (o2 := .tup [.ref one, .ref z24, .ref y24]) r24 m24
      rw [e24]
      clear e24 m24
      have t24 := i24.trans v24
      have s24 := s23.trans t24
      have o24 := minus_same (S := S) t24 _ _ o23
      have q24 := t24 _ _ q23
      have A24 := A23.mono t24
      have c24 := Acc.snoc c23 t24 (told3 o24 (minus_at (v24 _ _ j24) (hL.new (s23.free n24))) (minus_at a24 (hL.new ((s23.trans i24).free r24))) (minus_at b24 (hL.new ((s23.trans i24).free f24))))
      refine ⟨l4, fun q25a r25 => ?_⟩
      obtain ⟨H25, e25, t25, a25⟩ := one_new (o := .lst [.ref w21, .ref z22, .ref w23, .ref w24]) r25
      rw [e25]
      clear e25
      have s25 := s24.trans t25
      have o25 := minus_same (S := S) t25 _ _ o24
      have q25 := t25 _ _ q24
      have A25 := A24.mono t25
      have c25 := c24.mono t25
      refine ⟨q20a, q25a, _, _, rfl, rfl, q25, a25, by show 14 + 4 ≤ sizeLine; decide, fun q26a r26 => ?_⟩
      obtain ⟨H26, e26, t26, a26⟩ := one_new (o := .lst [.non, .ref z4, .ref w5, .ref w6, .ref w7, .ref w8, .int 3, .ref w10, .ref w11, .ref w12, .ref w13, .ref w16, .ref z17, .ref w18, .ref w21, .ref z22, .ref w23, .ref w24]) r26
      rw [show upd H25 q26a (.lst ([.non, .ref z4, .ref w5, .ref w6, .ref w7, .ref w8, .int 3, .ref w10, .ref w11, .ref w12, .ref w13, .ref w16, .ref z17, .ref w18] ++ [.ref w21, .ref z22, .ref w23, .ref w24])) = H26 from e26]
      clear e26
      have s26 := s25.trans t26
      have o26 := minus_same (S := S) t26 _ _ o25
      have A26 : Acc K S H26 [.non, .ref z4, .ref w5, .ref w6, .ref w7, .ref w8, .int 3, .ref w10, .ref w11, .ref w12, .ref w13, .ref w16, .ref z17, .ref w18, .ref w21, .ref z22, .ref w23, .ref w24] := fun v hv => (List.mem_append.mp (show v ∈ [.non, .ref z4, .ref w5, .ref w6, .ref w7, .ref w8, .int 3, .ref w10, .ref w11, .ref w12, .ref w13, .ref w16, .ref z17, .ref w18] ++ [.ref w21, .ref z22, .ref w23, .ref w24] from hv)).elim (A25.mono t26 v) (c25.mono t26 v)
      have q26 := a26
      have nl26 := s25.free r26
      dsimp only [gName]
      refine st_eq (σ' := [some (.ref p), some (.str (Str.ofString "told")), some (.ref q26a), some (.ref one)]) rfl ?_
      exact ⟨_, rfl, _, rfl, _, rfl, q26a, _, rfl, .inl (SqL.of q26), last _ _ _ s26 nl26 q26 (Nat.le_of_ble_eq_true rfl) (Nat.le_of_ble_eq_true rfl) fun v hv => A26 v hv⟩
-- @prem _law_bad_one _law_bad_one  : T DS D__law_next m_len
end
end SR

set_option Elab.async false
set_option linter.all false
set_option maxRecDepth 100000
set_option maxHeartbeats 4000000
/-! What a question of drawn things comes to. -/
namespace SR
open PySem PySem.Spec PyProof.Rows L2
theorem draw_mut {H : Hp} {p c B : Addr} {o : HO} (d : DrawAt H p c) (f : B ≠ p ∧ B ≠ c) : DrawAt (upd H B o) p c := by
  obtain ⟨s, i, cs, h1, h2, r⟩ := d
  exact ⟨s, i, cs, by rw [upd_ne (Ne.symm f.1)]; exact h1, by rw [upd_ne (Ne.symm f.2)]; exact h2, r⟩
theorem shaped_s1 (oc : Oc) : SeqAt.shaped (.list [.str (ocW oc)]) = true := by
  cases oc with
  | told o => show SeqAt.shaped (.list [.str (Str.ofString "told")]) = true; decide +kernel
  | _ => decide +kernel
theorem eqv_s1 (w : Str) : PyData.eqv (.list [.str w]) (.list [.str w]) = true := by
  show ((w == w) && true) = true
  simp
theorem cut_m1 (xs : List V) (x : V) : cutV (xs ++ [x]) none (some (-1)) = xs := by
  unfold cutV
  have e : HT.sIx (xs ++ [x]).length (xs ++ [x]).length (some (-1)) = xs.length := by
    show (if (-1 : Int) < 0 then (-1 + (((xs ++ [x]).length : Nat) : Int)).toNat else min (-1 : Int).toNat (xs ++ [x]).length) = _
    rw [if_pos (by decide), List.length_append, List.length_singleton]
    omega
  rw [e, HT.sIx_none, Nat.sub_zero, List.drop_zero, List.take_left]
theorem ix0 (x : V) (t : List V) : ixN (x :: t).length 0 = some 0 := by
  unfold ixN
  rw [if_pos (by omega), if_pos (by rw [List.length_cons]; omega)]
  rfl
def wd : Nat → List Nat
  | 0 => [0, 0]
  | 1 => [0, 1, 1]
  | 2 => [0, 2]
  | _ => [0, 2, 1]
def dueN (kd : Nat) (bits : List Bool) (n : Nat) : List Str := ((List.range n).filter fun k => bits.getD k false).map fun k => nmS ((wd kd).getD k 0)
theorem dueN_snoc (kd : Nat) (bits : List Bool) (n : Nat) : dueN kd bits (n + 1) = dueN kd bits n ++ (if bits.getD n false = true then [nmS ((wd kd).getD n 0)] else []) := by
  unfold dueN
  rw [List.range_succ, List.filter_append, List.map_append, List.filter_cons]
  cases bits.getD n false <;> rfl
theorem dueN_len (kd : Nat) (bits : List Bool) (n : Nat) : (dueN kd bits n).length ≤ n := by
  unfold dueN
  rw [List.length_map]
  have := List.length_filter_le (fun k => bits.getD k false) (List.range n)
  rwa [List.length_range] at this
theorem wd_len {kd : Nat} (h : kd ≤ 3) : 2 ≤ (wd kd).length ∧ (wd kd).length ≤ 3 := by
  match kd, h with
  | 0, _ => exact ⟨by decide, by decide⟩
  | 1, _ => exact ⟨by decide, by decide⟩
  | 2, _ => exact ⟨by decide, by decide⟩
  | 3, _ => exact ⟨by decide, by decide⟩
theorem wd_le {kd k : Nat} : (wd kd).getD k 0 ≤ 2 := by
  unfold wd
  split <;> (match k with
    | 0 => decide
    | 1 => decide
    | 2 => decide
    | _ + 3 => simp)
theorem wd_zero {kd : Nat} : (wd kd).getD 0 0 = 0 := by
  unfold wd
  split <;> rfl
theorem v522 {n : Int} (h : n = 3 ∨ n = 41) : Valid n [(5, 2, 2)] := by
  refine ⟨by omega, by rcases h with rfl | rfl <;> decide, by decide, fun j hj => ?_, fun j hj => absurd hj (by simp)⟩
  obtain rfl : j = 0 := by have : j < 1 := hj; omega
  exact ⟨by decide +kernel, by decide +kernel, by decide, by decide, by rcases h with rfl | rfl <;> decide⟩
theorem f522 {n : Int} (h : n = 3 ∨ n = 41) : Fits n [(5, 2, 2)] := by rcases h with rfl | rfl <;> decide +kernel
theorem v511 {n : Int} (h : n = 3 ∨ n = 41) : Valid n [(5, 1, 1), (5, 1, 1)] := by
  refine ⟨by omega, by rcases h with rfl | rfl <;> decide, by decide, fun j hj => ?_, fun j hj => ?_⟩
  · have : j = 0 ∨ j = 1 := by have : j < 2 := hj; omega
    rcases this with rfl | rfl
    · exact ⟨by decide +kernel, by decide +kernel, by decide, by decide, by rcases h with rfl | rfl <;> decide⟩
    · exact ⟨by decide +kernel, by decide +kernel, by decide, by decide, by rcases h with rfl | rfl <;> decide⟩
  · have : j = 0 := by have : j + 1 < 2 := hj; omega
    subst this
    decide
theorem f511 {n : Int} (h : n = 3 ∨ n = 41) : ¬ Fits n [(5, 1, 1), (5, 1, 1)] := by rcases h with rfl | rfl <;> decide +kernel
section
variable {K : PySem.W.Frag} {C : Addr} {H : Hp} {x0 u a b : V} {n : Int} {b0 b1 b2 : Bool}
def endW (n : Int) : Str := if n ≤ 40 then Str.ofString "good" else Str.ofString "long"
/-- the summary that is asked -/
def X0 (K : PySem.W.Frag) (C : Addr) (H : Hp) (x0 : V) (n : Int) : Bool → Prop
  | true => ∃ T, Any K H x0 T
  | false => SumV C H x0 n [(5, 2, 2)]
theorem ae (hn : n = 3 ∨ n = 41) : ∃ oc, AskEnd n oc ∧ ocW oc = endW n ∧ ∀ o, oc ≠ .told o := by
  rcases hn with rfl | rfl
  · exact ⟨.good, .inr ⟨by decide, rfl⟩, rfl, fun _ z => nomatch z⟩
  · exact ⟨.long, .inl ⟨by decide, rfl⟩, rfl, fun _ z => nomatch z⟩
def AskD (K : PySem.W.Frag) (C : Addr) (H : Hp) (kd : Nat) (xs : List V) (ws : List Str) : Prop := ∃ oc, AskA K C H kd xs oc ∧ (∀ o, oc = .told o → ∃ u, xs[1]? = some u ∧ ThAt K H u o) ∧ ∃ r, ws = ocW oc :: r
theorem ask_0 (hn : n = 3 ∨ n = 41) (h0 : X0 K C H x0 n b0) (h1 : Ds K C H u 0 b1) : AskD K C H 0 [x0, u] (dueN 0 [b0, b1] 2 ++ [endW n]) := by
  cases b0 with
  | true => exact ⟨.sum, ⟨x0, u, rfl, .inl ⟨rfl, .inl h0⟩⟩, fun _ z => (nomatch z), _, rfl⟩
  | false =>
    cases b1 with
    | true =>
      obtain ⟨T, h⟩ := h1
      exact ⟨.sum, ⟨x0, u, rfl, .inl ⟨rfl, .inr ⟨n, _, T, h0, h⟩⟩⟩, fun _ z => (nomatch z), _, rfl⟩
    | false =>
      obtain ⟨oc, e1, e2, e3⟩ := ae hn
      exact ⟨oc, ⟨x0, u, rfl, .inr ⟨n, 3, _, _, h0, v522 hn, h1, v522 (.inl rfl), .inr ⟨f522 hn, e1⟩⟩⟩, fun o z => absurd z (e3 o), [], by rw [e2]; rfl⟩
theorem ds1_any (h : Ds K C H a 1 b1) : ∃ T, Any K H a T := by
  cases b1 with
  | true => exact h.1
  | false =>
    have h : a = .int (10 ^ 30) := h
    subst h
    exact ⟨_, .int _⟩
theorem ds1_b (h : Ds K C H a 1 b1) : bV a = !b1 := by
  cases b1 with
  | true => exact h.2
  | false =>
    have h : a = .int (10 ^ 30) := h
    subst h
    decide +kernel
theorem ask_1 (hn : n = 3 ∨ n = 41) (h0 : X0 K C H x0 n b0) (h1 : Ds K C H a 1 b1) (h2 : Ds K C H b 1 b2) : AskD K C H 1 [x0, a, b] (dueN 1 [b0, b1, b2] 3 ++ [endW n]) := by
  obtain ⟨A, hA⟩ := ds1_any h1
  obtain ⟨B, hB⟩ := ds1_any h2
  have e1 := ds1_b h1
  have e2 := ds1_b h2
  cases b0 with
  | true => exact ⟨.sum, ⟨x0, a, b, A, B, rfl, hA, hB, .inl ⟨rfl, h0⟩⟩, fun _ z => (nomatch z), _, rfl⟩
  | false =>
    cases b1 with
    | true => exact ⟨.val, ⟨x0, a, b, A, B, rfl, hA, hB, .inr ⟨n, _, h0, v522 hn, .inr ⟨f522 hn, .inl ⟨e1, rfl⟩⟩⟩⟩, fun _ z => (nomatch z), _, rfl⟩
    | false =>
      cases b2 with
      | true => exact ⟨.val, ⟨x0, a, b, A, B, rfl, hA, hB, .inr ⟨n, _, h0, v522 hn, .inr ⟨f522 hn, .inr (.inl ⟨e1, e2, rfl⟩)⟩⟩⟩, fun _ z => (nomatch z), _, rfl⟩
      | false =>
        obtain ⟨oc, a1, a2, a3⟩ := ae hn
        exact ⟨oc, ⟨x0, a, b, A, B, rfl, hA, hB, .inr ⟨n, _, h0, v522 hn, .inr ⟨f522 hn, .inr (.inr ⟨e1, e2, a1⟩)⟩⟩⟩, fun o z => absurd z (a3 o), [], by rw [a2]; rfl⟩
theorem ds2_bad (hn : n = 3 ∨ n = 41) (h : Ds K C H u 2 true) : ∃ o, TBad K H n u o ∧ ThAt K H u o := by
  obtain ⟨o, h1, h2, h3⟩ := h
  rcases hn with rfl | rfl
  · exact ⟨o, h1, h3⟩
  · exact ⟨o, h2, h3⟩
theorem ds2_good (hn : n = 3 ∨ n = 41) (h : Ds K C H u 2 false) : ∃ tl, TP H u tl ∧ ToldOk n tl := by
  obtain ⟨o, h1, h2, h3⟩ := h
  rcases hn with rfl | rfl
  · exact ⟨o, h1, h2⟩
  · exact ⟨o, h1, h3⟩
theorem ask_2 (hn : n = 3 ∨ n = 41) (h0 : X0 K C H x0 n b0) (h1 : Ds K C H u 2 b1) : AskD K C H 2 [x0, u] (dueN 2 [b0, b1] 2 ++ [endW n]) := by
  cases b0 with
  | true => exact ⟨.sum, ⟨x0, u, rfl, .inl ⟨rfl, h0⟩⟩, fun _ z => (nomatch z), _, rfl⟩
  | false =>
    cases b1 with
    | true =>
      obtain ⟨o, t1, t2⟩ := ds2_bad hn h1
      exact ⟨.told o, ⟨x0, u, rfl, .inr ⟨n, _, h0, v522 hn, .inr ⟨f522 hn, .inl ⟨o, t1, rfl⟩⟩⟩⟩, fun o' z => by cases z; exact ⟨u, rfl, t2⟩, _, rfl⟩
    | false =>
      obtain ⟨oc, a1, a2, a3⟩ := ae hn
      obtain ⟨tl, t1, t2⟩ := ds2_good hn h1
      exact ⟨oc, ⟨x0, u, rfl, .inr ⟨n, _, h0, v522 hn, .inr ⟨f522 hn, .inr ⟨tl, t1, t2, a1⟩⟩⟩⟩, fun o z => absurd z (a3 o), [], by rw [a2]; rfl⟩
theorem ask_3 (hn : n = 3 ∨ n = 41) (h0 : X0 K C H x0 n b0) (h1 : Ds K C H u 2 b1) (h2 : Ds K C H a 1 b2) : AskD K C H 3 [x0, u, a] (dueN 3 [b0, b1, b2] 3 ++ [endW n]) := by
  obtain ⟨A, hA⟩ := ds1_any h2
  have e2 := ds1_b h2
  cases b0 with
  | true => exact ⟨.sum, ⟨x0, u, a, A, rfl, hA, .inl ⟨rfl, h0⟩⟩, fun _ z => (nomatch z), _, rfl⟩
  | false =>
    cases b1 with
    | true =>
      obtain ⟨o, t1, t2⟩ := ds2_bad hn h1
      exact ⟨.told o, ⟨x0, u, a, A, rfl, hA, .inr ⟨n, _, h0, v522 hn, .inr ⟨f522 hn, .inl ⟨o, t1, rfl⟩⟩⟩⟩, fun o' z => by cases z; exact ⟨u, rfl, t2⟩, _, rfl⟩
    | false =>
      obtain ⟨tl, t1, t2⟩ := ds2_good hn h1
      cases b2 with
      | true => exact ⟨.val, ⟨x0, u, a, A, rfl, hA, .inr ⟨n, _, h0, v522 hn, .inr ⟨f522 hn, .inr ⟨tl, t1, t2, .inl ⟨e2, rfl⟩⟩⟩⟩⟩, fun _ z => (nomatch z), _, rfl⟩
      | false =>
        obtain ⟨oc, a1, a2, a3⟩ := ae hn
        exact ⟨oc, ⟨x0, u, a, A, rfl, hA, .inr ⟨n, _, h0, v522 hn, .inr ⟨f522 hn, .inr ⟨tl, t1, t2, .inr ⟨e2, a1⟩⟩⟩⟩⟩, fun o z => absurd z (a3 o), [], by rw [a2]; rfl⟩
end
/-- the things that are drawn behind the first -/
def Dsl (K : PySem.W.Frag) (C : Addr) (G : Hp) (kd : Nat) (xs : List V) (bits : List Bool) : Prop := ∀ j x, xs[j]? = some x → Ds K C G x ((wd kd).getD j 0) (bits.getD j false)
theorem Dsl.mono {K : PySem.W.Frag} {C : Addr} {G G' : Hp} {kd : Nat} {xs : List V} {bits : List Bool} (s : Same G G') (h : Dsl K C G kd xs bits) : Dsl K C G' kd xs bits := fun j x e => (h j x e).mono s
theorem Dsl.snoc {K : PySem.W.Frag} {C : Addr} {G : Hp} {kd : Nat} {xs : List V} {bits : List Bool} {x : V} (h : Dsl K C G kd xs bits) (d : Ds K C G x ((wd kd).getD xs.length 0) (bits.getD xs.length false)) : Dsl K C G kd (xs ++ [x]) bits := fun j y e => by
  by_cases c : j < xs.length
  · rw [List.getElem?_append_left c] at e
    exact h j y e
  · rw [List.getElem?_append_right (by omega)] at e
    have : j - xs.length = 0 := by
      cases hj : j - xs.length with
      | zero => rfl
      | succ k => rw [hj] at e; cases e
    rw [this] at e
    cases e
    rw [show j = xs.length by omega]
    exact d
theorem len_two {α : Type} {l : List α} (h : l.length = 2) : ∃ a b, l = [a, b] := by
  match l, h with
  | [a, b], _ => exact ⟨a, b, rfl⟩
theorem len_three {α : Type} {l : List α} (h : l.length = 3) : ∃ a b c, l = [a, b, c] := by
  match l, h with
  | [a, b, c], _ => exact ⟨a, b, c, rfl⟩
/-- the first thing replaced or as drawn -/
theorem ask_any {K : PySem.W.Frag} {C : Addr} {H : Hp} {kd : Nat} {x0 : V} {tl : List V} {b0 : Bool} {br : List Bool} {n : Int} (k3 : kd ≤ 3) (hn : n = 3 ∨ n = 41) (lx : tl.length + 1 = (wd kd).length) (lb : br.length + 1 = (wd kd).length)
    (h0 : X0 K C H x0 n b0) (hd : ∀ j x, tl[j]? = some x → Ds K C H x ((wd kd).getD (j + 1) 0) (br.getD j false)) : AskD K C H kd (x0 :: tl) (dueN kd (b0 :: br) (wd kd).length ++ [endW n]) := by
  match kd, k3 with
  | 0, _ =>
    obtain ⟨u, rfl⟩ := List.length_eq_one_iff.mp (show tl.length = 1 from Nat.succ.inj lx)
    obtain ⟨b1, rfl⟩ := List.length_eq_one_iff.mp (show br.length = 1 from Nat.succ.inj lb)
    exact ask_0 hn h0 (hd 0 u rfl)
  | 1, _ =>
    obtain ⟨u, v, rfl⟩ := len_two (show tl.length = 2 from Nat.succ.inj lx)
    obtain ⟨b1, b2, rfl⟩ := len_two (show br.length = 2 from Nat.succ.inj lb)
    exact ask_1 hn h0 (hd 0 u rfl) (hd 1 v rfl)
  | 2, _ =>
    obtain ⟨u, rfl⟩ := List.length_eq_one_iff.mp (show tl.length = 1 from Nat.succ.inj lx)
    obtain ⟨b1, rfl⟩ := List.length_eq_one_iff.mp (show br.length = 1 from Nat.succ.inj lb)
    exact ask_2 hn h0 (hd 0 u rfl)
  | 3, _ =>
    obtain ⟨u, v, rfl⟩ := len_two (show tl.length = 2 from Nat.succ.inj lx)
    obtain ⟨b1, b2, rfl⟩ := len_two (show br.length = 2 from Nat.succ.inj lb)
    exact ask_3 hn h0 (hd 0 u rfl) (hd 1 v rfl)
/-- the first thing replaced by a summary that no row leaves -/
theorem ask_non {K : PySem.W.Frag} {C : Addr} {H : Hp} {kd : Nat} {x0 : V} {tl : List V} {br : List Bool} {n : Int} (k3 : kd ≤ 3) (hn : n = 3 ∨ n = 41) (lx : tl.length + 1 = (wd kd).length)
    (h0 : SumV C H x0 n [(5, 1, 1), (5, 1, 1)]) (hd : ∀ j x, tl[j]? = some x → Ds K C H x ((wd kd).getD (j + 1) 0) (br.getD j false)) (hb : kd = 0 → br.getD 0 false = false) : AskD K C H kd (x0 :: tl) [Str.ofString "none"] := by
  match kd, k3 with
  | 0, _ =>
    obtain ⟨u, rfl⟩ := List.length_eq_one_iff.mp (show tl.length = 1 from Nat.succ.inj lx)
    have h1 := hd 0 u rfl
    rw [hb rfl] at h1
    exact ⟨.non, ⟨x0, u, rfl, .inr ⟨n, 3, _, _, h0, v511 hn, h1, v522 (.inl rfl), .inl ⟨f511 hn, rfl⟩⟩⟩, fun _ z => (nomatch z), [], rfl⟩
  | 1, _ =>
    obtain ⟨u, v, rfl⟩ := len_two (show tl.length = 2 from Nat.succ.inj lx)
    obtain ⟨A, hA⟩ := ds1_any (hd 0 u rfl)
    obtain ⟨B, hB⟩ := ds1_any (hd 1 v rfl)
    exact ⟨.non, ⟨x0, u, v, A, B, rfl, hA, hB, .inr ⟨n, _, h0, v511 hn, .inl ⟨f511 hn, rfl⟩⟩⟩, fun _ z => (nomatch z), [], rfl⟩
  | 2, _ =>
    obtain ⟨u, rfl⟩ := List.length_eq_one_iff.mp (show tl.length = 1 from Nat.succ.inj lx)
    exact ⟨.non, ⟨x0, u, rfl, .inr ⟨n, _, h0, v511 hn, .inl ⟨f511 hn, rfl⟩⟩⟩, fun _ z => (nomatch z), [], rfl⟩
  | 3, _ =>
    obtain ⟨u, v, rfl⟩ := len_two (show tl.length = 2 from Nat.succ.inj lx)
    obtain ⟨A, hA⟩ := ds1_any (hd 1 v rfl)
    exact ⟨.non, ⟨x0, u, v, A, rfl, hA, .inr ⟨n, _, h0, v511 hn, .inl ⟨f511 hn, rfl⟩⟩⟩, fun _ z => (nomatch z), [], rfl⟩
end SR

set_option Elab.async false
set_option linter.all false
set_option maxRecDepth 100000
set_option maxHeartbeats 4000000
/-! Questions of the further points refused: the law. -/
namespace SR
open PySem PySem.Spec PyProof.Rows L2

section
variable {P : Program} {w : World} {K : PySem.W.Frag} {mg : Str → Option Value} {base : Heap} {C C_BadSummary C_NoRow C_TooLong C_BadValue C_BadTold fI : Addr}
theorem sc_law : FnScope ["_law_script", "_law_h", "_law_asked", "_law_kind", "_law_turn", "_law_words", "_law_wrong", "_law_t", "_law_k", "_law_due", "_law_state", "_law_word"] ["_law_script"] (defScope s_law) := ⟨rfl, rfl, rfl, by decide +kernel, rfl, by decide +kernel, by decide +kernel⟩
set_option maxHeartbeats 32000000 in
theorem ok_law {f : Addr} {fd : FuncData} (F : Fun K "law" "law" s_law f fd)  (D__law_mix : Dn P w K mg base "_law_mix" ["_law_script", "_law_seed"] 1 (spMix K)) (D__law_next : Dn P w K mg base "_law_next" ["_law_h", "_law_bound"] 1 (spNext)) (m_range : mg "range" = none) (m_len : mg "len" = none) (D__law_bad_one : Dn P w K mg base "_law_bad_one" ["_law_h", "_law_name"] 9 (spBad K C)) (D__law_good_one : Dn P w K mg base "_law_good_one" ["_law_name"] 9 (spGood K C)) (T : SumT K mg C) (DS : DnMk P w K mg base C) (D__law_told : Dn P w K mg base "_law_told" ["_law_kind", "_law_t", "_law_turn"] 16 (spTold K C))  : FnOk P w K mg base CX0 17 f fd ["_law_script"] (spLaw K) := by
  refine F.ok sc_law (fun vs H Q E h => ?_) (fun cdv A outer s H vs Q E hr h => ?_)
  · obtain ⟨a, ns, rfl, _⟩ := h
    rfl
  · obtain ⟨a, ns, rfl, hS, h63, k⟩ := h
    have nd := sc_law.nd
    have hr1 : Room 1 _ := hr.mono (by decide)
    have hr7 : Room 7 _ := hr.mono (by decide)
    have hr9 : Room 9 _ := hr.mono (by decide)
    have hr16 : Room 16 _ := hr.mono (by decide)
    refine ⟨_, pss_cons (ps_set (i := 1) nd rfl (Or.inr rfl) (pe_dn D__law_mix hr1 (pa_cons (pv 0) (pa_cons pe_int pa_nil))))
        (pss_cons (ps_set (i := 2) nd rfl (Or.inl rfl) (pe_lst (pa_cons (pe_lst (pa_cons pe_str (pa_cons pe_str pa_nil))) (pa_cons (pe_lst (pa_cons pe_str (pa_cons pe_str (pa_cons pe_str pa_nil)))) (pa_cons (pe_lst (pa_cons pe_str (pa_cons pe_str pa_nil))) pa_nil)))))
        (pss_cons (ps_expr (pe_bm PySem.F.plainAttrs_list PySem.F.slot_list_append PySem.F.type_list_append mt_append (pv 2) (pa_cons (pe_lst (pa_cons pe_str (pa_cons pe_str (pa_cons pe_str pa_nil)))) pa_nil)))
        (pss_cons (ps_par (i := 3) (j := 4) rfl nd rfl rfl (by decide) rfl rfl (pa_cons (pe_dn D__law_next hr1 (pa_cons (pv 1) (pa_cons pe_int pa_nil))) (pa_cons (pe_dn D__law_next hr1 (pa_cons (pv 1) (pa_cons pe_int pa_nil))) pa_nil)) (by rfl))
        (pss_cons (ps_set (i := 5) nd rfl (Or.inr rfl) (pe_ix ix_list (pv 2) (pv 3) (fun _ _ => rfl)))
        (pss_cons (ps_set (i := 6) nd rfl (Or.inr rfl) (pe_lc (own := [("_law_word", 11)]) (g := gName 11) (tt := tYes) (te := tOp (rEq) (tCall (spNext) [] E0 (tCons (tVar 1) (tCons (tC (.int 3)) tNil))) (tC (.int 0))) rfl nd (pi_list (pv 5)) (blkOk_by (own := [("_law_word", 11)]) (N := ["_law_script", "_law_h", "_law_asked", "_law_kind", "_law_turn", "_law_words", "_law_wrong", "_law_t", "_law_k", "_law_due", "_law_state", "_law_word"]) (sc := defScope s_law) (by decide +kernel)) (fun _ _ _ _ _ => (pg_name (i := 11) nd rfl (Or.inl rfl))) (fun _ _ _ _ _ => pts_nil) (fun _ _ _ _ _ => (pe_cmpR op_eq (pe_dn D__law_next hr1 (pa_cons (pv 1) (pa_cons pe_int pa_nil))) pe_int (nomark _)))))
        (pss_cons (ps_set (i := 7) nd rfl (Or.inl rfl) (pe_lst pa_nil))
        (pss_cons (ps_for PassesOwn.never rfl (pi_range1 (by rfl) m_range (pa_cons (pe_callB call_len_seq (by rfl) m_len PySem.boot_len (pa_cons (pv 5) pa_nil)) pa_nil)) (pg_name (i := 8) nd rfl (Or.inl rfl))
        (pss_one (ps_expr (pe_bm PySem.F.plainAttrs_list PySem.F.slot_list_append PySem.F.type_list_append mt_append (pv 7) (pa_cons (pe_ifExp (pt_val (pe_ix ix_list (pv 6) (pv 8) (fun _ _ => rfl))) (pe_dn D__law_bad_one hr9 (pa_cons (pv 1) (pa_cons (pe_ix ix_list (pv 5) (pv 8) (fun _ _ => rfl)) pa_nil))) (pe_dn D__law_good_one hr9 (pa_cons (pe_ix ix_list (pv 5) (pv 8) (fun _ _ => rfl)) pa_nil))) pa_nil)))))
        (pss_cons (ps_set (i := 9) nd rfl (Or.inl rfl) (pe_op op_cat (pe_lc (own := [("_law_k", 8)]) (g := gName 8) (tt := tB (tOp (rIxL K) (tVar 6) (tVar 8))) (te := tOp (rIxL K) (tVar 5) (tVar 8)) rfl nd (pi_range1 (by rfl) m_range (pa_cons (pe_callB call_len_seq (by rfl) m_len PySem.boot_len (pa_cons (pv 5) pa_nil)) pa_nil)) (blkOk_by (own := [("_law_k", 8)]) (N := ["_law_script", "_law_h", "_law_asked", "_law_kind", "_law_turn", "_law_words", "_law_wrong", "_law_t", "_law_k", "_law_due", "_law_state", "_law_word"]) (sc := defScope s_law) (by decide +kernel)) (fun _ _ _ _ _ => (pg_name (i := 8) nd rfl (Or.inl rfl))) (fun _ _ _ _ _ => (pts_one (pt_val (pe_ix ix_list (pv 6) (pv 8) (fun _ _ => rfl))))) (fun _ _ _ _ _ => (pe_ix ix_list (pv 5) (pv 8) (fun _ _ => rfl)))) (pe_lst (pa_cons pe_str pa_nil))))
        (pss_cons (ps_set (i := 10) nd rfl (Or.inl rfl) (pe_dn D__law_next hr1 (pa_cons (pv 1) (pa_cons pe_int pa_nil))))
        (pss_cons (ps_if (PW.pt (pw_and (pt_cmpR op_eq (pv 10) pe_int (nomark _)) (pw_and (pt_not (pt_val (pe_ix ix_list (pv 6) pe_int (fun _ _ => rfl)))) (pw_and1 (PW.pt (pw_or (pt_cmpR op_gt (pv 3) pe_int (nomark _)) (pw_or1 (pt_not (pt_val (pe_ix ix_list (pv 6) pe_int (fun _ _ => rfl))))))))))) (pss_one (ps_asg (pe_tup (pa_cons (pe_mkS DS T hr7 (pa_cons pe_int (pa_cons (pe_tup (pa_cons (pe_tup (pa_cons pe_int (pa_cons pe_int (pa_cons pe_int pa_nil)))) (pa_cons (pe_tup (pa_cons pe_int (pa_cons pe_int (pa_cons pe_int pa_nil)))) pa_nil))) pa_nil))) (pa_cons (pe_lst (pa_cons pe_str pa_nil)) pa_nil))) (pg_tup rfl (pgs_cons (pg_sub (pv 7) pe_int set_list) (pgs_cons (pg_name (i := 9) nd rfl (Or.inl rfl)) pgs_nil))))) pss_nil)
        (pss_cons (ps_if (PW.pt (pw_and (pt_cmpR op_eq (pv 10) pe_int (nomark _)) (pw_and (pt_not (pt_val (pe_ix ix_list (pv 6) pe_int (fun _ _ => rfl)))) (pw_and1 (PW.pt (pw_or (pt_cmpR op_gt (pv 3) pe_int (nomark _)) (pw_or1 (pt_not (pt_val (pe_ix ix_list (pv 6) pe_int (fun _ _ => rfl))))))))))) (pss_one (ps_asg (pe_tup (pa_cons (pe_mkS DS T hr7 (pa_cons pe_int (pa_cons (pe_tup (pa_cons (pe_tup (pa_cons pe_int (pa_cons pe_int (pa_cons pe_int pa_nil)))) (pa_cons (pe_tup (pa_cons pe_int (pa_cons pe_int (pa_cons pe_int pa_nil)))) pa_nil))) pa_nil))) (pa_cons (pe_lst (pa_cons pe_str pa_nil)) pa_nil))) (pg_tup rfl (pgs_cons (pg_sub (pv 7) pe_int set_list) (pgs_cons (pg_name (i := 9) nd rfl (Or.inl rfl)) pgs_nil))))) pss_nil)
        (pss_cons (ps_if (PW.pt (pw_and (pt_cmpR op_eq (pv 10) pe_int (nomark _)) (pw_and1 (pt_not (pt_val (pe_ix ix_list (pv 6) pe_int (fun _ _ => rfl))))))) (pss_one (ps_asg (pe_tup (pa_cons (pe_mkS DS T hr7 (pa_cons pe_int (pa_cons (pe_tup (pa_cons (pe_tup (pa_cons pe_int (pa_cons pe_int (pa_cons pe_int pa_nil)))) pa_nil)) pa_nil))) (pa_cons (pe_op op_cat (pe_slice sl_list (pv 9) po_none (po_some (pe_un un_neg pe_int))) (pe_lst (pa_cons pe_str pa_nil))) pa_nil))) (pg_tup rfl (pgs_cons (pg_sub (pv 7) pe_int set_list) (pgs_cons (pg_name (i := 9) nd rfl (Or.inl rfl)) pgs_nil))))) pss_nil)
        (pss_one (ps_ret (pe_cmpR (op_eqD hr.units) (pe_dn D__law_told hr16 (pa_cons (pv 3) (pa_cons (pv 7) (pa_cons (pv 4) pa_nil)))) (pe_slice sl_list (pv 9) po_none (po_some pe_int)) (nomark _)))))))))))))))), ?_⟩
    have l1 : 1 ≤ sizeLine := by show 1 ≤ sizeLine; decide
    have l2 : 2 ≤ sizeLine := by show 2 ≤ sizeLine; decide
    have l3 : 3 ≤ sizeLine := by show 3 ≤ sizeLine; decide
    have sz1 : ∀ {n : Nat}, n ≤ 3 → n + 1 ≤ sizeLine := fun h => Nat.le_trans (Nat.succ_le_succ h) (by show 4 ≤ sizeLine; decide)
    refine ⟨_, rfl, a, ns, 17, rfl, hS, h63, by decide, by decide, fun H1 p c s1 np nc D1 => ?_⟩
    dsimp only [gName]
    refine ⟨l2, fun w0 n0 => ?_⟩
    obtain ⟨Ga, ea, ta, a0⟩ := one_new (o := .lst [.str (Str.ofString "summary"), .str (Str.ofString "summary")]) n0
    rw [ea]
    clear ea
    refine ⟨l3, fun w1 n1 => ?_⟩
    obtain ⟨Gb, eb, tb, a1⟩ := one_new (o := .lst [.str (Str.ofString "summary"), .str (Str.ofString "value"), .str (Str.ofString "value")]) n1
    rw [eb]
    clear eb
    refine ⟨l2, fun w2 n2 => ?_⟩
    obtain ⟨Gc, ec, tc, a2⟩ := one_new (o := .lst [.str (Str.ofString "summary"), .str (Str.ofString "told")]) n2
    rw [ec]
    clear ec
    refine ⟨l3, fun q nq => ?_⟩
    obtain ⟨Gd, ed, td, aq⟩ := one_new (o := .lst [.ref w0, .ref w1, .ref w2]) nq
    rw [ed]
    clear ed
    refine ⟨_, rfl, .inl ⟨rfl, _, SqL.of aq⟩, l3, fun w3 n3 => ?_⟩
    obtain ⟨Ge, ee, te, a3⟩ := one_new (o := .lst [.str (Str.ofString "summary"), .str (Str.ofString "told"), .str (Str.ofString "value")]) n3
    rw [ee]
    clear ee
    have aq := te _ _ aq
    refine ⟨q, _, _, rfl, rfl, aq, by show 3 + 1 ≤ sizeLine; decide, ?_⟩
    have s2 : Same H1 Ge := (((ta.trans tb).trans tc).trans td).trans te
    have nqH : H1 q = none := ((ta.trans tb).trans tc).free nq
    have b0 := te _ _ (td _ _ (tc _ _ (tb _ _ a0)))
    have b1 := te _ _ (td _ _ (tc _ _ a1))
    have b2 := te _ _ (td _ _ a2)
    have fw0 := D1.fresh n0
    have fw1 := (D1.mono ta).fresh n1
    have fw2 := (D1.mono (ta.trans tb)).fresh n2
    have fw3 := (D1.mono (((ta.trans tb).trans tc).trans td)).fresh n3
    have fq := D1.fresh nqH
    obtain ⟨HA, eA⟩ : ∃ HA, upd Ge q (.lst ([.ref w0, .ref w1, .ref w2] ++ [.ref w3])) = HA := ⟨_, rfl⟩
    have sA : Same H1 HA := by rw [← eA]; exact Same_mut s2 nqH
    have cA : ∀ z o, z ≠ q → Ge z = some o → HA z = some o := fun z o h e => by rw [← eA, upd_ne h]; exact e
    have cq : HA q = some (.lst [.ref w0, .ref w1, .ref w2, .ref w3]) := by rw [← eA]; exact upd_same
    rw [eA]
    clear eA
    have nl : ∀ {z : Addr} {xs : List Str}, Ge z = some (.lst (xs.map V.str)) → xs ≠ [] → z ≠ q := fun {z xs} h hx e => by
      subst e
      have z := h.symm.trans aq
      cases xs with
      | nil => exact hx rfl
      | cons x t => cases z
    have c0 := cA _ _ (nl (xs := [Str.ofString "summary", Str.ofString "summary"]) b0 (fun z => nomatch z)) b0
    have c1 := cA _ _ (nl (xs := [Str.ofString "summary", Str.ofString "value", Str.ofString "value"]) b1 (fun z => nomatch z)) b1
    have c2 := cA _ _ (nl (xs := [Str.ofString "summary", Str.ofString "told"]) b2 (fun z => nomatch z)) b2
    have c3 := cA _ _ (nl (xs := [Str.ofString "summary", Str.ofString "told", Str.ofString "value"]) a3 (fun z => nomatch z)) a3
    have DA := D1.mono sA
    clear b0 b1 b2 a0 a1 a2 a3 n0 n1 n2 nq n3 ta tb tc td te aq nl cA
    -- the kind, the turn
    refine ⟨_, rfl, p, c, 4, rfl, DA, by decide, by decide, fun HB rk k0 k1 DB sB => ?_⟩
    refine ⟨_, rfl, p, c, 4, rfl, DB, by decide, by decide, fun HC rt t0 t1 DC sC => ?_⟩
    obtain ⟨kd, rfl⟩ : ∃ kd : Nat, rk = (kd : Int) := ⟨rk.toNat, by omega⟩
    obtain ⟨tn, rfl⟩ : ∃ tn : Nat, rt = (tn : Int) := ⟨rt.toNat, by omega⟩
    have k3 : kd ≤ 3 := by omega
    have t10 : tn ≤ 10 := by omega
    have sAC := sB.trans sC
    obtain ⟨W, hat, hW, fW⟩ : ∃ W, atI [V.ref w0, V.ref w1, V.ref w2, V.ref w3] (kd : Int) = some (.ref W) ∧ HC W = some (.lst ((wd kd).map fun m => V.str (nmS m))) ∧ (W ≠ p ∧ W ≠ c) := by
      match kd, k3 with
      | 0, _ => exact ⟨w0, rfl, sAC.at c0 fw0, fw0⟩
      | 1, _ => exact ⟨w1, rfl, sAC.at c1 fw1, fw1⟩
      | 2, _ => exact ⟨w2, rfl, sAC.at c2 fw2, fw2⟩
      | 3, _ => exact ⟨w3, rfl, sAC.at c3 fw3, fw3⟩
    have cqC := sAC.at cq fq
    dsimp only [tNil]
    refine ⟨_, _, rfl, ?_⟩
    refine st_eq (σ' := [some (.ref a), some (.ref p), some (.ref q), some (.int kd), some (.int tn), none, none, none, none, none, none, none]) rfl ?_
    refine ⟨_, rfl, _, rfl, q, _, _, _, rfl, rfl, SqL.of cqC, hat, ?_⟩
    dsimp only [gName]
    refine st_eq (σ' := [some (.ref a), some (.ref p), some (.ref q), some (.int kd), some (.int tn), some (.ref W), none, none, none, none, none, none]) rfl ?_
    have wl := wd_len k3
    -- which are wrong
    refine ⟨_, rfl, W, rfl, ⟨_, SqL.of hW⟩, fun B nB => ?_⟩
    have fB := DC.fresh nB
    refine lc_list (K := K) (a := W) (xs := (wd kd).map fun m => V.str (nmS m)) (fun i H' => ∃ bits : List Bool, bits.length = i ∧ H' B = some (.lst (bits.map V.bl)) ∧ DrawAt H' p c ∧ SameD p c HC H') ⟨[], rfl, upd_same, DC.mono (Same_new nB), sameD_of (Same_new nB)⟩ (fun i H' _ ⟨_, _, _, _, s5⟩ => SqL.of (s5.at hW fW)) ?_ ?_
    · rintro i y H' hy ⟨bits, hbl, hB, D5, s5⟩
      have hi : i < (wd kd).length := by
        have := (List.getElem?_eq_some_iff.mp hy).1
        rwa [List.length_map] at this
      refine ⟨rfl, tyes_of ?_⟩
      rw [if_pos rfl]
      refine ⟨_, rfl, p, c, 3, rfl, D5, by decide, by decide, fun H6 r r0 r1 D6 s6 => ?_⟩
      refine ⟨rfl, bits.map V.bl, s6.at hB fB, by rw [List.length_map]; exact small1000 (by omega), bits ++ [decide (V.int r = V.int 0)], by rw [List.length_append, hbl]; rfl, ?_, draw_mut D6 fB, (s5.trans s6).mut nB⟩
      rw [upd_same, List.map_append]
      rfl
    rintro HD ⟨bits, hbl, hB, DD, sD⟩
    rw [List.length_map] at hbl
    dsimp only [gName]
    refine st_eq (σ' := [some (.ref a), some (.ref p), some (.ref q), some (.int kd), some (.int tn), some (.ref W), some (.ref B), none, none, none, none, none]) rfl ?_
    have hW := sD.at hW fW
    refine ⟨Nat.zero_le _, fun T nT => ?_⟩
    have fT := DD.fresh nT
    have BT : B ≠ T := fun z => by subst z; rw [hB] at nT; cases nT
    obtain ⟨HE, eE, tE, hT⟩ := one_new (o := .lst []) nT
    rw [eE]
    clear eE
    dsimp only [gName]
    refine st_eq (σ' := [some (.ref a), some (.ref p), some (.ref q), some (.int kd), some (.int tn), some (.ref W), some (.ref B), some (.ref T), none, none, none, none]) rfl ?_
    have atB : ∀ i, i < (wd kd).length → (bits.map V.bl)[i]? = some (.bl (bits.getD i false)) := fun i hi => by
      rw [List.getElem?_map, List.getD_eq_getElem?_getD, List.getElem?_eq_getElem (by omega)]
      rfl
    have atW : ∀ i, i < (wd kd).length → ((wd kd).map fun m => V.str (nmS m))[i]? = some (.str (nmS ((wd kd).getD i 0))) := fun i hi => by
      rw [List.getElem?_map, List.getD_eq_getElem?_getD, List.getElem?_eq_getElem hi]
      rfl
    have lists : ∀ {H' : Hp} {xs : List V}, DrawAt H' p c → H' T = some (.lst xs) → Lists H' [p, c, T] := fun {H' xs} d h b hb => by
      obtain ⟨s', i', cs', h1, h2, _⟩ := d
      simp only [List.mem_cons, List.not_mem_nil, or_false] at hb
      rcases hb with rfl | rfl | rfl
      · exact ⟨_, h1⟩
      · exact ⟨_, h2⟩
      · exact ⟨_, h⟩
    have mp : p ∈ [p, c, T] := List.mem_cons_self
    have mc : c ∈ [p, c, T] := List.mem_cons_of_mem _ List.mem_cons_self
    have mT : ∀ {H' : Hp} {o : HO}, Same (minus H' [p, c, T]) (minus (upd H' T o) [p, c, T]) := fun {H' o} => minus_but fun b o' hb e => by
      have : b ≠ T := fun z => hb (by subst z; simp)
      rw [upd_ne this]
      exact e
    -- the things
    refine ⟨_, rfl, W, _, rfl, .inl (SqL.of (tE _ _ hW)), _, rfl, by rw [List.length_map]; omega, by rw [List.length_map]; omega, ?_⟩
    rw [List.length_map]
    refine for_range (lo := 0) (n := (((wd kd).length : Nat) : Int).toNat) (fun i σ H' => ∃ (xs : List V) (y8 : Option V), σ = [some (.ref a), some (.ref p), some (.ref q), some (.int kd), some (.int tn), some (.ref W), some (.ref B), some (.ref T), y8, none, none, none] ∧ H' T = some (.lst xs) ∧ xs.length = i ∧ DrawAt H' p c ∧ SameD p c HD H' ∧ Dsl K C (minus H' [p, c, T]) kd xs bits)
      ⟨[], none, rfl, hT, rfl, DD.mono tE, sameD_of tE, fun j x e => by cases e⟩ ?_ ?_
    · rintro i σ H' hi' ⟨xs, y8, rfl, hT, hxl, D5, s5, hds⟩
      have hi : i < (wd kd).length := by omega
      have hB5 := s5.at hB fB
      have hW5 := s5.at hW fW
      have bi := atB i hi
      have wi := atW i hi
      have L5 := lists D5 hT
      dsimp only [gName]
      refine st_eq (σ' := [some (.ref a), some (.ref p), some (.ref q), some (.int kd), some (.int tn), some (.ref W), some (.ref B), some (.ref T), some (.int (0 + (i : Int))), none, none, none]) rfl ?_
      refine ⟨_, rfl, .inl ⟨rfl, _, SqL.of hT⟩, ?_⟩
      refine ⟨_, rfl, _, rfl, B, _, _, _, rfl, rfl, SqL.of hB5, at_of (j := i) (by omega) bi, _, rfl, ?_⟩
      have fin : ∀ H6 v, SameD p c H' H6 → DrawAt H6 p c → Ds K C (minus H6 [p, c, T]) v ((wd kd).getD i 0) (bits.getD i false) → H6 T = some (.lst xs) ∧ ∃ (xs' : List V) (y8 : Option V), [some (V.ref a), some (.ref p), some (.ref q), some (.int kd), some (.int tn), some (.ref W), some (.ref B), some (.ref T), some (.int (0 + (i : Int))), none, none, none] = [some (.ref a), some (.ref p), some (.ref q), some (.int kd), some (.int tn), some (.ref W), some (.ref B), some (.ref T), y8, none, none, none] ∧ upd H6 T (.lst (xs ++ [v])) T = some (.lst xs') ∧ xs'.length = i + 1 ∧ DrawAt (upd H6 T (.lst (xs ++ [v]))) p c ∧ SameD p c HD (upd H6 T (.lst (xs ++ [v]))) ∧ Dsl K C (minus (upd H6 T (.lst (xs ++ [v]))) [p, c, T]) kd xs' bits := by
        intro H6 v s6 D6 d6
        refine ⟨s6.at hT fT, xs ++ [v], _, rfl, upd_same, by rw [List.length_append, hxl]; rfl, draw_mut D6 fT, (s5.trans s6).mut nT, ?_⟩
        rw [← hxl] at d6
        exact ((hds.mono (minus_D mp mc s6)).snoc d6).mono mT
      cases hb : bits.getD i false with
      | true =>
        rw [hb] at fin
        refine iteT ⟨_, rfl, _, rfl, _, rfl, W, _, _, _, rfl, rfl, SqL.of hW5, at_of (j := i) (by omega) wi, p, c, _, [p, c, T], rfl, wd_le, D5, mp, mc, L5, fun H6 v s6 D6 d6 => ?_⟩
        obtain ⟨h6, f6⟩ := fin H6 v s6 D6 d6
        exact ⟨T, _, _, rfl, rfl, h6, by omega, f6⟩
      | false =>
        rw [hb] at fin
        refine iteF ⟨_, rfl, _, rfl, W, _, _, _, rfl, rfl, SqL.of hW5, at_of (j := i) (by omega) wi, _, [p, c, T], rfl, wd_le, L5, fun H6 v s6 d6 => ?_⟩
        obtain ⟨h6, f6⟩ := fin H6 v (sameD_of s6) (D5.mono s6) d6
        exact ⟨T, _, _, rfl, rfl, h6, by omega, f6⟩
    rintro σ HF ⟨xs, y8, rfl, hT, hxl, DF, sF, hds⟩
    have hxl : xs.length = (wd kd).length := by omega
    have hB := sF.at hB fB
    have hW := sF.at hW fW
    -- what is due
    refine ⟨_, rfl, W, _, rfl, .inl (SqL.of hW), _, rfl, by rw [List.length_map]; omega, by rw [List.length_map]; omega, fun D nD => ?_⟩
    rw [List.length_map]
    refine lc_range (lo := 0) (n := (((wd kd).length : Nat) : Int).toNat) (fun i H' => H' D = some (.lst ((dueN kd bits i).map V.str)) ∧ Same HF H') ⟨upd_same, Same_new nD⟩ ?_ ?_
    · rintro i H' hi' ⟨hD, s5⟩
      have hi : i < (wd kd).length := by omega
      refine ⟨rfl, ?_⟩
      refine ⟨_, rfl, _, rfl, B, _, _, _, rfl, rfl, SqL.of (s5 _ _ hB), at_of (j := i) (by omega) (atB i hi), _, rfl, ?_⟩
      cases hb : bits.getD i false with
      | true =>
        refine iteT ⟨_, rfl, _, rfl, W, _, _, _, rfl, rfl, SqL.of (s5 _ _ hW), at_of (j := i) (by omega) (atW i hi), _, hD, ?_, ?_, Same_mut s5 nD⟩
        · rw [List.length_map]
          have := dueN_len kd bits i
          exact small1000 (by omega)
        · rw [upd_same, dueN_snoc, hb, if_pos rfl, List.map_append]
          rfl
      | false =>
        refine iteF ⟨?_, s5⟩
        rw [dueN_snoc, hb, if_neg Bool.false_ne_true, List.append_nil]
        exact hD
    rintro HG0 ⟨hD, sG0⟩
    rw [show ((((wd kd).length : Nat) : Int).toNat) = (wd kd).length by omega] at hD
    have dl := dueN_len kd bits (wd kd).length
    refine ⟨l1, fun G nG => ⟨D, G, _, _, rfl, rfl, Same_new nG _ _ hD, upd_same, by rw [List.length_map]; exact sz1 (by omega), fun Z nZ => ?_⟩⟩
    obtain ⟨HG, eG, tG, aG, hZ, mZ⟩ := pair_new (o2 := .lst ((dueN kd bits (wd kd).length).map V.str ++ [.str (Str.ofString "good")])) nG nZ
    rw [eG]
    clear eG nZ
    have sG := sG0.trans tG
    have DG := DF.mono sG
    have fZ := (DF.mono sG0).fresh mZ
    have ZT : Z ≠ T := fun z => by subst z; rw [sG0 _ _ hT] at mZ; cases mZ
    have hZ : HG Z = some (.lst ((dueN kd bits (wd kd).length ++ [Str.ofString "good"]).map V.str)) := by rw [hZ, List.map_append]; rfl
    dsimp only [gName]
    refine st_eq (σ' := [some (.ref a), some (.ref p), some (.ref q), some (.int kd), some (.int tn), some (.ref W), some (.ref B), some (.ref T), y8, some (.ref Z), none, none]) rfl ?_
    refine ⟨_, rfl, p, c, 4, rfl, DG, by decide, by decide, fun HH rs r0 r1 DH sH => ?_⟩
    dsimp only [gName]
    refine st_eq (σ' := [some (.ref a), some (.ref p), some (.ref q), some (.int kd), some (.int tn), some (.ref W), some (.ref B), some (.ref T), y8, some (.ref Z), some (.int rs), none]) rfl ?_
    have hT := sH.at (sG _ _ hT) fT
    have hB := sH.at (sG _ _ hB) fB
    have hZ := sH.at hZ fZ
    have hds := hds.mono ((minus_same (S := [p, c, T]) sG).trans (minus_D mp mc sH))
    obtain ⟨b0, b1, br, eb⟩ : ∃ b0 b1 br, bits = b0 :: b1 :: br := by
      match bits, hbl with
      | b0 :: b1 :: br, _ => exact ⟨b0, b1, br, rfl⟩
      | [_], h => have h : 1 = (wd kd).length := h; omega
      | [], h => have h : 0 = (wd kd).length := h; omega
    obtain ⟨x0, tl, ex⟩ : ∃ x0 tl, xs = x0 :: tl := by
      match xs, hxl with
      | x0 :: tl, _ => exact ⟨x0, tl, rfl⟩
      | [], h => have h : 0 = (wd kd).length := h; omega
    subst eb ex
    clear atB atW sF sG0 sG hW nT nD nG
    have ds0 : Ds K C (minus HH [p, c, T]) x0 0 b0 := by
      have := hds 0 x0 rfl
      rwa [wd_zero] at this
    have dst : ∀ j x, tl[j]? = some x → Ds K C (minus HH [p, c, T]) x ((wd kd).getD (j + 1) 0) ((b1 :: br).getD j false) := fun j x e => hds (j + 1) x e
    have lx : tl.length + 1 = (wd kd).length := hxl
    have lb : (b1 :: br).length + 1 = (wd kd).length := hbl
    -- the end
    have last : ∀ (H' : Hp) (xs' : List V) (ws : List Str) (Qk : VK), H' T = some (.lst xs') → AskD K C H' kd xs' ws → (∀ H2 p2 oc r, ws = ocW oc :: r → Same H' H2 → H2 p2 = some (.lst [.str (ocW oc)]) → Qk (.ref p2) H2) → spTold K C [.int (kd : Int), .ref T, .int (tn : Int)] H' Qk E0 := by
      rintro H' xs' ws Qk hT ⟨oc, hA, hth, r, e⟩ kq
      exact ⟨kd, tn, T, xs', oc, rfl, hT, k3, t10, hA, hth, fun H2 p2 s2 h2 => kq H2 p2 oc r e s2 h2⟩
    have last2 : ∀ (H2 : Hp) (p2 Z' : Addr) (oc : Oc) (r : List Str), H2 p2 = some (.lst [.str (ocW oc)]) → H2 Z' = some (.lst ((ocW oc :: r).map V.str)) → rSlL K (.ref Z') none (some 1) H2 fun y H3 => rEqD K (.ref p2) y H3 Q := by
      intro H2 p2 Z' oc r h2 hz
      refine ⟨Z', _, rfl, SqL.of hz, fun z nz => ?_⟩
      rw [show cutV ((ocW oc :: r).map V.str) none (some 1) = [.str (ocW oc)] from cut_to (t := 1) (Nat.succ_le_succ (Nat.zero_le _))]
      have tz := Same_new (o := .lst [.str (ocW oc)]) nz
      refine ⟨.list [.str (ocW oc)], .list [.str (ocW oc)], .lst (SqL.of (tz _ _ h2)) (.cons (.str _) .nil), .lst (SqL.of upd_same) (.cons (.str _) .nil), shaped_s1 oc, shaped_s1 oc, ?_⟩
      rw [eqv_s1]
      exact k _
    have cnd : ∀ (m : Int) (Z' : Addr) (H' : Hp) (Qb : Bool → Hp → Prop), H' B = some (.lst ((b0 :: b1 :: br).map V.bl)) → Qb (decide (V.int rs = V.int m) && (!b0 && (decide ((0 : Int) < (kd : Int)) || !b1))) H' →
        tAnd (tTest (tOp rEq (tVar 10) (tC (V.int m)))) (tAnd (tNot (tB (tOp (rIxL K) (tVar 6) (tC (V.int 0))))) (tOr (tTest (tOp (rI0 fun i j => V.bl (decide (j < i))) (tVar 3) (tC (V.int 0)))) (tNot (tB (tOp (rIxL K) (tVar 6) (tC (V.int 1)))))))
          [some (.ref a), some (.ref p), some (.ref q), some (.int kd), some (.int tn), some (.ref W), some (.ref B), some (.ref T), y8, some (.ref Z'), some (.int rs), none] H' Qb := by
      intro m Z' H' Qb hB' q
      refine ⟨_, rfl, rfl, _, rfl, ?_⟩
      cases hm : decide (V.int rs = V.int m) with
      | false => rw [hm] at q; exact iteF q
      | true =>
        rw [hm] at q
        refine iteT ⟨_, rfl, B, _, 0, _, rfl, rfl, SqL.of hB', at_of (j := 0) rfl rfl, _, rfl, ?_⟩
        cases b0 with
        | true => exact iteF q
        | false =>
          refine iteT ⟨_, rfl, _, _, rfl, rfl, _, rfl, ?_⟩
          cases hk : decide ((0 : Int) < (kd : Int)) with
          | true => rw [hk] at q; exact iteT q
          | false =>
            rw [hk] at q
            exact iteF ⟨_, rfl, B, _, 1, _, rfl, rfl, SqL.of hB', at_of (j := 1) rfl rfl, _, rfl, q⟩
    have hdH : ∀ {H' : Hp}, Same (minus HH [p, c, T]) H' → ∀ j x, tl[j]? = some x → Ds K C H' x ((wd kd).getD (j + 1) 0) ((b1 :: br).getD j false) := fun s j x e => (dst j x e).mono s
    have four : (rs = 0 ∧ (!b0 && (decide ((0 : Int) < (kd : Int)) || !b1)) = true) ∨ (rs = 2 ∧ (!b0 && (decide ((0 : Int) < (kd : Int)) || !b1)) = true) ∨ (rs = 1 ∧ b0 = false) ∨
        ((decide (V.int rs = V.int 0) && (!b0 && (decide ((0 : Int) < (kd : Int)) || !b1))) = false ∧ (decide (V.int rs = V.int 2) && (!b0 && (decide ((0 : Int) < (kd : Int)) || !b1))) = false ∧ (decide (V.int rs = V.int 1) && !b0) = false) := by
      have hr : rs = 0 ∨ rs = 1 ∨ rs = 2 ∨ rs = 3 := by omega
      cases hv : (!b0 && (decide ((0 : Int) < (kd : Int)) || !b1)) with
      | true =>
        rcases hr with rfl | rfl | rfl | rfl
        · exact .inl ⟨rfl, rfl⟩
        · refine .inr (.inr (.inl ⟨rfl, ?_⟩))
          cases b0 with
          | true => cases hv
          | false => rfl
        · exact .inr (.inl ⟨rfl, rfl⟩)
        · exact .inr (.inr (.inr ⟨by decide, by decide, rfl⟩))
      | false =>
        rcases hr with rfl | rfl | rfl | rfl
        · exact .inr (.inr (.inr ⟨by decide, by decide, rfl⟩))
        · cases b0 with
          | true => exact .inr (.inr (.inr ⟨by decide, by decide, by decide⟩))
          | false => exact .inr (.inr (.inl ⟨rfl, rfl⟩))
        · exact .inr (.inr (.inr ⟨by decide, by decide, rfl⟩))
        · exact .inr (.inr (.inr ⟨by decide, by decide, rfl⟩))
    have cnd1 : ∀ (Z' : Addr) (H' : Hp) (Qb : Bool → Hp → Prop), H' B = some (.lst ((b0 :: b1 :: br).map V.bl)) → Qb (decide (V.int rs = V.int 1) && !b0) H' →
        tAnd (tTest (tOp rEq (tVar 10) (tC (V.int 1)))) (tNot (tB (tOp (rIxL K) (tVar 6) (tC (V.int 0))))) [some (.ref a), some (.ref p), some (.ref q), some (.int kd), some (.int tn), some (.ref W), some (.ref B), some (.ref T), y8, some (.ref Z'), some (.int rs), none] H' Qb := by
      intro Z' H' Qb hB' q
      refine ⟨_, rfl, rfl, _, rfl, ?_⟩
      cases hm : decide (V.int rs = V.int 1) with
      | false => rw [hm] at q; exact iteF q
      | true =>
        rw [hm] at q
        exact iteT ⟨_, rfl, B, _, 0, _, rfl, rfl, SqL.of hB', at_of (j := 0) rfl rfl, _, rfl, q⟩
    rcases four with ⟨rfl, hv⟩ | ⟨rfl, hv⟩ | ⟨rfl, rfl⟩ | ⟨v0, v2, v1⟩
    · refine cnd 0 Z HH _ hB ?_
      rw [hv]
      refine iteT ?_
      refine ⟨l3, fun y1 n1 => ⟨l3, fun y2 n2 => ⟨l2, fun y3 n3 => ?_⟩⟩⟩
      have u1 := Same_new (o := .tup [.int 5, .int 1, .int 1]) n1
      have u2 := Same_new (o := .tup [.int 5, .int 1, .int 1]) n2
      have u3 := Same_new (o := .tup [.ref y1, .ref y2]) n3
      have tv : TupV (upd (upd (upd HH y1 (.tup [.int 5, .int 1, .int 1])) y2 (.tup [.int 5, .int 1, .int 1])) y3 (.tup [.ref y1, .ref y2])) (.ref y3) [(5, 1, 1), (5, 1, 1)] := ⟨y3, _, rfl, upd_same, .cons ⟨y1, rfl, u3 _ _ (u2 _ _ upd_same)⟩ (.cons ⟨y2, rfl, u3 _ _ upd_same⟩ .nil)⟩
      have su := (u1.trans u2).trans u3
      refine fun x dx nx nd' ne => sum_mk tv (v511 (.inl rfl)) nx nd' ne fun H3 s3 hs3 => ?_
      refine ⟨l1, fun g ng => ⟨l2, fun z nz => ?_⟩⟩
      obtain ⟨H4, e4, t4, a4, b4, f4⟩ := pair_new (o2 := .tup [.ref x, .ref g]) ng nz
      rw [e4]
      clear e4
      have s34 := su.trans s3
      have ngH : HH g = none := s34.free ng
      have hg : H4 g = some (.lst ([Str.ofString "none"].map V.str)) := a4
      have s4 := s34.trans t4
      refine ⟨z, _, rfl, SqT.of b4, rfl, ?_⟩
      refine ⟨_, _, rfl, _, rfl, T, _, 0, 0, rfl, rfl, s4 _ _ hT, ix0 _ _, ?_⟩
      have gT : g ≠ T := fun z => by subst z; rw [hT] at ngH; cases ngH
      obtain ⟨H5, e5⟩ : ∃ H5, upd H4 T (.lst ((x0 :: tl).set 0 (.ref x))) = H5 := ⟨_, rfl⟩
      have hT5 : H5 T = some (.lst (.ref x :: tl)) := by rw [← e5]; exact upd_same
      have hB5 : H5 B = some (.lst ((b0 :: b1 :: br).map V.bl)) := by rw [← e5, upd_ne BT]; exact s4 _ _ hB
      have hg5 := (show H5 g = H4 g by rw [← e5, upd_ne gT]).trans hg
      have sm : Same (minus HH [p, c, T]) H5 := by rw [← e5]; exact ((minus_same s4).trans mT).trans minus_le
      have hs5 := sum_imp (H' := H5) (fun a' o e f => by rw [← e5, upd_ne (fun z => by subst z; exact f.nl _ (Option.some.inj (e.symm.trans (s4 _ _ hT))))]; exact e) (hs3.mono t4)
      rw [e5]
      clear e5
      refine ⟨_, _, rfl, ?_⟩
      dsimp only [gName]
      refine ⟨rfl, ?_⟩
      refine st_eq (σ' := [some (.ref a), some (.ref p), some (.ref q), some (.int kd), some (.int tn), some (.ref W), some (.ref B), some (.ref T), y8, some (.ref g), some (.int 0), none]) rfl ?_
      refine cnd 2 g H5 _ hB5 ?_
      rw [show (decide (V.int 0 = V.int 2) && (!b0 && (decide ((0 : Int) < (kd : Int)) || !b1))) = false from rfl]
      refine iteF ?_
      dsimp only [tNext]
      refine cnd1 g H5 _ hB5 ?_
      rw [show (decide (V.int 0 = V.int 1) && !b0) = false from rfl]
      refine iteF ?_
      dsimp only [tNext]
      refine ⟨_, rfl, _, rfl, _, rfl, ?_⟩
      dsimp only [tNil]
      exact last H5 (.ref x :: tl) [Str.ofString "none"] _ hT5 (ask_non k3 (.inl rfl) lx hs5 (hdH sm) fun e => by subst e; cases b0 <;> cases b1 <;> first | rfl | cases hv) fun H6 p2 oc r e s6 h6 => ⟨_, rfl, _, rfl, last2 H6 p2 g oc r h6 (by rw [← e]; exact s6 _ _ hg5)⟩
    · refine cnd 0 Z HH _ hB ?_
      rw [show (decide (V.int 2 = V.int 0) && (!b0 && (decide ((0 : Int) < (kd : Int)) || !b1))) = false from rfl]
      refine iteF ?_
      dsimp only [tNext]
      refine cnd 2 Z HH _ hB ?_
      rw [hv]
      refine iteT ?_
      refine ⟨l3, fun y1 n1 => ⟨l3, fun y2 n2 => ⟨l2, fun y3 n3 => ?_⟩⟩⟩
      have u1 := Same_new (o := .tup [.int 5, .int 1, .int 1]) n1
      have u2 := Same_new (o := .tup [.int 5, .int 1, .int 1]) n2
      have u3 := Same_new (o := .tup [.ref y1, .ref y2]) n3
      have tv : TupV (upd (upd (upd HH y1 (.tup [.int 5, .int 1, .int 1])) y2 (.tup [.int 5, .int 1, .int 1])) y3 (.tup [.ref y1, .ref y2])) (.ref y3) [(5, 1, 1), (5, 1, 1)] := ⟨y3, _, rfl, upd_same, .cons ⟨y1, rfl, u3 _ _ (u2 _ _ upd_same)⟩ (.cons ⟨y2, rfl, u3 _ _ upd_same⟩ .nil)⟩
      have su := (u1.trans u2).trans u3
      refine fun x dx nx nd' ne => sum_mk tv (v511 (.inr rfl)) nx nd' ne fun H3 s3 hs3 => ?_
      refine ⟨l1, fun g ng => ⟨l2, fun z nz => ?_⟩⟩
      obtain ⟨H4, e4, t4, a4, b4, f4⟩ := pair_new (o2 := .tup [.ref x, .ref g]) ng nz
      rw [e4]
      clear e4
      have s34 := su.trans s3
      have ngH : HH g = none := s34.free ng
      have hg : H4 g = some (.lst ([Str.ofString "none"].map V.str)) := a4
      have s4 := s34.trans t4
      refine ⟨z, _, rfl, SqT.of b4, rfl, ?_⟩
      refine ⟨_, _, rfl, _, rfl, T, _, 0, 0, rfl, rfl, s4 _ _ hT, ix0 _ _, ?_⟩
      have gT : g ≠ T := fun z => by subst z; rw [hT] at ngH; cases ngH
      obtain ⟨H5, e5⟩ : ∃ H5, upd H4 T (.lst ((x0 :: tl).set 0 (.ref x))) = H5 := ⟨_, rfl⟩
      have hT5 : H5 T = some (.lst (.ref x :: tl)) := by rw [← e5]; exact upd_same
      have hB5 : H5 B = some (.lst ((b0 :: b1 :: br).map V.bl)) := by rw [← e5, upd_ne BT]; exact s4 _ _ hB
      have hg5 := (show H5 g = H4 g by rw [← e5, upd_ne gT]).trans hg
      have sm : Same (minus HH [p, c, T]) H5 := by rw [← e5]; exact ((minus_same s4).trans mT).trans minus_le
      have hs5 := sum_imp (H' := H5) (fun a' o e f => by rw [← e5, upd_ne (fun z => by subst z; exact f.nl _ (Option.some.inj (e.symm.trans (s4 _ _ hT))))]; exact e) (hs3.mono t4)
      rw [e5]
      clear e5
      refine ⟨_, _, rfl, ?_⟩
      dsimp only [gName]
      refine ⟨rfl, ?_⟩
      refine st_eq (σ' := [some (.ref a), some (.ref p), some (.ref q), some (.int kd), some (.int tn), some (.ref W), some (.ref B), some (.ref T), y8, some (.ref g), some (.int 2), none]) rfl ?_
      refine cnd1 g H5 _ hB5 ?_
      rw [show (decide (V.int 2 = V.int 1) && !b0) = false from rfl]
      refine iteF ?_
      dsimp only [tNext]
      refine ⟨_, rfl, _, rfl, _, rfl, ?_⟩
      dsimp only [tNil]
      exact last H5 (.ref x :: tl) [Str.ofString "none"] _ hT5 (ask_non k3 (.inr rfl) lx hs5 (hdH sm) fun e => by subst e; cases b0 <;> cases b1 <;> first | rfl | cases hv) fun H6 p2 oc r e s6 h6 => ⟨_, rfl, _, rfl, last2 H6 p2 g oc r h6 (by rw [← e]; exact s6 _ _ hg5)⟩
    · refine cnd 0 Z HH _ hB ?_
      rw [show (decide (V.int 1 = V.int 0) && (!false && (decide ((0 : Int) < (kd : Int)) || !b1))) = false from rfl]
      refine iteF ?_
      dsimp only [tNext]
      refine cnd 2 Z HH _ hB ?_
      rw [show (decide (V.int 1 = V.int 2) && (!false && (decide ((0 : Int) < (kd : Int)) || !b1))) = false from rfl]
      refine iteF ?_
      dsimp only [tNext]
      refine cnd1 Z HH _ hB ?_
      refine iteT ?_
      refine ⟨l3, fun y1 n1 => ⟨l1, fun y3 n3 => ?_⟩⟩
      have u1 := Same_new (o := .tup [.int 5, .int 2, .int 2]) n1
      have u3 := Same_new (o := .tup [.ref y1]) n3
      have tv : TupV (upd (upd HH y1 (.tup [.int 5, .int 2, .int 2])) y3 (.tup [.ref y1])) (.ref y3) [(5, 2, 2)] := ⟨y3, _, rfl, upd_same, .cons ⟨y1, rfl, u3 _ _ upd_same⟩ .nil⟩
      have su := u1.trans u3
      refine fun x dx nx nd' ne => sum_mk tv (v522 (.inr rfl)) nx nd' ne fun H3 s3 hs3 => ?_
      refine ⟨_, rfl, _, rfl, _, rfl, Z, _, rfl, SqL.of (s3 _ _ (su _ _ hZ)), fun z1 m1 => ⟨l1, fun z2 m2 => ?_⟩⟩
      rw [List.map_append, show List.map V.str [Str.ofString "good"] = [V.str (Str.ofString "good")] from rfl, cut_m1] at m2 ⊢
      obtain ⟨Hx, ex, tx, ax, bx, fx⟩ := pair_new (o2 := .lst [.str (Str.ofString "long")]) m1 m2
      rw [ex]
      clear ex
      refine ⟨z1, z2, _, _, rfl, rfl, ax, bx, by rw [List.length_map]; exact sz1 (by omega), fun g ng => ⟨l2, fun z nz => ?_⟩⟩
      obtain ⟨H4, e4, t4, a4, b4, f4⟩ := pair_new (o2 := .tup [.ref x, .ref g]) ng nz
      rw [e4]
      clear e4
      have s34 := (su.trans s3).trans tx
      have ngH : HH g = none := s34.free ng
      have hg : H4 g = some (.lst ((dueN kd (false :: b1 :: br) (wd kd).length ++ [Str.ofString "long"]).map V.str)) := by rw [a4, List.map_append]; rfl
      have hs3 := hs3.mono tx
      have s4 := s34.trans t4
      refine ⟨z, _, rfl, SqT.of b4, rfl, ?_⟩
      refine ⟨_, _, rfl, _, rfl, T, _, 0, 0, rfl, rfl, s4 _ _ hT, ix0 _ _, ?_⟩
      have gT : g ≠ T := fun z => by subst z; rw [hT] at ngH; cases ngH
      obtain ⟨H5, e5⟩ : ∃ H5, upd H4 T (.lst ((x0 :: tl).set 0 (.ref x))) = H5 := ⟨_, rfl⟩
      have hT5 : H5 T = some (.lst (.ref x :: tl)) := by rw [← e5]; exact upd_same
      have hB5 : H5 B = some (.lst ((false :: b1 :: br).map V.bl)) := by rw [← e5, upd_ne BT]; exact s4 _ _ hB
      have hg5 := (show H5 g = H4 g by rw [← e5, upd_ne gT]).trans hg
      have sm : Same (minus HH [p, c, T]) H5 := by rw [← e5]; exact ((minus_same s4).trans mT).trans minus_le
      have hs5 := sum_imp (H' := H5) (fun a' o e f => by rw [← e5, upd_ne (fun z => by subst z; exact f.nl _ (Option.some.inj (e.symm.trans (s4 _ _ hT))))]; exact e) (hs3.mono t4)
      rw [e5]
      clear e5
      refine ⟨_, _, rfl, ?_⟩
      dsimp only [gName]
      refine ⟨rfl, ?_⟩
      refine st_eq (σ' := [some (.ref a), some (.ref p), some (.ref q), some (.int kd), some (.int tn), some (.ref W), some (.ref B), some (.ref T), y8, some (.ref g), some (.int 1), none]) rfl ?_
      refine ⟨_, rfl, _, rfl, _, rfl, ?_⟩
      dsimp only [tNil]
      exact last H5 (.ref x :: tl) _ _ hT5 (ask_any (b0 := false) k3 (.inr rfl) lx lb hs5 (hdH sm)) fun H6 p2 oc r e s6 h6 => ⟨_, rfl, _, rfl, last2 H6 p2 g oc r h6 (by rw [← e]; exact s6 _ _ hg5)⟩
    · refine cnd 0 Z HH _ hB ?_
      rw [v0]
      refine iteF ?_
      dsimp only [tNext]
      refine cnd 2 Z HH _ hB ?_
      rw [v2]
      refine iteF ?_
      dsimp only [tNext]
      refine cnd1 Z HH _ hB ?_
      rw [v1]
      refine iteF ?_
      dsimp only [tNext]
      have h0 : X0 K C HH x0 3 b0 := by
        cases b0 with
        | true => exact let ⟨S, h⟩ := ds0; ⟨S, h.mono minus_le⟩
        | false => exact SumV.mono minus_le ds0
      refine ⟨_, rfl, _, rfl, _, rfl, ?_⟩
      dsimp only [tNil]
      exact last HH (x0 :: tl) _ _ hT (ask_any k3 (.inl rfl) lx lb h0 (hdH minus_le)) fun H6 p2 oc r e s6 h6 => ⟨_, rfl, _, rfl, last2 H6 p2 Z oc r h6 (by rw [← e]; exact s6 _ _ hZ)⟩
-- @prem law law  : D__law_mix D__law_next m_range m_len D__law_bad_one D__law_good_one T DS D__law_told
end
end SR

set_option Elab.async false
set_option linter.all false
set_option maxRecDepth 100000
set_option maxHeartbeats 4000000
namespace SR
open PySem PySem.Spec PyProof.Rows L2
theorem kit_no {K : PySem.W.Frag} {C : Addr} {T : String} (h1 : PySem.W.isClsIn K C = true) (h2 : PySem.W.typeIn K (.ref C) = some (.type "type")) (h3 : PySem.W.subIn K (.type T) (.ref C) = some false) : PySem.W.kitOne K (.type T) (.ref C) = some false := by
  have h1' : (PySem.W.clsIn K C).isSome = true := h1
  have e1 : ((PySem.W.clsIn K C).isSome && PySem.W.typeIn K (.ref C) == some (.type "type")) = true := by rw [h1', h2] <;> rfl
  show (if (Value.type T == Value.ref C) = true then some true else (if ((PySem.W.clsIn K C).isSome && PySem.W.typeIn K (.ref C) == some (.type "type")) = true then PySem.W.subIn K (.type T) (.ref C) else none)) = some false
  rw [show (Value.type T == Value.ref C) = false from rfl, if_neg Bool.false_ne_true, if_pos e1]
  exact h3
open PySem.HandSPX PySem.W PySem.Calls in
theorem exm_b {K : PySem.W.Frag} {A S : Addr} {b : Bool} (h1 : PySem.W.subIn K (.ref S) (.type "BaseException") = some true) (h2 : PySem.W.isClsIn K S = true) (h3 : PySem.W.typeIn K (.ref S) = some (.type "type")) (h4 : PySem.W.subIn K (.ref A) (.ref S) = some b) : PySem.W.exmOne K (.ref A) (.ref S) = some b := by
  have e1 : (PySem.W.subIn K (.ref S) (.type "BaseException") == some true) = true := by rw [h1] <;> rfl
  have e2 : ((PySem.W.clsIn K S).isSome && PySem.W.typeIn K (.ref S) == some (.type "type")) = true := by
    have h2' : (PySem.W.clsIn K S).isSome = true := h2
    rw [h2', h3] <;> rfl
  show (if (PySem.W.subIn K (.ref S) (.type "BaseException") == some true) = true then (if ((PySem.W.clsIn K S).isSome && PySem.W.typeIn K (.ref S) == some (.type "type")) = true then PySem.W.subIn K (.ref A) (.ref S) else none) else none) = some b
  rw [if_pos e1, if_pos e2]
  exact h4
set_option maxHeartbeats 16000000 in
open PySem.HandSPX PySem.W PySem.Calls in
theorem all_mk {l : PySem.W.OpenLaw} {w : World} {K : PySem.W.Frag} {h : Heap} {mg : Str → Option Value} {fa C f_Sinit p_Smany f_Smany p_Sentries f_Sentries f_Slen f_Seq f_Rinit C_NoRow C_TooLong C_BadSummary C_BadValue C_BadTold f_XBadTold f_is_integer f_is_between f_is_value f__is_entry f__check_entries f_check_summary f__least_ranks f__greatest_ranks f_tightened f_surely_tightened f_check_short f_surely_short f_filled f_row_for f_check_value f__check_row f__have_places f_leaves f__first_ranks f__row_with_few f__telling_rows f_lacking_row f_within f__choices f__last_place f__with_others f__with_kept f_count_rows f__is_told f__check_told f__narrowed f__can_stand f_can_have f_row_with f__law_mix f__law_next f__law_thing_at f__law_ask f__law_told f__law_good_one f__law_bad_one f_law : Addr} {oc_Sinit kV_Sinit dc_Sinit pm_Sinit cd_Sinit ct_Sinit oc_Smany kV_Smany dc_Smany pm_Smany cd_Smany ct_Smany oc_Sentries kV_Sentries dc_Sentries pm_Sentries cd_Sentries ct_Sentries oc_Slen kV_Slen dc_Slen pm_Slen cd_Slen ct_Slen oc_Seq kV_Seq dc_Seq pm_Seq cd_Seq ct_Seq oc_Rinit kV_Rinit dc_Rinit pm_Rinit cd_Rinit ct_Rinit oc_XBadTold kV_XBadTold dc_XBadTold pm_XBadTold cd_XBadTold ct_XBadTold oc_is_integer kV_is_integer dc_is_integer pm_is_integer cd_is_integer ct_is_integer oc_is_between kV_is_between dc_is_between pm_is_between cd_is_between ct_is_between oc_is_value kV_is_value dc_is_value pm_is_value cd_is_value ct_is_value oc__is_entry kV__is_entry dc__is_entry pm__is_entry cd__is_entry ct__is_entry oc__check_entries kV__check_entries dc__check_entries pm__check_entries cd__check_entries ct__check_entries oc_check_summary kV_check_summary dc_check_summary pm_check_summary cd_check_summary ct_check_summary oc__least_ranks kV__least_ranks dc__least_ranks pm__least_ranks cd__least_ranks ct__least_ranks oc__greatest_ranks kV__greatest_ranks dc__greatest_ranks pm__greatest_ranks cd__greatest_ranks ct__greatest_ranks oc_tightened kV_tightened dc_tightened pm_tightened cd_tightened ct_tightened oc_surely_tightened kV_surely_tightened dc_surely_tightened pm_surely_tightened cd_surely_tightened ct_surely_tightened oc_check_short kV_check_short dc_check_short pm_check_short cd_check_short ct_check_short oc_surely_short kV_surely_short dc_surely_short pm_surely_short cd_surely_short ct_surely_short oc_filled kV_filled dc_filled pm_filled cd_filled ct_filled oc_row_for kV_row_for dc_row_for pm_row_for cd_row_for ct_row_for oc_check_value kV_check_value dc_check_value pm_check_value cd_check_value ct_check_value oc__check_row kV__check_row dc__check_row pm__check_row cd__check_row ct__check_row oc__have_places kV__have_places dc__have_places pm__have_places cd__have_places ct__have_places oc_leaves kV_leaves dc_leaves pm_leaves cd_leaves ct_leaves oc__first_ranks kV__first_ranks dc__first_ranks pm__first_ranks cd__first_ranks ct__first_ranks oc__row_with_few kV__row_with_few dc__row_with_few pm__row_with_few cd__row_with_few ct__row_with_few oc__telling_rows kV__telling_rows dc__telling_rows pm__telling_rows cd__telling_rows ct__telling_rows oc_lacking_row kV_lacking_row dc_lacking_row pm_lacking_row cd_lacking_row ct_lacking_row oc_within kV_within dc_within pm_within cd_within ct_within oc__choices kV__choices dc__choices pm__choices cd__choices ct__choices oc__last_place kV__last_place dc__last_place pm__last_place cd__last_place ct__last_place oc__with_others kV__with_others dc__with_others pm__with_others cd__with_others ct__with_others oc__with_kept kV__with_kept dc__with_kept pm__with_kept cd__with_kept ct__with_kept oc_count_rows kV_count_rows dc_count_rows pm_count_rows cd_count_rows ct_count_rows oc__is_told kV__is_told dc__is_told pm__is_told cd__is_told ct__is_told oc__check_told kV__check_told dc__check_told pm__check_told cd__check_told ct__check_told oc__narrowed kV__narrowed dc__narrowed pm__narrowed cd__narrowed ct__narrowed oc__can_stand kV__can_stand dc__can_stand pm__can_stand cd__can_stand ct__can_stand oc_can_have kV_can_have dc_can_have pm_can_have cd_can_have ct_can_have oc_row_with kV_row_with dc_row_with pm_row_with cd_row_with ct_row_with oc__law_mix kV__law_mix dc__law_mix pm__law_mix cd__law_mix ct__law_mix oc__law_next kV__law_next dc__law_next pm__law_next cd__law_next ct__law_next oc__law_thing_at kV__law_thing_at dc__law_thing_at pm__law_thing_at cd__law_thing_at ct__law_thing_at oc__law_ask kV__law_ask dc__law_ask pm__law_ask cd__law_ask ct__law_ask oc__law_told kV__law_told dc__law_told pm__law_told cd__law_told ct__law_told oc__law_good_one kV__law_good_one dc__law_good_one pm__law_good_one cd__law_good_one ct__law_good_one oc__law_bad_one kV__law_bad_one dc__law_bad_one pm__law_bad_one cd__law_bad_one ct__law_bad_one oc_law kV_law dc_law pm_law cd_law ct_law : Value} {od_Sinit an_Sinit od_Smany an_Smany od_Sentries an_Sentries od_Slen an_Slen od_Seq an_Seq od_Rinit an_Rinit od_XBadTold an_XBadTold od_is_integer an_is_integer od_is_between an_is_between od_is_value an_is_value od__is_entry an__is_entry od__check_entries an__check_entries od_check_summary an_check_summary od__least_ranks an__least_ranks od__greatest_ranks an__greatest_ranks od_tightened an_tightened od_surely_tightened an_surely_tightened od_check_short an_check_short od_surely_short an_surely_short od_filled an_filled od_row_for an_row_for od_check_value an_check_value od__check_row an__check_row od__have_places an__have_places od_leaves an_leaves od__first_ranks an__first_ranks od__row_with_few an__row_with_few od__telling_rows an__telling_rows od_lacking_row an_lacking_row od_within an_within od__choices an__choices od__last_place an__last_place od__with_others an__with_others od__with_kept an__with_kept od_count_rows an_count_rows od__is_told an__is_told od__check_told an__check_told od__narrowed an__narrowed od__can_stand an__can_stand od_can_have an_can_have od_row_with an_row_with od__law_mix an__law_mix od__law_next an__law_next od__law_thing_at an__law_thing_at od__law_ask an__law_ask od__law_told an__law_told od__law_good_one an__law_good_one od__law_bad_one an__law_bad_one od_law an_law : Option Addr} {sl_Sinit sl_Smany sl_Sentries sl_Slen sl_Seq sl_Rinit sl_XBadTold sl_is_integer sl_is_between sl_is_value sl__is_entry sl__check_entries sl_check_summary sl__least_ranks sl__greatest_ranks sl_tightened sl_surely_tightened sl_check_short sl_surely_short sl_filled sl_row_for sl_check_value sl__check_row sl__have_places sl_leaves sl__first_ranks sl__row_with_few sl__telling_rows sl_lacking_row sl_within sl__choices sl__last_place sl__with_others sl__with_kept sl_count_rows sl__is_told sl__check_told sl__narrowed sl__can_stand sl_can_have sl_row_with sl__law_mix sl__law_next sl__law_thing_at sl__law_ask sl__law_told sl__law_good_one sl__law_bad_one sl_law : Array (Option Value)} {v_GREATEST_COUNT v_GREATEST_VALUE v_MOST_ENTRIES v_MOST_NUMBERS v_MOST_TOLD : Int} {t_GREATEST_COUNT t_GREATEST_VALUE t_MOST_ENTRIES t_MOST_NUMBERS t_MOST_TOLD : Tok} {rs_Smany rs_Sentries : List Value} {C_RankError : Addr} {nm_NoRow q_NoRow : Str} {N_NoRow : Addr} {bs_NoRow sub_NoRow : List Value} {sn_NoRow : List Str} {ab_NoRow : Bool} {col_NoRow : Option Bool} {dd_NoRow : Option Addr} {j0_NoRow j1_NoRow j2_NoRow j3_NoRow j5_NoRow : Option Value} {nm_TooLong q_TooLong : Str} {N_TooLong : Addr} {bs_TooLong sub_TooLong : List Value} {sn_TooLong : List Str} {ab_TooLong : Bool} {col_TooLong : Option Bool} {dd_TooLong : Option Addr} {j0_TooLong j1_TooLong j2_TooLong j3_TooLong j5_TooLong : Option Value} {nm_BadSummary q_BadSummary : Str} {N_BadSummary : Addr} {bs_BadSummary sub_BadSummary : List Value} {sn_BadSummary : List Str} {ab_BadSummary : Bool} {col_BadSummary : Option Bool} {dd_BadSummary : Option Addr} {j0_BadSummary j1_BadSummary j2_BadSummary j3_BadSummary j5_BadSummary : Option Value} {nm_BadValue q_BadValue : Str} {N_BadValue : Addr} {bs_BadValue sub_BadValue : List Value} {sn_BadValue : List Str} {ab_BadValue : Bool} {col_BadValue : Option Bool} {dd_BadValue : Option Addr} {j0_BadValue j1_BadValue j2_BadValue j3_BadValue j5_BadValue : Option Value} {nm_BadTold q_BadTold : Str} {N_BadTold : Addr} {bs_BadTold sub_BadTold : List Value} {sn_BadTold : List Str} {ab_BadTold : Bool} {col_BadTold : Option Bool} {dd_BadTold : Option Addr} {j0_BadTold j1_BadTold j2_BadTold j3_BadTold j5_BadTold : Option Value}
    (X : K.In h) (G : h.Ns mainGlobals mg) (hfa : mg "law" = some (.ref fa))
    (z_isinstance : PySem.W.nsIn K mainGlobals "isinstance" = some none)
    (z_int : PySem.W.nsIn K mainGlobals "int" = some none)
    (z_bool : PySem.W.nsIn K mainGlobals "bool" = some none)
    (z_tuple : PySem.W.nsIn K mainGlobals "tuple" = some none)
    (z_len : PySem.W.nsIn K mainGlobals "len" = some none)
    (z_enumerate : PySem.W.nsIn K mainGlobals "enumerate" = some none)
    (z_max : PySem.W.nsIn K mainGlobals "max" = some none)
    (z_min : PySem.W.nsIn K mainGlobals "min" = some none)
    (z_reversed : PySem.W.nsIn K mainGlobals "reversed" = some none)
    (z_zip : PySem.W.nsIn K mainGlobals "zip" = some none)
    (z_list : PySem.W.nsIn K mainGlobals "list" = some none)
    (z_sorted : PySem.W.nsIn K mainGlobals "sorted" = some none)
    (z_range : PySem.W.nsIn K mainGlobals "range" = some none)
    (z_all : PySem.W.nsIn K mainGlobals "all" = some none)
    (z_dict : PySem.W.nsIn K mainGlobals "dict" = some none)
    (z_sum : PySem.W.nsIn K mainGlobals "sum" = some none)
    (g_comb : PySem.W.nsIn K mainGlobals "comb" = some (some (.builtin "math.comb")))
    (g_GREATEST_COUNT : PySem.W.nsIn K mainGlobals "GREATEST_COUNT" = some (some (.int v_GREATEST_COUNT t_GREATEST_COUNT)))
    (e_GREATEST_COUNT : v_GREATEST_COUNT = 10 ^ 30)
    (g_GREATEST_VALUE : PySem.W.nsIn K mainGlobals "GREATEST_VALUE" = some (some (.int v_GREATEST_VALUE t_GREATEST_VALUE)))
    (e_GREATEST_VALUE : v_GREATEST_VALUE = 10 ^ 30)
    (g_MOST_ENTRIES : PySem.W.nsIn K mainGlobals "MOST_ENTRIES" = some (some (.int v_MOST_ENTRIES t_MOST_ENTRIES)))
    (e_MOST_ENTRIES : v_MOST_ENTRIES = 12)
    (g_MOST_NUMBERS : PySem.W.nsIn K mainGlobals "MOST_NUMBERS" = some (some (.int v_MOST_NUMBERS t_MOST_NUMBERS)))
    (e_MOST_NUMBERS : v_MOST_NUMBERS = 40)
    (g_MOST_TOLD : PySem.W.nsIn K mainGlobals "MOST_TOLD" = some (some (.int v_MOST_TOLD t_MOST_TOLD)))
    (e_MOST_TOLD : v_MOST_TOLD = 12)
    (aC : PySem.W.nsIn K mainGlobals "Summary" = some (some (.ref C)))
    (a_Sinit : PySem.W.findIn K (.ref C) "__init__" = some (some (.ref f_Sinit)))
    (i_Sinit : PySem.W.isFn K (.ref f_Sinit) = true)
    (l_Sinit : K.lookup f_Sinit = some ⟨oc_Sinit, od_Sinit, .func (PySem.W.fnOf "__init__" "Summary.__init__" (defArgs s_Summary_init) (defBody s_Summary_init) (defScope s_Summary_init) .none kV_Sinit dc_Sinit pm_Sinit an_Sinit cd_Sinit ct_Sinit), sl_Sinit⟩)
    (c_Sinit : PySem.W.codeIn K cd_Sinit "Summary.__init__" = true)
    (k_Sinit : PySem.W.keepIn K (.ref f_Sinit) = true)
    (a_Smany : PySem.W.findIn K (.ref C) "many" = some (some (.ref p_Smany)))
    (q_Smany : PySem.W.specialIn K (.ref p_Smany) "__get__" = some (some (.builtin "property.__get__")))
    (t_Smany : PySem.W.takesIn K (.ref p_Smany) = some true)
    (r_Smany : PySem.W.recIn K p_Smany "property" = some (.ref f_Smany :: rs_Smany))
    (l_Smany : K.lookup f_Smany = some ⟨oc_Smany, od_Smany, .func (PySem.W.fnOf "many" "Summary.many" (defArgs s_Summary_many) (defBody s_Summary_many) (defScope s_Summary_many) .none kV_Smany dc_Smany pm_Smany an_Smany cd_Smany ct_Smany), sl_Smany⟩)
    (c_Smany : PySem.W.codeIn K cd_Smany "Summary.many" = true)
    (k_Smany : PySem.W.keepIn K (.ref f_Smany) = true)
    (a_Sentries : PySem.W.findIn K (.ref C) "entries" = some (some (.ref p_Sentries)))
    (q_Sentries : PySem.W.specialIn K (.ref p_Sentries) "__get__" = some (some (.builtin "property.__get__")))
    (t_Sentries : PySem.W.takesIn K (.ref p_Sentries) = some true)
    (r_Sentries : PySem.W.recIn K p_Sentries "property" = some (.ref f_Sentries :: rs_Sentries))
    (l_Sentries : K.lookup f_Sentries = some ⟨oc_Sentries, od_Sentries, .func (PySem.W.fnOf "entries" "Summary.entries" (defArgs s_Summary_entries) (defBody s_Summary_entries) (defScope s_Summary_entries) .none kV_Sentries dc_Sentries pm_Sentries an_Sentries cd_Sentries ct_Sentries), sl_Sentries⟩)
    (c_Sentries : PySem.W.codeIn K cd_Sentries "Summary.entries" = true)
    (k_Sentries : PySem.W.keepIn K (.ref f_Sentries) = true)
    (a_Slen : PySem.W.findIn K (.ref C) "__len__" = some (some (.ref f_Slen)))
    (i_Slen : PySem.W.isFn K (.ref f_Slen) = true)
    (l_Slen : K.lookup f_Slen = some ⟨oc_Slen, od_Slen, .func (PySem.W.fnOf "__len__" "Summary.__len__" (defArgs s_Summary_len) (defBody s_Summary_len) (defScope s_Summary_len) .none kV_Slen dc_Slen pm_Slen an_Slen cd_Slen ct_Slen), sl_Slen⟩)
    (c_Slen : PySem.W.codeIn K cd_Slen "Summary.__len__" = true)
    (k_Slen : PySem.W.keepIn K (.ref f_Slen) = true)
    (a_Seq : PySem.W.findIn K (.ref C) "__eq__" = some (some (.ref f_Seq)))
    (i_Seq : PySem.W.isFn K (.ref f_Seq) = true)
    (l_Seq : K.lookup f_Seq = some ⟨oc_Seq, od_Seq, .func (PySem.W.fnOf "__eq__" "Summary.__eq__" (defArgs s_Summary_eq) (defBody s_Summary_eq) (defScope s_Summary_eq) .none kV_Seq dc_Seq pm_Seq an_Seq cd_Seq ct_Seq), sl_Seq⟩)
    (c_Seq : PySem.W.codeIn K cd_Seq "Summary.__eq__" = true)
    (k_Seq : PySem.W.keepIn K (.ref f_Seq) = true)
    (pg : PySem.W.plainGet K C Str.empty = true)
    (hd : PySem.W.hasDictIn K C = true)
    (po : PySem.W.plainOver K C = true)
    (sa : PySem.W.findIn K (.ref C) "__setattr__" = some (some (.builtin "object.__setattr__")))
    (mk : PySem.W.makesIn K C = true)
    (kc : PySem.W.keepIn K (.ref C) = true)
    (ha : PySem.W.findIn K (.ref C) "__class__" = some (some (.builtin "object.__class__")))
    (hn : PySem.W.specialIn K (.builtin "object.__class__") "__get__" = some (some (.builtin "getset_descriptor.__get__")))
    (htk : PySem.W.takesIn K (.builtin "object.__class__") = some true)
    (hm : PySem.W.mroIn K C (.type "object") = some true)
    (nM : PySem.W.findIn K (.ref C) "_many" = some none)
    (nE : PySem.W.findIn K (.ref C) "_entries" = some none)
    (ic : PySem.W.isClsIn K C = true)
    (ty : PySem.W.typeIn K (.ref C) = some (.type "type"))
    (st : PySem.W.subIn K (.type "tuple") (.ref C) = some false)
    (nf1 : PySem.W.notFirst K C (.ref C) = true)
    (nf2 : PySem.W.notFirst K C (.type "tuple") = true)
    (sn_NoneType : PySem.W.subIn K (.type "NoneType") (.ref C) = some false)
    (sn_bool : PySem.W.subIn K (.type "bool") (.ref C) = some false)
    (sn_int : PySem.W.subIn K (.type "int") (.ref C) = some false)
    (sn_str : PySem.W.subIn K (.type "str") (.ref C) = some false)
    (sn_list : PySem.W.subIn K (.type "list") (.ref C) = some false)
    (sn_tuple : PySem.W.subIn K (.type "tuple") (.ref C) = some false)
    (g_NoRow : PySem.W.nsIn K mainGlobals "NoRow" = some (some (.ref C_NoRow)))
    (n_NoRow : PySem.W.findIn K (.ref C_NoRow) "__init__" = some (some (.ref f_Rinit)))
    (tf_R : PySem.W.typeIn K (.ref f_Rinit) = some (.type "function"))
    (l_Rinit : K.lookup f_Rinit = some ⟨oc_Rinit, od_Rinit, .func (PySem.W.fnOf "__init__" "RankError.__init__" (defArgs s_RankError_init) (defBody s_RankError_init) (defScope s_RankError_init) .none kV_Rinit dc_Rinit pm_Rinit an_Rinit cd_Rinit ct_Rinit), sl_Rinit⟩)
    (c_Rinit : PySem.W.codeIn K cd_Rinit "RankError.__init__" = true)
    (k_Rinit : PySem.W.keepIn K (.ref f_Rinit) = true)
    (o_NoRow : K.lookup C_NoRow = some (excClassObj nm_NoRow q_NoRow C_NoRow N_NoRow bs_NoRow [.ref C_RankError, .type "ValueError", .type "Exception", .type "BaseException", .type "object"] true sn_NoRow sub_NoRow ab_NoRow col_NoRow dd_NoRow j0_NoRow j1_NoRow j2_NoRow j3_NoRow j5_NoRow "ValueError.__new__"))
    (kp_NoRow : PySem.W.keepIn K (.ref C_NoRow) = true)
    (sb_NoRow : PySem.W.subIn K (.ref C_NoRow) (.type "BaseException") = some true)
    (ty_NoRow : PySem.W.typeIn K (.ref C_NoRow) = some (.type "type"))
    (ic_NoRow : PySem.W.isClsIn K C_NoRow = true)
    (ss_NoRow : PySem.W.subIn K (.ref C_NoRow) (.ref C_NoRow) = some true)
    (g_TooLong : PySem.W.nsIn K mainGlobals "TooLong" = some (some (.ref C_TooLong)))
    (o_TooLong : K.lookup C_TooLong = some (excClassObj nm_TooLong q_TooLong C_TooLong N_TooLong bs_TooLong [.ref C_RankError, .type "ValueError", .type "Exception", .type "BaseException", .type "object"] true sn_TooLong sub_TooLong ab_TooLong col_TooLong dd_TooLong j0_TooLong j1_TooLong j2_TooLong j3_TooLong j5_TooLong "ValueError.__new__"))
    (n_TooLong : PySem.W.findIn K (.ref C_TooLong) "__init__" = some (some (.ref f_Rinit)))
    (kp_TooLong : PySem.W.keepIn K (.ref C_TooLong) = true)
    (sb_TooLong : PySem.W.subIn K (.ref C_TooLong) (.type "BaseException") = some true)
    (ty_TooLong : PySem.W.typeIn K (.ref C_TooLong) = some (.type "type"))
    (ic_TooLong : PySem.W.isClsIn K C_TooLong = true)
    (ss_TooLong : PySem.W.subIn K (.ref C_TooLong) (.ref C_TooLong) = some true)
    (g_BadSummary : PySem.W.nsIn K mainGlobals "BadSummary" = some (some (.ref C_BadSummary)))
    (o_BadSummary : K.lookup C_BadSummary = some (excClassObj nm_BadSummary q_BadSummary C_BadSummary N_BadSummary bs_BadSummary [.ref C_RankError, .type "ValueError", .type "Exception", .type "BaseException", .type "object"] true sn_BadSummary sub_BadSummary ab_BadSummary col_BadSummary dd_BadSummary j0_BadSummary j1_BadSummary j2_BadSummary j3_BadSummary j5_BadSummary "ValueError.__new__"))
    (n_BadSummary : PySem.W.findIn K (.ref C_BadSummary) "__init__" = some (some (.ref f_Rinit)))
    (kp_BadSummary : PySem.W.keepIn K (.ref C_BadSummary) = true)
    (sb_BadSummary : PySem.W.subIn K (.ref C_BadSummary) (.type "BaseException") = some true)
    (ty_BadSummary : PySem.W.typeIn K (.ref C_BadSummary) = some (.type "type"))
    (ic_BadSummary : PySem.W.isClsIn K C_BadSummary = true)
    (ss_BadSummary : PySem.W.subIn K (.ref C_BadSummary) (.ref C_BadSummary) = some true)
    (g_BadValue : PySem.W.nsIn K mainGlobals "BadValue" = some (some (.ref C_BadValue)))
    (o_BadValue : K.lookup C_BadValue = some (excClassObj nm_BadValue q_BadValue C_BadValue N_BadValue bs_BadValue [.ref C_RankError, .type "ValueError", .type "Exception", .type "BaseException", .type "object"] true sn_BadValue sub_BadValue ab_BadValue col_BadValue dd_BadValue j0_BadValue j1_BadValue j2_BadValue j3_BadValue j5_BadValue "ValueError.__new__"))
    (n_BadValue : PySem.W.findIn K (.ref C_BadValue) "__init__" = some (some (.ref f_Rinit)))
    (kp_BadValue : PySem.W.keepIn K (.ref C_BadValue) = true)
    (sb_BadValue : PySem.W.subIn K (.ref C_BadValue) (.type "BaseException") = some true)
    (ty_BadValue : PySem.W.typeIn K (.ref C_BadValue) = some (.type "type"))
    (ic_BadValue : PySem.W.isClsIn K C_BadValue = true)
    (ss_BadValue : PySem.W.subIn K (.ref C_BadValue) (.ref C_BadValue) = some true)
    (s_NoRow_TooLong : PySem.W.subIn K (.ref C_NoRow) (.ref C_TooLong) = some false)
    (s_NoRow_BadSummary : PySem.W.subIn K (.ref C_NoRow) (.ref C_BadSummary) = some false)
    (s_NoRow_BadValue : PySem.W.subIn K (.ref C_NoRow) (.ref C_BadValue) = some false)
    (s_TooLong_NoRow : PySem.W.subIn K (.ref C_TooLong) (.ref C_NoRow) = some false)
    (s_TooLong_BadSummary : PySem.W.subIn K (.ref C_TooLong) (.ref C_BadSummary) = some false)
    (s_TooLong_BadValue : PySem.W.subIn K (.ref C_TooLong) (.ref C_BadValue) = some false)
    (s_BadSummary_NoRow : PySem.W.subIn K (.ref C_BadSummary) (.ref C_NoRow) = some false)
    (s_BadSummary_TooLong : PySem.W.subIn K (.ref C_BadSummary) (.ref C_TooLong) = some false)
    (s_BadSummary_BadValue : PySem.W.subIn K (.ref C_BadSummary) (.ref C_BadValue) = some false)
    (s_BadValue_NoRow : PySem.W.subIn K (.ref C_BadValue) (.ref C_NoRow) = some false)
    (s_BadValue_TooLong : PySem.W.subIn K (.ref C_BadValue) (.ref C_TooLong) = some false)
    (s_BadValue_BadSummary : PySem.W.subIn K (.ref C_BadValue) (.ref C_BadSummary) = some false)
    (g_BadTold : PySem.W.nsIn K mainGlobals "BadTold" = some (some (.ref C_BadTold)))
    (n_BadTold : PySem.W.findIn K (.ref C_BadTold) "__init__" = some (some (.ref f_XBadTold)))
    (tf_BadTold : PySem.W.typeIn K (.ref f_XBadTold) = some (.type "function"))
    (l_XBadTold : K.lookup f_XBadTold = some ⟨oc_XBadTold, od_XBadTold, .func (PySem.W.fnOf "__init__" "BadTold.__init__" (defArgs s_BadTold_init) (defBody s_BadTold_init) (defScope s_BadTold_init) .none kV_XBadTold dc_XBadTold pm_XBadTold an_XBadTold cd_XBadTold ct_XBadTold), sl_XBadTold⟩)
    (c_XBadTold : PySem.W.codeIn K cd_XBadTold "BadTold.__init__" = true)
    (k_XBadTold : PySem.W.keepIn K (.ref f_XBadTold) = true)
    (o_BadTold : K.lookup C_BadTold = some (excClassObj nm_BadTold q_BadTold C_BadTold N_BadTold bs_BadTold [.ref C_RankError, .type "ValueError", .type "Exception", .type "BaseException", .type "object"] true sn_BadTold sub_BadTold ab_BadTold col_BadTold dd_BadTold j0_BadTold j1_BadTold j2_BadTold j3_BadTold j5_BadTold "ValueError.__new__"))
    (kp_BadTold : PySem.W.keepIn K (.ref C_BadTold) = true)
    (sb_BadTold : PySem.W.subIn K (.ref C_BadTold) (.type "BaseException") = some true)
    (ty_BadTold : PySem.W.typeIn K (.ref C_BadTold) = some (.type "type"))
    (ic_BadTold : PySem.W.isClsIn K C_BadTold = true)
    (ss_BadTold : PySem.W.subIn K (.ref C_BadTold) (.ref C_BadTold) = some true)
    (sa_BadTold : PySem.W.findIn K (.ref C_BadTold) "__setattr__" = some (some (.builtin "object.__setattr__")))
    (xa_BadTold : PySem.W.findIn K (.ref C_BadTold) "__getattribute__" = some (some (.builtin "BaseException.__getattribute__")))
    (xg_BadTold : PySem.W.findIn K (.ref C_BadTold) "__getattr__" = some none)
    (xd_BadTold : PySem.W.hasDictIn K C_BadTold = true)
    (nf_BadTold_index : PySem.W.findIn K (.ref C_BadTold) "index" = some none)
    (xa_BadSummary : PySem.W.findIn K (.ref C_BadSummary) "__getattribute__" = some (some (.builtin "BaseException.__getattribute__")))
    (xg_BadSummary : PySem.W.findIn K (.ref C_BadSummary) "__getattr__" = some none)
    (xd_BadSummary : PySem.W.hasDictIn K C_BadSummary = true)
    (xk_BadSummary : PySem.W.findIn K (.ref C_BadSummary) "__class__" = some (some (.builtin "object.__class__")))
    (xo_BadSummary : PySem.W.mroIn K C_BadSummary (.type "object") = some true)
    (xa_BadValue : PySem.W.findIn K (.ref C_BadValue) "__getattribute__" = some (some (.builtin "BaseException.__getattribute__")))
    (xg_BadValue : PySem.W.findIn K (.ref C_BadValue) "__getattr__" = some none)
    (xd_BadValue : PySem.W.hasDictIn K C_BadValue = true)
    (xk_BadValue : PySem.W.findIn K (.ref C_BadValue) "__class__" = some (some (.builtin "object.__class__")))
    (xo_BadValue : PySem.W.mroIn K C_BadValue (.type "object") = some true)
    (xa_NoRow : PySem.W.findIn K (.ref C_NoRow) "__getattribute__" = some (some (.builtin "BaseException.__getattribute__")))
    (xg_NoRow : PySem.W.findIn K (.ref C_NoRow) "__getattr__" = some none)
    (xd_NoRow : PySem.W.hasDictIn K C_NoRow = true)
    (xk_NoRow : PySem.W.findIn K (.ref C_NoRow) "__class__" = some (some (.builtin "object.__class__")))
    (xo_NoRow : PySem.W.mroIn K C_NoRow (.type "object") = some true)
    (xk_BadTold : PySem.W.findIn K (.ref C_BadTold) "__class__" = some (some (.builtin "object.__class__")))
    (xo_BadTold : PySem.W.mroIn K C_BadTold (.type "object") = some true)
    (xa_TooLong : PySem.W.findIn K (.ref C_TooLong) "__getattribute__" = some (some (.builtin "BaseException.__getattribute__")))
    (xg_TooLong : PySem.W.findIn K (.ref C_TooLong) "__getattr__" = some none)
    (xd_TooLong : PySem.W.hasDictIn K C_TooLong = true)
    (xk_TooLong : PySem.W.findIn K (.ref C_TooLong) "__class__" = some (some (.builtin "object.__class__")))
    (xo_TooLong : PySem.W.mroIn K C_TooLong (.type "object") = some true)
    (g_RankError : PySem.W.nsIn K mainGlobals "RankError" = some (some (.ref C_RankError)))
    (sb_RankError : PySem.W.subIn K (.ref C_RankError) (.type "BaseException") = some true)
    (ty_RankError : PySem.W.typeIn K (.ref C_RankError) = some (.type "type"))
    (ic_RankError : PySem.W.isClsIn K C_RankError = true)
    (s_NoRow_RankError : PySem.W.subIn K (.ref C_NoRow) (.ref C_RankError) = some true)
    (s_TooLong_RankError : PySem.W.subIn K (.ref C_TooLong) (.ref C_RankError) = some true)
    (s_BadSummary_RankError : PySem.W.subIn K (.ref C_BadSummary) (.ref C_RankError) = some true)
    (s_BadValue_RankError : PySem.W.subIn K (.ref C_BadValue) (.ref C_RankError) = some true)
    (s_BadTold_RankError : PySem.W.subIn K (.ref C_BadTold) (.ref C_RankError) = some true)
    (s_NoRow_BadTold : PySem.W.subIn K (.ref C_NoRow) (.ref C_BadTold) = some false)
    (s_TooLong_BadTold : PySem.W.subIn K (.ref C_TooLong) (.ref C_BadTold) = some false)
    (s_BadSummary_BadTold : PySem.W.subIn K (.ref C_BadSummary) (.ref C_BadTold) = some false)
    (s_BadValue_BadTold : PySem.W.subIn K (.ref C_BadValue) (.ref C_BadTold) = some false)
    (s_BadTold_NoRow : PySem.W.subIn K (.ref C_BadTold) (.ref C_NoRow) = some false)
    (s_BadTold_TooLong : PySem.W.subIn K (.ref C_BadTold) (.ref C_TooLong) = some false)
    (s_BadTold_BadSummary : PySem.W.subIn K (.ref C_BadTold) (.ref C_BadSummary) = some false)
    (s_BadTold_BadValue : PySem.W.subIn K (.ref C_BadTold) (.ref C_BadValue) = some false)
    (a_is_integer : PySem.W.nsIn K mainGlobals "is_integer" = some (some (.ref f_is_integer)))
    (l_is_integer : K.lookup f_is_integer = some ⟨oc_is_integer, od_is_integer, .func (PySem.W.fnOf "is_integer" "is_integer" (defArgs s_is_integer) (defBody s_is_integer) (defScope s_is_integer) .none kV_is_integer dc_is_integer pm_is_integer an_is_integer cd_is_integer ct_is_integer), sl_is_integer⟩)
    (c_is_integer : PySem.W.codeIn K cd_is_integer "is_integer" = true)
    (k_is_integer : PySem.W.keepIn K (.ref f_is_integer) = true)
    (a_is_between : PySem.W.nsIn K mainGlobals "is_between" = some (some (.ref f_is_between)))
    (l_is_between : K.lookup f_is_between = some ⟨oc_is_between, od_is_between, .func (PySem.W.fnOf "is_between" "is_between" (defArgs s_is_between) (defBody s_is_between) (defScope s_is_between) .none kV_is_between dc_is_between pm_is_between an_is_between cd_is_between ct_is_between), sl_is_between⟩)
    (c_is_between : PySem.W.codeIn K cd_is_between "is_between" = true)
    (k_is_between : PySem.W.keepIn K (.ref f_is_between) = true)
    (a_is_value : PySem.W.nsIn K mainGlobals "is_value" = some (some (.ref f_is_value)))
    (l_is_value : K.lookup f_is_value = some ⟨oc_is_value, od_is_value, .func (PySem.W.fnOf "is_value" "is_value" (defArgs s_is_value) (defBody s_is_value) (defScope s_is_value) .none kV_is_value dc_is_value pm_is_value an_is_value cd_is_value ct_is_value), sl_is_value⟩)
    (c_is_value : PySem.W.codeIn K cd_is_value "is_value" = true)
    (k_is_value : PySem.W.keepIn K (.ref f_is_value) = true)
    (a__is_entry : PySem.W.nsIn K mainGlobals "_is_entry" = some (some (.ref f__is_entry)))
    (l__is_entry : K.lookup f__is_entry = some ⟨oc__is_entry, od__is_entry, .func (PySem.W.fnOf "_is_entry" "_is_entry" (defArgs s__is_entry) (defBody s__is_entry) (defScope s__is_entry) .none kV__is_entry dc__is_entry pm__is_entry an__is_entry cd__is_entry ct__is_entry), sl__is_entry⟩)
    (c__is_entry : PySem.W.codeIn K cd__is_entry "_is_entry" = true)
    (k__is_entry : PySem.W.keepIn K (.ref f__is_entry) = true)
    (a__check_entries : PySem.W.nsIn K mainGlobals "_check_entries" = some (some (.ref f__check_entries)))
    (l__check_entries : K.lookup f__check_entries = some ⟨oc__check_entries, od__check_entries, .func (PySem.W.fnOf "_check_entries" "_check_entries" (defArgs s__check_entries) (defBody s__check_entries) (defScope s__check_entries) .none kV__check_entries dc__check_entries pm__check_entries an__check_entries cd__check_entries ct__check_entries), sl__check_entries⟩)
    (c__check_entries : PySem.W.codeIn K cd__check_entries "_check_entries" = true)
    (k__check_entries : PySem.W.keepIn K (.ref f__check_entries) = true)
    (a_check_summary : PySem.W.nsIn K mainGlobals "check_summary" = some (some (.ref f_check_summary)))
    (l_check_summary : K.lookup f_check_summary = some ⟨oc_check_summary, od_check_summary, .func (PySem.W.fnOf "check_summary" "check_summary" (defArgs s_check_summary) (defBody s_check_summary) (defScope s_check_summary) .none kV_check_summary dc_check_summary pm_check_summary an_check_summary cd_check_summary ct_check_summary), sl_check_summary⟩)
    (c_check_summary : PySem.W.codeIn K cd_check_summary "check_summary" = true)
    (k_check_summary : PySem.W.keepIn K (.ref f_check_summary) = true)
    (a__least_ranks : PySem.W.nsIn K mainGlobals "_least_ranks" = some (some (.ref f__least_ranks)))
    (l__least_ranks : K.lookup f__least_ranks = some ⟨oc__least_ranks, od__least_ranks, .func (PySem.W.fnOf "_least_ranks" "_least_ranks" (defArgs s__least_ranks) (defBody s__least_ranks) (defScope s__least_ranks) .none kV__least_ranks dc__least_ranks pm__least_ranks an__least_ranks cd__least_ranks ct__least_ranks), sl__least_ranks⟩)
    (c__least_ranks : PySem.W.codeIn K cd__least_ranks "_least_ranks" = true)
    (k__least_ranks : PySem.W.keepIn K (.ref f__least_ranks) = true)
    (a__greatest_ranks : PySem.W.nsIn K mainGlobals "_greatest_ranks" = some (some (.ref f__greatest_ranks)))
    (l__greatest_ranks : K.lookup f__greatest_ranks = some ⟨oc__greatest_ranks, od__greatest_ranks, .func (PySem.W.fnOf "_greatest_ranks" "_greatest_ranks" (defArgs s__greatest_ranks) (defBody s__greatest_ranks) (defScope s__greatest_ranks) .none kV__greatest_ranks dc__greatest_ranks pm__greatest_ranks an__greatest_ranks cd__greatest_ranks ct__greatest_ranks), sl__greatest_ranks⟩)
    (c__greatest_ranks : PySem.W.codeIn K cd__greatest_ranks "_greatest_ranks" = true)
    (k__greatest_ranks : PySem.W.keepIn K (.ref f__greatest_ranks) = true)
    (a_tightened : PySem.W.nsIn K mainGlobals "tightened" = some (some (.ref f_tightened)))
    (l_tightened : K.lookup f_tightened = some ⟨oc_tightened, od_tightened, .func (PySem.W.fnOf "tightened" "tightened" (defArgs s_tightened) (defBody s_tightened) (defScope s_tightened) .none kV_tightened dc_tightened pm_tightened an_tightened cd_tightened ct_tightened), sl_tightened⟩)
    (c_tightened : PySem.W.codeIn K cd_tightened "tightened" = true)
    (k_tightened : PySem.W.keepIn K (.ref f_tightened) = true)
    (a_surely_tightened : PySem.W.nsIn K mainGlobals "surely_tightened" = some (some (.ref f_surely_tightened)))
    (l_surely_tightened : K.lookup f_surely_tightened = some ⟨oc_surely_tightened, od_surely_tightened, .func (PySem.W.fnOf "surely_tightened" "surely_tightened" (defArgs s_surely_tightened) (defBody s_surely_tightened) (defScope s_surely_tightened) .none kV_surely_tightened dc_surely_tightened pm_surely_tightened an_surely_tightened cd_surely_tightened ct_surely_tightened), sl_surely_tightened⟩)
    (c_surely_tightened : PySem.W.codeIn K cd_surely_tightened "surely_tightened" = true)
    (k_surely_tightened : PySem.W.keepIn K (.ref f_surely_tightened) = true)
    (a_check_short : PySem.W.nsIn K mainGlobals "check_short" = some (some (.ref f_check_short)))
    (l_check_short : K.lookup f_check_short = some ⟨oc_check_short, od_check_short, .func (PySem.W.fnOf "check_short" "check_short" (defArgs s_check_short) (defBody s_check_short) (defScope s_check_short) .none kV_check_short dc_check_short pm_check_short an_check_short cd_check_short ct_check_short), sl_check_short⟩)
    (c_check_short : PySem.W.codeIn K cd_check_short "check_short" = true)
    (k_check_short : PySem.W.keepIn K (.ref f_check_short) = true)
    (a_surely_short : PySem.W.nsIn K mainGlobals "surely_short" = some (some (.ref f_surely_short)))
    (l_surely_short : K.lookup f_surely_short = some ⟨oc_surely_short, od_surely_short, .func (PySem.W.fnOf "surely_short" "surely_short" (defArgs s_surely_short) (defBody s_surely_short) (defScope s_surely_short) .none kV_surely_short dc_surely_short pm_surely_short an_surely_short cd_surely_short ct_surely_short), sl_surely_short⟩)
    (c_surely_short : PySem.W.codeIn K cd_surely_short "surely_short" = true)
    (k_surely_short : PySem.W.keepIn K (.ref f_surely_short) = true)
    (a_filled : PySem.W.nsIn K mainGlobals "filled" = some (some (.ref f_filled)))
    (l_filled : K.lookup f_filled = some ⟨oc_filled, od_filled, .func (PySem.W.fnOf "filled" "filled" (defArgs s_filled) (defBody s_filled) (defScope s_filled) .none kV_filled dc_filled pm_filled an_filled cd_filled ct_filled), sl_filled⟩)
    (c_filled : PySem.W.codeIn K cd_filled "filled" = true)
    (k_filled : PySem.W.keepIn K (.ref f_filled) = true)
    (a_row_for : PySem.W.nsIn K mainGlobals "row_for" = some (some (.ref f_row_for)))
    (l_row_for : K.lookup f_row_for = some ⟨oc_row_for, od_row_for, .func (PySem.W.fnOf "row_for" "row_for" (defArgs s_row_for) (defBody s_row_for) (defScope s_row_for) .none kV_row_for dc_row_for pm_row_for an_row_for cd_row_for ct_row_for), sl_row_for⟩)
    (c_row_for : PySem.W.codeIn K cd_row_for "row_for" = true)
    (k_row_for : PySem.W.keepIn K (.ref f_row_for) = true)
    (a_check_value : PySem.W.nsIn K mainGlobals "check_value" = some (some (.ref f_check_value)))
    (l_check_value : K.lookup f_check_value = some ⟨oc_check_value, od_check_value, .func (PySem.W.fnOf "check_value" "check_value" (defArgs s_check_value) (defBody s_check_value) (defScope s_check_value) .none kV_check_value dc_check_value pm_check_value an_check_value cd_check_value ct_check_value), sl_check_value⟩)
    (c_check_value : PySem.W.codeIn K cd_check_value "check_value" = true)
    (k_check_value : PySem.W.keepIn K (.ref f_check_value) = true)
    (a__check_row : PySem.W.nsIn K mainGlobals "_check_row" = some (some (.ref f__check_row)))
    (l__check_row : K.lookup f__check_row = some ⟨oc__check_row, od__check_row, .func (PySem.W.fnOf "_check_row" "_check_row" (defArgs s__check_row) (defBody s__check_row) (defScope s__check_row) .none kV__check_row dc__check_row pm__check_row an__check_row cd__check_row ct__check_row), sl__check_row⟩)
    (c__check_row : PySem.W.codeIn K cd__check_row "_check_row" = true)
    (k__check_row : PySem.W.keepIn K (.ref f__check_row) = true)
    (a__have_places : PySem.W.nsIn K mainGlobals "_have_places" = some (some (.ref f__have_places)))
    (l__have_places : K.lookup f__have_places = some ⟨oc__have_places, od__have_places, .func (PySem.W.fnOf "_have_places" "_have_places" (defArgs s__have_places) (defBody s__have_places) (defScope s__have_places) .none kV__have_places dc__have_places pm__have_places an__have_places cd__have_places ct__have_places), sl__have_places⟩)
    (c__have_places : PySem.W.codeIn K cd__have_places "_have_places" = true)
    (k__have_places : PySem.W.keepIn K (.ref f__have_places) = true)
    (a_leaves : PySem.W.nsIn K mainGlobals "leaves" = some (some (.ref f_leaves)))
    (l_leaves : K.lookup f_leaves = some ⟨oc_leaves, od_leaves, .func (PySem.W.fnOf "leaves" "leaves" (defArgs s_leaves) (defBody s_leaves) (defScope s_leaves) .none kV_leaves dc_leaves pm_leaves an_leaves cd_leaves ct_leaves), sl_leaves⟩)
    (c_leaves : PySem.W.codeIn K cd_leaves "leaves" = true)
    (k_leaves : PySem.W.keepIn K (.ref f_leaves) = true)
    (a__first_ranks : PySem.W.nsIn K mainGlobals "_first_ranks" = some (some (.ref f__first_ranks)))
    (l__first_ranks : K.lookup f__first_ranks = some ⟨oc__first_ranks, od__first_ranks, .func (PySem.W.fnOf "_first_ranks" "_first_ranks" (defArgs s__first_ranks) (defBody s__first_ranks) (defScope s__first_ranks) .none kV__first_ranks dc__first_ranks pm__first_ranks an__first_ranks cd__first_ranks ct__first_ranks), sl__first_ranks⟩)
    (c__first_ranks : PySem.W.codeIn K cd__first_ranks "_first_ranks" = true)
    (k__first_ranks : PySem.W.keepIn K (.ref f__first_ranks) = true)
    (a__row_with_few : PySem.W.nsIn K mainGlobals "_row_with_few" = some (some (.ref f__row_with_few)))
    (l__row_with_few : K.lookup f__row_with_few = some ⟨oc__row_with_few, od__row_with_few, .func (PySem.W.fnOf "_row_with_few" "_row_with_few" (defArgs s__row_with_few) (defBody s__row_with_few) (defScope s__row_with_few) .none kV__row_with_few dc__row_with_few pm__row_with_few an__row_with_few cd__row_with_few ct__row_with_few), sl__row_with_few⟩)
    (c__row_with_few : PySem.W.codeIn K cd__row_with_few "_row_with_few" = true)
    (k__row_with_few : PySem.W.keepIn K (.ref f__row_with_few) = true)
    (a__telling_rows : PySem.W.nsIn K mainGlobals "_telling_rows" = some (some (.ref f__telling_rows)))
    (l__telling_rows : K.lookup f__telling_rows = some ⟨oc__telling_rows, od__telling_rows, .func (PySem.W.fnOf "_telling_rows" "_telling_rows" (defArgs s__telling_rows) (defBody s__telling_rows) (defScope s__telling_rows) .none kV__telling_rows dc__telling_rows pm__telling_rows an__telling_rows cd__telling_rows ct__telling_rows), sl__telling_rows⟩)
    (c__telling_rows : PySem.W.codeIn K cd__telling_rows "_telling_rows" = true)
    (k__telling_rows : PySem.W.keepIn K (.ref f__telling_rows) = true)
    (a_lacking_row : PySem.W.nsIn K mainGlobals "lacking_row" = some (some (.ref f_lacking_row)))
    (l_lacking_row : K.lookup f_lacking_row = some ⟨oc_lacking_row, od_lacking_row, .func (PySem.W.fnOf "lacking_row" "lacking_row" (defArgs s_lacking_row) (defBody s_lacking_row) (defScope s_lacking_row) .none kV_lacking_row dc_lacking_row pm_lacking_row an_lacking_row cd_lacking_row ct_lacking_row), sl_lacking_row⟩)
    (c_lacking_row : PySem.W.codeIn K cd_lacking_row "lacking_row" = true)
    (k_lacking_row : PySem.W.keepIn K (.ref f_lacking_row) = true)
    (a_within : PySem.W.nsIn K mainGlobals "within" = some (some (.ref f_within)))
    (l_within : K.lookup f_within = some ⟨oc_within, od_within, .func (PySem.W.fnOf "within" "within" (defArgs s_within) (defBody s_within) (defScope s_within) .none kV_within dc_within pm_within an_within cd_within ct_within), sl_within⟩)
    (c_within : PySem.W.codeIn K cd_within "within" = true)
    (k_within : PySem.W.keepIn K (.ref f_within) = true)
    (a__choices : PySem.W.nsIn K mainGlobals "_choices" = some (some (.ref f__choices)))
    (l__choices : K.lookup f__choices = some ⟨oc__choices, od__choices, .func (PySem.W.fnOf "_choices" "_choices" (defArgs s__choices) (defBody s__choices) (defScope s__choices) .none kV__choices dc__choices pm__choices an__choices cd__choices ct__choices), sl__choices⟩)
    (c__choices : PySem.W.codeIn K cd__choices "_choices" = true)
    (k__choices : PySem.W.keepIn K (.ref f__choices) = true)
    (a__last_place : PySem.W.nsIn K mainGlobals "_last_place" = some (some (.ref f__last_place)))
    (l__last_place : K.lookup f__last_place = some ⟨oc__last_place, od__last_place, .func (PySem.W.fnOf "_last_place" "_last_place" (defArgs s__last_place) (defBody s__last_place) (defScope s__last_place) .none kV__last_place dc__last_place pm__last_place an__last_place cd__last_place ct__last_place), sl__last_place⟩)
    (c__last_place : PySem.W.codeIn K cd__last_place "_last_place" = true)
    (k__last_place : PySem.W.keepIn K (.ref f__last_place) = true)
    (a__with_others : PySem.W.nsIn K mainGlobals "_with_others" = some (some (.ref f__with_others)))
    (l__with_others : K.lookup f__with_others = some ⟨oc__with_others, od__with_others, .func (PySem.W.fnOf "_with_others" "_with_others" (defArgs s__with_others) (defBody s__with_others) (defScope s__with_others) .none kV__with_others dc__with_others pm__with_others an__with_others cd__with_others ct__with_others), sl__with_others⟩)
    (c__with_others : PySem.W.codeIn K cd__with_others "_with_others" = true)
    (k__with_others : PySem.W.keepIn K (.ref f__with_others) = true)
    (a__with_kept : PySem.W.nsIn K mainGlobals "_with_kept" = some (some (.ref f__with_kept)))
    (l__with_kept : K.lookup f__with_kept = some ⟨oc__with_kept, od__with_kept, .func (PySem.W.fnOf "_with_kept" "_with_kept" (defArgs s__with_kept) (defBody s__with_kept) (defScope s__with_kept) .none kV__with_kept dc__with_kept pm__with_kept an__with_kept cd__with_kept ct__with_kept), sl__with_kept⟩)
    (c__with_kept : PySem.W.codeIn K cd__with_kept "_with_kept" = true)
    (k__with_kept : PySem.W.keepIn K (.ref f__with_kept) = true)
    (a_count_rows : PySem.W.nsIn K mainGlobals "count_rows" = some (some (.ref f_count_rows)))
    (l_count_rows : K.lookup f_count_rows = some ⟨oc_count_rows, od_count_rows, .func (PySem.W.fnOf "count_rows" "count_rows" (defArgs s_count_rows) (defBody s_count_rows) (defScope s_count_rows) .none kV_count_rows dc_count_rows pm_count_rows an_count_rows cd_count_rows ct_count_rows), sl_count_rows⟩)
    (c_count_rows : PySem.W.codeIn K cd_count_rows "count_rows" = true)
    (k_count_rows : PySem.W.keepIn K (.ref f_count_rows) = true)
    (a__is_told : PySem.W.nsIn K mainGlobals "_is_told" = some (some (.ref f__is_told)))
    (l__is_told : K.lookup f__is_told = some ⟨oc__is_told, od__is_told, .func (PySem.W.fnOf "_is_told" "_is_told" (defArgs s__is_told) (defBody s__is_told) (defScope s__is_told) .none kV__is_told dc__is_told pm__is_told an__is_told cd__is_told ct__is_told), sl__is_told⟩)
    (c__is_told : PySem.W.codeIn K cd__is_told "_is_told" = true)
    (k__is_told : PySem.W.keepIn K (.ref f__is_told) = true)
    (a__check_told : PySem.W.nsIn K mainGlobals "_check_told" = some (some (.ref f__check_told)))
    (l__check_told : K.lookup f__check_told = some ⟨oc__check_told, od__check_told, .func (PySem.W.fnOf "_check_told" "_check_told" (defArgs s__check_told) (defBody s__check_told) (defScope s__check_told) .none kV__check_told dc__check_told pm__check_told an__check_told cd__check_told ct__check_told), sl__check_told⟩)
    (c__check_told : PySem.W.codeIn K cd__check_told "_check_told" = true)
    (k__check_told : PySem.W.keepIn K (.ref f__check_told) = true)
    (a__narrowed : PySem.W.nsIn K mainGlobals "_narrowed" = some (some (.ref f__narrowed)))
    (l__narrowed : K.lookup f__narrowed = some ⟨oc__narrowed, od__narrowed, .func (PySem.W.fnOf "_narrowed" "_narrowed" (defArgs s__narrowed) (defBody s__narrowed) (defScope s__narrowed) .none kV__narrowed dc__narrowed pm__narrowed an__narrowed cd__narrowed ct__narrowed), sl__narrowed⟩)
    (c__narrowed : PySem.W.codeIn K cd__narrowed "_narrowed" = true)
    (k__narrowed : PySem.W.keepIn K (.ref f__narrowed) = true)
    (a__can_stand : PySem.W.nsIn K mainGlobals "_can_stand" = some (some (.ref f__can_stand)))
    (l__can_stand : K.lookup f__can_stand = some ⟨oc__can_stand, od__can_stand, .func (PySem.W.fnOf "_can_stand" "_can_stand" (defArgs s__can_stand) (defBody s__can_stand) (defScope s__can_stand) .none kV__can_stand dc__can_stand pm__can_stand an__can_stand cd__can_stand ct__can_stand), sl__can_stand⟩)
    (c__can_stand : PySem.W.codeIn K cd__can_stand "_can_stand" = true)
    (k__can_stand : PySem.W.keepIn K (.ref f__can_stand) = true)
    (a_can_have : PySem.W.nsIn K mainGlobals "can_have" = some (some (.ref f_can_have)))
    (l_can_have : K.lookup f_can_have = some ⟨oc_can_have, od_can_have, .func (PySem.W.fnOf "can_have" "can_have" (defArgs s_can_have) (defBody s_can_have) (defScope s_can_have) .none kV_can_have dc_can_have pm_can_have an_can_have cd_can_have ct_can_have), sl_can_have⟩)
    (c_can_have : PySem.W.codeIn K cd_can_have "can_have" = true)
    (k_can_have : PySem.W.keepIn K (.ref f_can_have) = true)
    (a_row_with : PySem.W.nsIn K mainGlobals "row_with" = some (some (.ref f_row_with)))
    (l_row_with : K.lookup f_row_with = some ⟨oc_row_with, od_row_with, .func (PySem.W.fnOf "row_with" "row_with" (defArgs s_row_with) (defBody s_row_with) (defScope s_row_with) .none kV_row_with dc_row_with pm_row_with an_row_with cd_row_with ct_row_with), sl_row_with⟩)
    (c_row_with : PySem.W.codeIn K cd_row_with "row_with" = true)
    (k_row_with : PySem.W.keepIn K (.ref f_row_with) = true)
    (a__law_mix : PySem.W.nsIn K mainGlobals "_law_mix" = some (some (.ref f__law_mix)))
    (l__law_mix : K.lookup f__law_mix = some ⟨oc__law_mix, od__law_mix, .func (PySem.W.fnOf "_law_mix" "_law_mix" (defArgs s__law_mix) (defBody s__law_mix) (defScope s__law_mix) .none kV__law_mix dc__law_mix pm__law_mix an__law_mix cd__law_mix ct__law_mix), sl__law_mix⟩)
    (c__law_mix : PySem.W.codeIn K cd__law_mix "_law_mix" = true)
    (k__law_mix : PySem.W.keepIn K (.ref f__law_mix) = true)
    (a__law_next : PySem.W.nsIn K mainGlobals "_law_next" = some (some (.ref f__law_next)))
    (l__law_next : K.lookup f__law_next = some ⟨oc__law_next, od__law_next, .func (PySem.W.fnOf "_law_next" "_law_next" (defArgs s__law_next) (defBody s__law_next) (defScope s__law_next) .none kV__law_next dc__law_next pm__law_next an__law_next cd__law_next ct__law_next), sl__law_next⟩)
    (c__law_next : PySem.W.codeIn K cd__law_next "_law_next" = true)
    (k__law_next : PySem.W.keepIn K (.ref f__law_next) = true)
    (a__law_thing_at : PySem.W.nsIn K mainGlobals "_law_thing_at" = some (some (.ref f__law_thing_at)))
    (l__law_thing_at : K.lookup f__law_thing_at = some ⟨oc__law_thing_at, od__law_thing_at, .func (PySem.W.fnOf "_law_thing_at" "_law_thing_at" (defArgs s__law_thing_at) (defBody s__law_thing_at) (defScope s__law_thing_at) .none kV__law_thing_at dc__law_thing_at pm__law_thing_at an__law_thing_at cd__law_thing_at ct__law_thing_at), sl__law_thing_at⟩)
    (c__law_thing_at : PySem.W.codeIn K cd__law_thing_at "_law_thing_at" = true)
    (k__law_thing_at : PySem.W.keepIn K (.ref f__law_thing_at) = true)
    (a__law_ask : PySem.W.nsIn K mainGlobals "_law_ask" = some (some (.ref f__law_ask)))
    (l__law_ask : K.lookup f__law_ask = some ⟨oc__law_ask, od__law_ask, .func (PySem.W.fnOf "_law_ask" "_law_ask" (defArgs s__law_ask) (defBody s__law_ask) (defScope s__law_ask) .none kV__law_ask dc__law_ask pm__law_ask an__law_ask cd__law_ask ct__law_ask), sl__law_ask⟩)
    (c__law_ask : PySem.W.codeIn K cd__law_ask "_law_ask" = true)
    (k__law_ask : PySem.W.keepIn K (.ref f__law_ask) = true)
    (a__law_told : PySem.W.nsIn K mainGlobals "_law_told" = some (some (.ref f__law_told)))
    (l__law_told : K.lookup f__law_told = some ⟨oc__law_told, od__law_told, .func (PySem.W.fnOf "_law_told" "_law_told" (defArgs s__law_told) (defBody s__law_told) (defScope s__law_told) .none kV__law_told dc__law_told pm__law_told an__law_told cd__law_told ct__law_told), sl__law_told⟩)
    (c__law_told : PySem.W.codeIn K cd__law_told "_law_told" = true)
    (k__law_told : PySem.W.keepIn K (.ref f__law_told) = true)
    (a__law_good_one : PySem.W.nsIn K mainGlobals "_law_good_one" = some (some (.ref f__law_good_one)))
    (l__law_good_one : K.lookup f__law_good_one = some ⟨oc__law_good_one, od__law_good_one, .func (PySem.W.fnOf "_law_good_one" "_law_good_one" (defArgs s__law_good_one) (defBody s__law_good_one) (defScope s__law_good_one) .none kV__law_good_one dc__law_good_one pm__law_good_one an__law_good_one cd__law_good_one ct__law_good_one), sl__law_good_one⟩)
    (c__law_good_one : PySem.W.codeIn K cd__law_good_one "_law_good_one" = true)
    (k__law_good_one : PySem.W.keepIn K (.ref f__law_good_one) = true)
    (a__law_bad_one : PySem.W.nsIn K mainGlobals "_law_bad_one" = some (some (.ref f__law_bad_one)))
    (l__law_bad_one : K.lookup f__law_bad_one = some ⟨oc__law_bad_one, od__law_bad_one, .func (PySem.W.fnOf "_law_bad_one" "_law_bad_one" (defArgs s__law_bad_one) (defBody s__law_bad_one) (defScope s__law_bad_one) .none kV__law_bad_one dc__law_bad_one pm__law_bad_one an__law_bad_one cd__law_bad_one ct__law_bad_one), sl__law_bad_one⟩)
    (c__law_bad_one : PySem.W.codeIn K cd__law_bad_one "_law_bad_one" = true)
    (k__law_bad_one : PySem.W.keepIn K (.ref f__law_bad_one) = true)
    (a_law : PySem.W.nsIn K mainGlobals "law" = some (some (.ref f_law)))
    (l_law : K.lookup f_law = some ⟨oc_law, od_law, .func (PySem.W.fnOf "law" "law" (defArgs s_law) (defBody s_law) (defScope s_law) .none kV_law dc_law pm_law an_law cd_law ct_law), sl_law⟩)
    (c_law : PySem.W.codeIn K cd_law "law" = true)
    (k_law : PySem.W.keepIn K (.ref f_law) = true) :
    ∃ fd : FuncData, (∀ (s : Shared) (v : Value), BindsTo s fd ⟨[v], []⟩ [("_law_script", v)]) ∧ ∀ base : Heap, K.In base → base.Ns mainGlobals mg → FnOk l.prog w K mg base CX0 17 fa fd ["_law_script"] (spLaw K) := by
  have e := hfa.symm.trans (PySem.W.mg_of X G a_law)
  cases e
  have m_isinstance := PySem.W.mg_none_of X G z_isinstance
  have m_int := PySem.W.mg_none_of X G z_int
  have m_bool := PySem.W.mg_none_of X G z_bool
  have m_tuple := PySem.W.mg_none_of X G z_tuple
  have m_len := PySem.W.mg_none_of X G z_len
  have m_enumerate := PySem.W.mg_none_of X G z_enumerate
  have m_max := PySem.W.mg_none_of X G z_max
  have m_min := PySem.W.mg_none_of X G z_min
  have m_reversed := PySem.W.mg_none_of X G z_reversed
  have m_zip := PySem.W.mg_none_of X G z_zip
  have m_list := PySem.W.mg_none_of X G z_list
  have m_sorted := PySem.W.mg_none_of X G z_sorted
  have m_range := PySem.W.mg_none_of X G z_range
  have m_all := PySem.W.mg_none_of X G z_all
  have m_dict := PySem.W.mg_none_of X G z_dict
  have m_sum := PySem.W.mg_none_of X G z_sum
  have m_comb := PySem.W.mg_of X G g_comb
  subst e_GREATEST_COUNT
  have m_GREATEST_COUNT := PySem.W.mg_of X G g_GREATEST_COUNT
  subst e_GREATEST_VALUE
  have m_GREATEST_VALUE := PySem.W.mg_of X G g_GREATEST_VALUE
  subst e_MOST_ENTRIES
  have m_MOST_ENTRIES := PySem.W.mg_of X G g_MOST_ENTRIES
  subst e_MOST_NUMBERS
  have m_MOST_NUMBERS := PySem.W.mg_of X G g_MOST_NUMBERS
  subst e_MOST_TOLD
  have m_MOST_TOLD := PySem.W.mg_of X G g_MOST_TOLD
  have F_Sinit := fun_mk (st := s_Summary_init) l_Sinit c_Sinit k_Sinit
  have b_Sinit := F_Sinit.binds (ps := ["self", "many", "entries"]) fun _ _ _ _ _ _ us hl => match us, hl with | [_, _, _], _ => rfl
  have F_Smany := fun_mk (st := s_Summary_many) l_Smany c_Smany k_Smany
  have b_Smany := F_Smany.binds (ps := ["self"]) fun _ _ _ _ _ _ us hl => match us, hl with | [_], _ => rfl
  have F_Sentries := fun_mk (st := s_Summary_entries) l_Sentries c_Sentries k_Sentries
  have b_Sentries := F_Sentries.binds (ps := ["self"]) fun _ _ _ _ _ _ us hl => match us, hl with | [_], _ => rfl
  have F_Slen := fun_mk (st := s_Summary_len) l_Slen c_Slen k_Slen
  have b_Slen := F_Slen.binds (ps := ["self"]) fun _ _ _ _ _ _ us hl => match us, hl with | [_], _ => rfl
  have F_Seq := fun_mk (st := s_Summary_eq) l_Seq c_Seq k_Seq
  have b_Seq := F_Seq.binds (ps := ["self", "other"]) fun _ _ _ _ _ _ us hl => match us, hl with | [_, _], _ => rfl
  have T : SumT K mg C := ⟨⟨⟨pg, hd, po, sa⟩, ha, hn, htk, hm, if_pos (beq_self_eq_true _)⟩, nM, nE, PySem.W.mg_of X G aC, kit_no ic ty st, nf1, nf2⟩
  have F_Rinit := fun_mk (st := s_RankError_init) l_Rinit c_Rinit k_Rinit
  have b_Rinit := F_Rinit.binds (ps := ["self"]) fun _ _ _ _ _ _ us hl => match us, hl with | [_], _ => rfl
  have T_NoRow : NzTxt K mg "NoRow" C_NoRow f_Rinit := { gC := PySem.W.mg_of X G g_NoRow, cls := ⟨_, _, _, _, _, _, _, _, _, _, _, _, _, _, _, o_NoRow, rfl⟩, iC := n_NoRow, tC := tf_R, kC := kp_NoRow, exC := sb_NoRow, tyC := ty_NoRow, fn := ⟨_, _, _, _, _, _, _, _, _, _, _, _, l_Rinit, c_Rinit⟩ }
  have ex_NoRow := exm_b sb_NoRow ic_NoRow ty_NoRow ss_NoRow
  have T_TooLong : NzTxt K mg "TooLong" C_TooLong f_Rinit := { gC := PySem.W.mg_of X G g_TooLong, cls := ⟨_, _, _, _, _, _, _, _, _, _, _, _, _, _, _, o_TooLong, rfl⟩, iC := n_TooLong, tC := tf_R, kC := kp_TooLong, exC := sb_TooLong, tyC := ty_TooLong, fn := ⟨_, _, _, _, _, _, _, _, _, _, _, _, l_Rinit, c_Rinit⟩ }
  have ex_TooLong := exm_b sb_TooLong ic_TooLong ty_TooLong ss_TooLong
  have T_BadSummary : NzTxt K mg "BadSummary" C_BadSummary f_Rinit := { gC := PySem.W.mg_of X G g_BadSummary, cls := ⟨_, _, _, _, _, _, _, _, _, _, _, _, _, _, _, o_BadSummary, rfl⟩, iC := n_BadSummary, tC := tf_R, kC := kp_BadSummary, exC := sb_BadSummary, tyC := ty_BadSummary, fn := ⟨_, _, _, _, _, _, _, _, _, _, _, _, l_Rinit, c_Rinit⟩ }
  have ex_BadSummary := exm_b sb_BadSummary ic_BadSummary ty_BadSummary ss_BadSummary
  have T_BadValue : NzTxt K mg "BadValue" C_BadValue f_Rinit := { gC := PySem.W.mg_of X G g_BadValue, cls := ⟨_, _, _, _, _, _, _, _, _, _, _, _, _, _, _, o_BadValue, rfl⟩, iC := n_BadValue, tC := tf_R, kC := kp_BadValue, exC := sb_BadValue, tyC := ty_BadValue, fn := ⟨_, _, _, _, _, _, _, _, _, _, _, _, l_Rinit, c_Rinit⟩ }
  have ex_BadValue := exm_b sb_BadValue ic_BadValue ty_BadValue ss_BadValue
  have ex_NoRow_TooLong := exm_b sb_TooLong ic_TooLong ty_TooLong s_NoRow_TooLong
  have ex_NoRow_BadSummary := exm_b sb_BadSummary ic_BadSummary ty_BadSummary s_NoRow_BadSummary
  have ex_NoRow_BadValue := exm_b sb_BadValue ic_BadValue ty_BadValue s_NoRow_BadValue
  have ex_TooLong_NoRow := exm_b sb_NoRow ic_NoRow ty_NoRow s_TooLong_NoRow
  have ex_TooLong_BadSummary := exm_b sb_BadSummary ic_BadSummary ty_BadSummary s_TooLong_BadSummary
  have ex_TooLong_BadValue := exm_b sb_BadValue ic_BadValue ty_BadValue s_TooLong_BadValue
  have ex_BadSummary_NoRow := exm_b sb_NoRow ic_NoRow ty_NoRow s_BadSummary_NoRow
  have ex_BadSummary_TooLong := exm_b sb_TooLong ic_TooLong ty_TooLong s_BadSummary_TooLong
  have ex_BadSummary_BadValue := exm_b sb_BadValue ic_BadValue ty_BadValue s_BadSummary_BadValue
  have ex_BadValue_NoRow := exm_b sb_NoRow ic_NoRow ty_NoRow s_BadValue_NoRow
  have ex_BadValue_TooLong := exm_b sb_TooLong ic_TooLong ty_TooLong s_BadValue_TooLong
  have ex_BadValue_BadSummary := exm_b sb_BadSummary ic_BadSummary ty_BadSummary s_BadValue_BadSummary
  have F_XBadTold := fun_mk (st := s_BadTold_init) l_XBadTold c_XBadTold k_XBadTold
  have b_XBadTold := F_XBadTold.binds (ps := ["self", "index"]) fun _ _ _ _ _ _ us hl => match us, hl with | [_, _], _ => rfl
  have ex_BadTold := exm_b sb_BadTold ic_BadTold ty_BadTold ss_BadTold
  have OX_BadTold : OexC K C_BadTold := ⟨⟨_, _, _, _, _, _, _, _, _, _, _, _, _, _, _, o_BadTold, rfl⟩, sa_BadTold, sb_BadTold, ty_BadTold, kp_BadTold⟩
  have XX_BadTold : XfC K C_BadTold := ⟨xa_BadTold, xg_BadTold, sb_BadTold, xd_BadTold⟩
  have mgC_BadTold := PySem.W.mg_of X G g_BadTold
  have XC_BadSummary : ExcC K C_BadSummary := ⟨xa_BadSummary, xg_BadSummary, sb_BadSummary, xd_BadSummary, xk_BadSummary, hn, htk, xo_BadSummary⟩
  have XC_BadValue : ExcC K C_BadValue := ⟨xa_BadValue, xg_BadValue, sb_BadValue, xd_BadValue, xk_BadValue, hn, htk, xo_BadValue⟩
  have XC_NoRow : ExcC K C_NoRow := ⟨xa_NoRow, xg_NoRow, sb_NoRow, xd_NoRow, xk_NoRow, hn, htk, xo_NoRow⟩
  have XC_BadTold : ExcC K C_BadTold := ⟨xa_BadTold, xg_BadTold, sb_BadTold, xd_BadTold, xk_BadTold, hn, htk, xo_BadTold⟩
  have XC_TooLong : ExcC K C_TooLong := ⟨xa_TooLong, xg_TooLong, sb_TooLong, xd_TooLong, xk_TooLong, hn, htk, xo_TooLong⟩
  have mgC_RankError := PySem.W.mg_of X G g_RankError
  have ex_NoRow_RankError := exm_b sb_RankError ic_RankError ty_RankError s_NoRow_RankError
  have kit_NoRow_RankError := kit_own ic_RankError ty_RankError s_NoRow_RankError ss_NoRow
  have ex_TooLong_RankError := exm_b sb_RankError ic_RankError ty_RankError s_TooLong_RankError
  have kit_TooLong_RankError := kit_own ic_RankError ty_RankError s_TooLong_RankError ss_TooLong
  have ex_BadSummary_RankError := exm_b sb_RankError ic_RankError ty_RankError s_BadSummary_RankError
  have kit_BadSummary_RankError := kit_own ic_RankError ty_RankError s_BadSummary_RankError ss_BadSummary
  have ex_BadValue_RankError := exm_b sb_RankError ic_RankError ty_RankError s_BadValue_RankError
  have kit_BadValue_RankError := kit_own ic_RankError ty_RankError s_BadValue_RankError ss_BadValue
  have ex_BadTold_RankError := exm_b sb_RankError ic_RankError ty_RankError s_BadTold_RankError
  have kit_BadTold_RankError := kit_own ic_RankError ty_RankError s_BadTold_RankError ss_BadTold
  have ex_NoRow_BadTold := exm_b sb_BadTold ic_BadTold ty_BadTold s_NoRow_BadTold
  have ex_TooLong_BadTold := exm_b sb_BadTold ic_BadTold ty_BadTold s_TooLong_BadTold
  have ex_BadSummary_BadTold := exm_b sb_BadTold ic_BadTold ty_BadTold s_BadSummary_BadTold
  have ex_BadValue_BadTold := exm_b sb_BadTold ic_BadTold ty_BadTold s_BadValue_BadTold
  have ex_BadTold_NoRow := exm_b sb_NoRow ic_NoRow ty_NoRow s_BadTold_NoRow
  have ex_BadTold_TooLong := exm_b sb_TooLong ic_TooLong ty_TooLong s_BadTold_TooLong
  have ex_BadTold_BadSummary := exm_b sb_BadSummary ic_BadSummary ty_BadSummary s_BadTold_BadSummary
  have ex_BadTold_BadValue := exm_b sb_BadValue ic_BadValue ty_BadValue s_BadTold_BadValue
  have NS : NoSub K C := ⟨fun T hT => by
      simp only [List.mem_cons, List.not_mem_nil, or_false] at hT
      rcases hT with rfl | rfl | rfl | rfl | rfl | rfl
      · exact kit_no ic ty sn_NoneType
      · exact kit_no ic ty sn_bool
      · exact kit_no ic ty sn_int
      · exact kit_no ic ty sn_str
      · exact kit_no ic ty sn_list
      · exact kit_no ic ty sn_tuple⟩
  have F_is_integer := fun_mk (st := s_is_integer) l_is_integer c_is_integer k_is_integer
  have b_is_integer := F_is_integer.binds (ps := ["value"]) fun _ _ _ _ _ _ us hl => match us, hl with | [_], _ => rfl
  have d_is_integer : Fd K mg "is_integer" "is_integer" s_is_integer ["value"] f_is_integer _ := ⟨F_is_integer, PySem.W.mg_of X G a_is_integer, b_is_integer⟩
  have F_is_between := fun_mk (st := s_is_between) l_is_between c_is_between k_is_between
  have b_is_between := F_is_between.binds (ps := ["value", "least", "greatest"]) fun _ _ _ _ _ _ us hl => match us, hl with | [_, _, _], _ => rfl
  have d_is_between : Fd K mg "is_between" "is_between" s_is_between ["value", "least", "greatest"] f_is_between _ := ⟨F_is_between, PySem.W.mg_of X G a_is_between, b_is_between⟩
  have F_is_value := fun_mk (st := s_is_value) l_is_value c_is_value k_is_value
  have b_is_value := F_is_value.binds (ps := ["thing"]) fun _ _ _ _ _ _ us hl => match us, hl with | [_], _ => rfl
  have d_is_value : Fd K mg "is_value" "is_value" s_is_value ["thing"] f_is_value _ := ⟨F_is_value, PySem.W.mg_of X G a_is_value, b_is_value⟩
  have F__is_entry := fun_mk (st := s__is_entry) l__is_entry c__is_entry k__is_entry
  have b__is_entry := F__is_entry.binds (ps := ["many", "thing"]) fun _ _ _ _ _ _ us hl => match us, hl with | [_, _], _ => rfl
  have d__is_entry : Fd K mg "_is_entry" "_is_entry" s__is_entry ["many", "thing"] f__is_entry _ := ⟨F__is_entry, PySem.W.mg_of X G a__is_entry, b__is_entry⟩
  have F__check_entries := fun_mk (st := s__check_entries) l__check_entries c__check_entries k__check_entries
  have b__check_entries := F__check_entries.binds (ps := ["many", "entries"]) fun _ _ _ _ _ _ us hl => match us, hl with | [_, _], _ => rfl
  have d__check_entries : Fd K mg "_check_entries" "_check_entries" s__check_entries ["many", "entries"] f__check_entries _ := ⟨F__check_entries, PySem.W.mg_of X G a__check_entries, b__check_entries⟩
  have F_check_summary := fun_mk (st := s_check_summary) l_check_summary c_check_summary k_check_summary
  have b_check_summary := F_check_summary.binds (ps := ["summary"]) fun _ _ _ _ _ _ us hl => match us, hl with | [_], _ => rfl
  have d_check_summary : Fd K mg "check_summary" "check_summary" s_check_summary ["summary"] f_check_summary _ := ⟨F_check_summary, PySem.W.mg_of X G a_check_summary, b_check_summary⟩
  have F__least_ranks := fun_mk (st := s__least_ranks) l__least_ranks c__least_ranks k__least_ranks
  have b__least_ranks := F__least_ranks.binds (ps := ["summary"]) fun _ _ _ _ _ _ us hl => match us, hl with | [_], _ => rfl
  have d__least_ranks : Fd K mg "_least_ranks" "_least_ranks" s__least_ranks ["summary"] f__least_ranks _ := ⟨F__least_ranks, PySem.W.mg_of X G a__least_ranks, b__least_ranks⟩
  have F__greatest_ranks := fun_mk (st := s__greatest_ranks) l__greatest_ranks c__greatest_ranks k__greatest_ranks
  have b__greatest_ranks := F__greatest_ranks.binds (ps := ["summary"]) fun _ _ _ _ _ _ us hl => match us, hl with | [_], _ => rfl
  have d__greatest_ranks : Fd K mg "_greatest_ranks" "_greatest_ranks" s__greatest_ranks ["summary"] f__greatest_ranks _ := ⟨F__greatest_ranks, PySem.W.mg_of X G a__greatest_ranks, b__greatest_ranks⟩
  have F_tightened := fun_mk (st := s_tightened) l_tightened c_tightened k_tightened
  have b_tightened := F_tightened.binds (ps := ["summary"]) fun _ _ _ _ _ _ us hl => match us, hl with | [_], _ => rfl
  have d_tightened : Fd K mg "tightened" "tightened" s_tightened ["summary"] f_tightened _ := ⟨F_tightened, PySem.W.mg_of X G a_tightened, b_tightened⟩
  have F_surely_tightened := fun_mk (st := s_surely_tightened) l_surely_tightened c_surely_tightened k_surely_tightened
  have b_surely_tightened := F_surely_tightened.binds (ps := ["summary"]) fun _ _ _ _ _ _ us hl => match us, hl with | [_], _ => rfl
  have d_surely_tightened : Fd K mg "surely_tightened" "surely_tightened" s_surely_tightened ["summary"] f_surely_tightened _ := ⟨F_surely_tightened, PySem.W.mg_of X G a_surely_tightened, b_surely_tightened⟩
  have F_check_short := fun_mk (st := s_check_short) l_check_short c_check_short k_check_short
  have b_check_short := F_check_short.binds (ps := ["summary"]) fun _ _ _ _ _ _ us hl => match us, hl with | [_], _ => rfl
  have d_check_short : Fd K mg "check_short" "check_short" s_check_short ["summary"] f_check_short _ := ⟨F_check_short, PySem.W.mg_of X G a_check_short, b_check_short⟩
  have F_surely_short := fun_mk (st := s_surely_short) l_surely_short c_surely_short k_surely_short
  have b_surely_short := F_surely_short.binds (ps := ["summary"]) fun _ _ _ _ _ _ us hl => match us, hl with | [_], _ => rfl
  have d_surely_short : Fd K mg "surely_short" "surely_short" s_surely_short ["summary"] f_surely_short _ := ⟨F_surely_short, PySem.W.mg_of X G a_surely_short, b_surely_short⟩
  have F_filled := fun_mk (st := s_filled) l_filled c_filled k_filled
  have b_filled := F_filled.binds (ps := ["many", "numbers", "first"]) fun _ _ _ _ _ _ us hl => match us, hl with | [_, _, _], _ => rfl
  have d_filled : Fd K mg "filled" "filled" s_filled ["many", "numbers", "first"] f_filled _ := ⟨F_filled, PySem.W.mg_of X G a_filled, b_filled⟩
  have F_row_for := fun_mk (st := s_row_for) l_row_for c_row_for k_row_for
  have b_row_for := F_row_for.binds (ps := ["summary"]) fun _ _ _ _ _ _ us hl => match us, hl with | [_], _ => rfl
  have d_row_for : Fd K mg "row_for" "row_for" s_row_for ["summary"] f_row_for _ := ⟨F_row_for, PySem.W.mg_of X G a_row_for, b_row_for⟩
  have F_check_value := fun_mk (st := s_check_value) l_check_value c_check_value k_check_value
  have b_check_value := F_check_value.binds (ps := ["thing"]) fun _ _ _ _ _ _ us hl => match us, hl with | [_], _ => rfl
  have d_check_value : Fd K mg "check_value" "check_value" s_check_value ["thing"] f_check_value _ := ⟨F_check_value, PySem.W.mg_of X G a_check_value, b_check_value⟩
  have F__check_row := fun_mk (st := s__check_row) l__check_row c__check_row k__check_row
  have b__check_row := F__check_row.binds (ps := ["row"]) fun _ _ _ _ _ _ us hl => match us, hl with | [_], _ => rfl
  have d__check_row : Fd K mg "_check_row" "_check_row" s__check_row ["row"] f__check_row _ := ⟨F__check_row, PySem.W.mg_of X G a__check_row, b__check_row⟩
  have F__have_places := fun_mk (st := s__have_places) l__have_places c__have_places k__have_places
  have b__have_places := F__have_places.binds (ps := ["entries", "ascending"]) fun _ _ _ _ _ _ us hl => match us, hl with | [_, _], _ => rfl
  have d__have_places : Fd K mg "_have_places" "_have_places" s__have_places ["entries", "ascending"] f__have_places _ := ⟨F__have_places, PySem.W.mg_of X G a__have_places, b__have_places⟩
  have F_leaves := fun_mk (st := s_leaves) l_leaves c_leaves k_leaves
  have b_leaves := F_leaves.binds (ps := ["row", "summary"]) fun _ _ _ _ _ _ us hl => match us, hl with | [_, _], _ => rfl
  have d_leaves : Fd K mg "leaves" "leaves" s_leaves ["row", "summary"] f_leaves _ := ⟨F_leaves, PySem.W.mg_of X G a_leaves, b_leaves⟩
  have F__first_ranks := fun_mk (st := s__first_ranks) l__first_ranks c__first_ranks k__first_ranks
  have b__first_ranks := F__first_ranks.binds (ps := ["tight", "value", "start"]) fun _ _ _ _ _ _ us hl => match us, hl with | [_, _, _], _ => rfl
  have d__first_ranks : Fd K mg "_first_ranks" "_first_ranks" s__first_ranks ["tight", "value", "start"] f__first_ranks _ := ⟨F__first_ranks, PySem.W.mg_of X G a__first_ranks, b__first_ranks⟩
  have F__row_with_few := fun_mk (st := s__row_with_few) l__row_with_few c__row_with_few k__row_with_few
  have b__row_with_few := F__row_with_few.binds (ps := ["tight", "ranks", "value", "start"]) fun _ _ _ _ _ _ us hl => match us, hl with | [_, _, _, _], _ => rfl
  have d__row_with_few : Fd K mg "_row_with_few" "_row_with_few" s__row_with_few ["tight", "ranks", "value", "start"] f__row_with_few _ := ⟨F__row_with_few, PySem.W.mg_of X G a__row_with_few, b__row_with_few⟩
  have F__telling_rows := fun_mk (st := s__telling_rows) l__telling_rows c__telling_rows k__telling_rows
  have b__telling_rows := F__telling_rows.binds (ps := ["tight", "other"]) fun _ _ _ _ _ _ us hl => match us, hl with | [_, _], _ => rfl
  have d__telling_rows : Fd K mg "_telling_rows" "_telling_rows" s__telling_rows ["tight", "other"] f__telling_rows _ := ⟨F__telling_rows, PySem.W.mg_of X G a__telling_rows, b__telling_rows⟩
  have F_lacking_row := fun_mk (st := s_lacking_row) l_lacking_row c_lacking_row k_lacking_row
  have b_lacking_row := F_lacking_row.binds (ps := ["one", "other"]) fun _ _ _ _ _ _ us hl => match us, hl with | [_, _], _ => rfl
  have d_lacking_row : Fd K mg "lacking_row" "lacking_row" s_lacking_row ["one", "other"] f_lacking_row _ := ⟨F_lacking_row, PySem.W.mg_of X G a_lacking_row, b_lacking_row⟩
  have F_within := fun_mk (st := s_within) l_within c_within k_within
  have b_within := F_within.binds (ps := ["one", "other"]) fun _ _ _ _ _ _ us hl => match us, hl with | [_, _], _ => rfl
  have d_within : Fd K mg "within" "within" s_within ["one", "other"] f_within _ := ⟨F_within, PySem.W.mg_of X G a_within, b_within⟩
  have F__choices := fun_mk (st := s__choices) l__choices c__choices k__choices
  have b__choices := F__choices.binds (ps := ["size", "many"]) fun _ _ _ _ _ _ us hl => match us, hl with | [_, _], _ => rfl
  have d__choices : Fd K mg "_choices" "_choices" s__choices ["size", "many"] f__choices _ := ⟨F__choices, PySem.W.mg_of X G a__choices, b__choices⟩
  have F__last_place := fun_mk (st := s__last_place) l__last_place c__last_place k__last_place
  have b__last_place := F__last_place.binds (ps := ["spans", "start"]) fun _ _ _ _ _ _ us hl => match us, hl with | [_, _], _ => rfl
  have d__last_place : Fd K mg "_last_place" "_last_place" s__last_place ["spans", "start"] f__last_place _ := ⟨F__last_place, PySem.W.mg_of X G a__last_place, b__last_place⟩
  have F__with_others := fun_mk (st := s__with_others) l__with_others c__with_others k__with_others
  have b__with_others := F__with_others.binds (ps := ["ways", "size"]) fun _ _ _ _ _ _ us hl => match us, hl with | [_, _], _ => rfl
  have d__with_others : Fd K mg "_with_others" "_with_others" s__with_others ["ways", "size"] f__with_others _ := ⟨F__with_others, PySem.W.mg_of X G a__with_others, b__with_others⟩
  have F__with_kept := fun_mk (st := s__with_kept) l__with_kept c__with_kept k__with_kept
  have b__with_kept := F__with_kept.binds (ps := ["ways", "spans"]) fun _ _ _ _ _ _ us hl => match us, hl with | [_, _], _ => rfl
  have d__with_kept : Fd K mg "_with_kept" "_with_kept" s__with_kept ["ways", "spans"] f__with_kept _ := ⟨F__with_kept, PySem.W.mg_of X G a__with_kept, b__with_kept⟩
  have F_count_rows := fun_mk (st := s_count_rows) l_count_rows c_count_rows k_count_rows
  have b_count_rows := F_count_rows.binds (ps := ["summary", "least", "greatest"]) fun _ _ _ _ _ _ us hl => match us, hl with | [_, _, _], _ => rfl
  have d_count_rows : Fd K mg "count_rows" "count_rows" s_count_rows ["summary", "least", "greatest"] f_count_rows _ := ⟨F_count_rows, PySem.W.mg_of X G a_count_rows, b_count_rows⟩
  have F__is_told := fun_mk (st := s__is_told) l__is_told c__is_told k__is_told
  have b__is_told := F__is_told.binds (ps := ["many", "thing"]) fun _ _ _ _ _ _ us hl => match us, hl with | [_, _], _ => rfl
  have d__is_told : Fd K mg "_is_told" "_is_told" s__is_told ["many", "thing"] f__is_told _ := ⟨F__is_told, PySem.W.mg_of X G a__is_told, b__is_told⟩
  have F__check_told := fun_mk (st := s__check_told) l__check_told c__check_told k__check_told
  have b__check_told := F__check_told.binds (ps := ["many", "told"]) fun _ _ _ _ _ _ us hl => match us, hl with | [_, _], _ => rfl
  have d__check_told : Fd K mg "_check_told" "_check_told" s__check_told ["many", "told"] f__check_told _ := ⟨F__check_told, PySem.W.mg_of X G a__check_told, b__check_told⟩
  have F__narrowed := fun_mk (st := s__narrowed) l__narrowed c__narrowed k__narrowed
  have b__narrowed := F__narrowed.binds (ps := ["tight", "told"]) fun _ _ _ _ _ _ us hl => match us, hl with | [_, _], _ => rfl
  have d__narrowed : Fd K mg "_narrowed" "_narrowed" s__narrowed ["tight", "told"] f__narrowed _ := ⟨F__narrowed, PySem.W.mg_of X G a__narrowed, b__narrowed⟩
  have F__can_stand := fun_mk (st := s__can_stand) l__can_stand c__can_stand k__can_stand
  have b__can_stand := F__can_stand.binds (ps := ["told", "rank", "value"]) fun _ _ _ _ _ _ us hl => match us, hl with | [_, _, _], _ => rfl
  have d__can_stand : Fd K mg "_can_stand" "_can_stand" s__can_stand ["told", "rank", "value"] f__can_stand _ := ⟨F__can_stand, PySem.W.mg_of X G a__can_stand, b__can_stand⟩
  have F_can_have := fun_mk (st := s_can_have) l_can_have c_can_have k_can_have
  have b_can_have := F_can_have.binds (ps := ["summary", "told", "value"]) fun _ _ _ _ _ _ us hl => match us, hl with | [_, _, _], _ => rfl
  have d_can_have : Fd K mg "can_have" "can_have" s_can_have ["summary", "told", "value"] f_can_have _ := ⟨F_can_have, PySem.W.mg_of X G a_can_have, b_can_have⟩
  have F_row_with := fun_mk (st := s_row_with) l_row_with c_row_with k_row_with
  have b_row_with := F_row_with.binds (ps := ["summary", "told"]) fun _ _ _ _ _ _ us hl => match us, hl with | [_, _], _ => rfl
  have d_row_with : Fd K mg "row_with" "row_with" s_row_with ["summary", "told"] f_row_with _ := ⟨F_row_with, PySem.W.mg_of X G a_row_with, b_row_with⟩
  have F__law_mix := fun_mk (st := s__law_mix) l__law_mix c__law_mix k__law_mix
  have b__law_mix := F__law_mix.binds (ps := ["_law_script", "_law_seed"]) fun _ _ _ _ _ _ us hl => match us, hl with | [_, _], _ => rfl
  have d__law_mix : Fd K mg "_law_mix" "_law_mix" s__law_mix ["_law_script", "_law_seed"] f__law_mix _ := ⟨F__law_mix, PySem.W.mg_of X G a__law_mix, b__law_mix⟩
  have F__law_next := fun_mk (st := s__law_next) l__law_next c__law_next k__law_next
  have b__law_next := F__law_next.binds (ps := ["_law_h", "_law_bound"]) fun _ _ _ _ _ _ us hl => match us, hl with | [_, _], _ => rfl
  have d__law_next : Fd K mg "_law_next" "_law_next" s__law_next ["_law_h", "_law_bound"] f__law_next _ := ⟨F__law_next, PySem.W.mg_of X G a__law_next, b__law_next⟩
  have F__law_thing_at := fun_mk (st := s__law_thing_at) l__law_thing_at c__law_thing_at k__law_thing_at
  have b__law_thing_at := F__law_thing_at.binds (ps := ["_law_value"]) fun _ _ _ _ _ _ us hl => match us, hl with | [_], _ => rfl
  have d__law_thing_at : Fd K mg "_law_thing_at" "_law_thing_at" s__law_thing_at ["_law_value"] f__law_thing_at _ := ⟨F__law_thing_at, PySem.W.mg_of X G a__law_thing_at, b__law_thing_at⟩
  have F__law_ask := fun_mk (st := s__law_ask) l__law_ask c__law_ask k__law_ask
  have b__law_ask := F__law_ask.binds (ps := ["_law_kind", "_law_t", "_law_turn"]) fun _ _ _ _ _ _ us hl => match us, hl with | [_, _, _], _ => rfl
  have d__law_ask : Fd K mg "_law_ask" "_law_ask" s__law_ask ["_law_kind", "_law_t", "_law_turn"] f__law_ask _ := ⟨F__law_ask, PySem.W.mg_of X G a__law_ask, b__law_ask⟩
  have F__law_told := fun_mk (st := s__law_told) l__law_told c__law_told k__law_told
  have b__law_told := F__law_told.binds (ps := ["_law_kind", "_law_t", "_law_turn"]) fun _ _ _ _ _ _ us hl => match us, hl with | [_, _, _], _ => rfl
  have d__law_told : Fd K mg "_law_told" "_law_told" s__law_told ["_law_kind", "_law_t", "_law_turn"] f__law_told _ := ⟨F__law_told, PySem.W.mg_of X G a__law_told, b__law_told⟩
  have F__law_good_one := fun_mk (st := s__law_good_one) l__law_good_one c__law_good_one k__law_good_one
  have b__law_good_one := F__law_good_one.binds (ps := ["_law_name"]) fun _ _ _ _ _ _ us hl => match us, hl with | [_], _ => rfl
  have d__law_good_one : Fd K mg "_law_good_one" "_law_good_one" s__law_good_one ["_law_name"] f__law_good_one _ := ⟨F__law_good_one, PySem.W.mg_of X G a__law_good_one, b__law_good_one⟩
  have F__law_bad_one := fun_mk (st := s__law_bad_one) l__law_bad_one c__law_bad_one k__law_bad_one
  have b__law_bad_one := F__law_bad_one.binds (ps := ["_law_h", "_law_name"]) fun _ _ _ _ _ _ us hl => match us, hl with | [_, _], _ => rfl
  have d__law_bad_one : Fd K mg "_law_bad_one" "_law_bad_one" s__law_bad_one ["_law_h", "_law_name"] f__law_bad_one _ := ⟨F__law_bad_one, PySem.W.mg_of X G a__law_bad_one, b__law_bad_one⟩
  have F_law := fun_mk (st := s_law) l_law c_law k_law
  have b_law := F_law.binds (ps := ["_law_script"]) fun _ _ _ _ _ _ us hl => match us, hl with | [_], _ => rfl
  refine ⟨PySem.W.fnOf "law" "law" (defArgs s_law) (defBody s_law) (defScope s_law) .none kV_law dc_law pm_law an_law cd_law ct_law, fun s v => .of_eq rfl, fun base _ _ => ?_⟩
  have D_is_integer := d_is_integer.dn (ok_is_integer (P := l.prog) (w := w) (base := base) d_is_integer.F m_isinstance m_int m_bool)
  have D_is_between := d_is_between.dn (ok_is_between (P := l.prog) (w := w) (base := base) d_is_between.F D_is_integer)
  have D_is_value := d_is_value.dn (ok_is_value (P := l.prog) (w := w) (base := base) d_is_value.F D_is_between m_GREATEST_VALUE)
  have D__is_entry := d__is_entry.dn (ok__is_entry (P := l.prog) (w := w) (base := base) d__is_entry.F D_is_between D_is_value m_isinstance m_tuple m_len)
  have D__check_entries := d__check_entries.dn (ok__check_entries (P := l.prog) (w := w) (base := base) d__check_entries.F D__is_entry m_isinstance m_tuple m_len m_enumerate m_GREATEST_VALUE m_MOST_ENTRIES)
  have DS : DnMk l.prog w K mg base C := ⟨f_Sinit, _, ⟨mk, a_Sinit, i_Sinit, kc⟩, ok_Summary_init F_Sinit T D_is_between D__check_entries m_GREATEST_COUNT, b_Sinit⟩
  have DM : Pr l.prog w K mg base C "many" 1 (getSp C "_many") := ⟨p_Smany, f_Smany, _, ⟨a_Smany, q_Smany, t_Smany, _, r_Smany⟩, ok_Summary_many F_Smany T, b_Smany⟩
  have DE : Pr l.prog w K mg base C "entries" 1 (getSp C "_entries") := ⟨p_Sentries, f_Sentries, _, ⟨a_Sentries, q_Sentries, t_Sentries, _, r_Sentries⟩, ok_Summary_entries F_Sentries T, b_Sentries⟩
  have D_check_summary := d_check_summary.dn (ok_check_summary (P := l.prog) (w := w) (base := base) d_check_summary.F T m_isinstance)
  have D__least_ranks := d__least_ranks.dn (ok__least_ranks (P := l.prog) (w := w) (base := base) d__least_ranks.F T DE m_max)
  have D__greatest_ranks := d__greatest_ranks.dn (ok__greatest_ranks (P := l.prog) (w := w) (base := base) d__greatest_ranks.F T DE DM m_min m_reversed)
  have D_tightened := d_tightened.dn (ok_tightened (P := l.prog) (w := w) (base := base) d_tightened.F T DE DM D_check_summary D__least_ranks D__greatest_ranks DS m_zip m_tuple)
  have D_surely_tightened := d_surely_tightened.dnx (ok_surely_tightened (P := l.prog) (w := w) (base := base) d_surely_tightened.F D_tightened T_NoRow)
  have D_check_short := d_check_short.dnx (ok_check_short (P := l.prog) (w := w) (base := base) d_check_short.F T DM m_MOST_NUMBERS T_TooLong)
  have D_surely_short := d_surely_short.dnx (ok_surely_short (P := l.prog) (w := w) (base := base) d_surely_short.F D_surely_tightened D_check_short)
  have D_filled := d_filled.dn (ok_filled (P := l.prog) (w := w) (base := base) d_filled.F m_range m_tuple)
  have D_row_for := d_row_for.dnx (ok_row_for (P := l.prog) (w := w) (base := base) d_row_for.F T D_surely_short D_filled DE DM m_min)
  have D_check_value := d_check_value.dn (ok_check_value (P := l.prog) (w := w) (base := base) d_check_value.F D_is_value)
  have D__check_row := d__check_row.dn (ok__check_row (P := l.prog) (w := w) (base := base) d__check_row.F D_is_integer D_is_between m_isinstance m_tuple m_len m_all m_MOST_NUMBERS)
  have D__have_places := d__have_places.dn (ok__have_places (P := l.prog) (w := w) (base := base) d__have_places.F m_max)
  have D_leaves := d_leaves.dn (ok_leaves (P := l.prog) (w := w) (base := base) d_leaves.F T D__check_row D_check_summary D__have_places DE DM m_len m_sorted)
  have D__first_ranks := d__first_ranks.dn (ok__first_ranks (P := l.prog) (w := w) (base := base) d__first_ranks.F T DE m_max)
  have D__row_with_few := d__row_with_few.dn (ok__row_with_few (P := l.prog) (w := w) (base := base) d__row_with_few.F T DE m_dict m_zip m_max D_filled m_min DM)
  have D__telling_rows := d__telling_rows.dn (ok__telling_rows (P := l.prog) (w := w) (base := base) d__telling_rows.F D_row_for m_sorted T DE m_range DM D__first_ranks D__row_with_few)
  have D_lacking_row := d_lacking_row.dnx (ok_lacking_row (P := l.prog) (w := w) (base := base) d_lacking_row.F D_check_summary D_surely_short D__telling_rows D_leaves)
  have D_within := d_within.dnx (ok_within (P := l.prog) (w := w) (base := base) d_within.F D_lacking_row)
  have D__choices := d__choices.dn (ok__choices (P := l.prog) (w := w) (base := base) d__choices.F m_comb)
  have D__last_place := d__last_place.dn (ok__last_place (P := l.prog) (w := w) (base := base) d__last_place.F m_max)
  have D__with_others := d__with_others.dn (ok__with_others (P := l.prog) (w := w) (base := base) d__with_others.F m_range m_len m_sum D__choices)
  have D__with_kept := d__with_kept.dn (ok__with_kept (P := l.prog) (w := w) (base := base) d__with_kept.F m_len m_enumerate D__last_place m_range)
  have D_count_rows := d_count_rows.dnx (ok_count_rows (P := l.prog) (w := w) (base := base) d_count_rows.F D_surely_tightened D_check_value D_check_short m_sorted T DE m_all D_is_between DM D__with_others D__with_kept)
  have D__is_told := d__is_told.dn (ok__is_told (P := l.prog) (w := w) (base := base) d__is_told.F m_isinstance m_tuple m_len D_is_between D_is_value)
  have D__check_told := d__check_told.dn (ok__check_told (P := l.prog) (w := w) (base := base) d__check_told.F m_isinstance m_tuple m_len m_MOST_TOLD m_GREATEST_VALUE m_enumerate D__is_told)
  have D__narrowed := d__narrowed.dn (ok__narrowed (P := l.prog) (w := w) (base := base) d__narrowed.F T DE m_max m_min D_tightened DS m_tuple DM)
  have D__can_stand := d__can_stand.dn (ok__can_stand (P := l.prog) (w := w) (base := base) d__can_stand.F m_max m_min)
  have D_can_have := d_can_have.dnx (ok_can_have (P := l.prog) (w := w) (base := base) d_can_have.F D_surely_tightened D__check_told T DM D_check_value D_check_short m_range D__can_stand D__narrowed)
  have D_row_with := d_row_with.dnx (ok_row_with (P := l.prog) (w := w) (base := base) d_row_with.F D_surely_tightened D__check_told T DM D_check_short D__narrowed DE m_dict D_filled m_min)
  have D_is_integerA := d_is_integer.dn (ok_is_integerA (P := l.prog) (w := w) (base := base) d_is_integer.F m_isinstance m_int m_bool)
  have D_is_betweenA := d_is_between.dn (ok_is_betweenA (P := l.prog) (w := w) (base := base) d_is_between.F D_is_integerA)
  have D_is_valueA := d_is_value.dn (ok_is_valueA (P := l.prog) (w := w) (base := base) d_is_value.F D_is_betweenA m_GREATEST_VALUE)
  have X_BadTold : FxT l.prog w K mg base "BadTold" C_BadTold ["self", "index"] (spI1 C_BadTold "index") := ⟨OX_BadTold, XX_BadTold, mgC_BadTold, f_XBadTold, _, n_BadTold, tf_BadTold, ok_BadTold_init F_XBadTold OX_BadTold nf_BadTold_index, b_XBadTold⟩
  have mgC_BadSummary := T_BadSummary.gC
  have mgC_BadValue := T_BadValue.gC
  have mgC_NoRow := T_NoRow.gC
  have mgC_TooLong := T_TooLong.gC
  have FX : FiveX K ⟨C_BadSummary, C_BadValue, C_NoRow, C_BadTold, C_TooLong⟩ C_RankError := ⟨fun D hD => by
      simp only [List.mem_cons, List.not_mem_nil, or_false] at hD
      rcases hD with rfl | rfl | rfl | rfl | rfl
      · exact ⟨XC_BadSummary, ex_BadSummary_RankError⟩
      · exact ⟨XC_BadValue, ex_BadValue_RankError⟩
      · exact ⟨XC_NoRow, ex_NoRow_RankError⟩
      · exact ⟨XC_BadTold, ex_BadTold_RankError⟩
      · exact ⟨XC_TooLong, ex_TooLong_RankError⟩, ⟨kit_own ic_BadSummary ty_BadSummary ss_BadSummary ss_BadSummary, kit_own ic_BadValue ty_BadValue s_BadSummary_BadValue ss_BadSummary, kit_own ic_NoRow ty_NoRow s_BadSummary_NoRow ss_BadSummary, kit_own ic_BadTold ty_BadTold s_BadSummary_BadTold ss_BadSummary, kit_own ic_TooLong ty_TooLong s_BadSummary_TooLong ss_BadSummary⟩, ⟨kit_own ic_BadSummary ty_BadSummary s_BadValue_BadSummary ss_BadValue, kit_own ic_BadValue ty_BadValue ss_BadValue ss_BadValue, kit_own ic_NoRow ty_NoRow s_BadValue_NoRow ss_BadValue, kit_own ic_BadTold ty_BadTold s_BadValue_BadTold ss_BadValue, kit_own ic_TooLong ty_TooLong s_BadValue_TooLong ss_BadValue⟩, ⟨kit_own ic_BadSummary ty_BadSummary s_NoRow_BadSummary ss_NoRow, kit_own ic_BadValue ty_BadValue s_NoRow_BadValue ss_NoRow, kit_own ic_NoRow ty_NoRow ss_NoRow ss_NoRow, kit_own ic_BadTold ty_BadTold s_NoRow_BadTold ss_NoRow, kit_own ic_TooLong ty_TooLong s_NoRow_TooLong ss_NoRow⟩, ⟨kit_own ic_BadSummary ty_BadSummary s_BadTold_BadSummary ss_BadTold, kit_own ic_BadValue ty_BadValue s_BadTold_BadValue ss_BadTold, kit_own ic_NoRow ty_NoRow s_BadTold_NoRow ss_BadTold, kit_own ic_BadTold ty_BadTold ss_BadTold ss_BadTold, kit_own ic_TooLong ty_TooLong s_BadTold_TooLong ss_BadTold⟩, ⟨kit_own ic_BadSummary ty_BadSummary s_TooLong_BadSummary ss_TooLong, kit_own ic_BadValue ty_BadValue s_TooLong_BadValue ss_TooLong, kit_own ic_NoRow ty_NoRow s_TooLong_NoRow ss_TooLong, kit_own ic_BadTold ty_BadTold s_TooLong_BadTold ss_TooLong, kit_own ic_TooLong ty_TooLong ss_TooLong ss_TooLong⟩⟩
  have D_check_summaryB := d_check_summary.dnx (ok_check_summaryB (P := l.prog) (w := w) (base := base) d_check_summary.F m_isinstance T T_BadSummary NS)
  have D_check_summaryO := d_check_summary.dnx (ok_or (ok_toX (ok_up (ok_check_summary (P := l.prog) (w := w) (base := base) d_check_summary.F T m_isinstance) (by decide : 1 ≤ 2))) (ok_check_summaryB (P := l.prog) (w := w) (base := base) d_check_summary.F m_isinstance T T_BadSummary NS))
  have D_tightenedB := d_tightened.dnx (ok_tightenedB (P := l.prog) (w := w) (base := base) d_tightened.F D_check_summaryB D__least_ranks D__greatest_ranks T DS m_tuple DM m_zip DE)
  have D_surely_tightenedO := d_surely_tightened.dnx (ok_or (ok_surely_tightened (P := l.prog) (w := w) (base := base) d_surely_tightened.F D_tightened T_NoRow) (ok_surely_tightenedB (P := l.prog) (w := w) (base := base) d_surely_tightened.F D_tightenedB T_NoRow))
  have D_surely_shortB := d_surely_short.dnx (ok_surely_shortB (P := l.prog) (w := w) (base := base) d_surely_short.F D_surely_tightened D_check_short)
  have D_lacking_rowB := d_lacking_row.dnx (ok_lacking_rowB (P := l.prog) (w := w) (base := base) d_lacking_row.F D_check_summaryO D_surely_shortB D__telling_rows D_leaves)
  have G_lacking_row : DnG l.prog w K mg base "lacking_row" f_lacking_row ["one", "other"] 13 (spOr (spLack C C_NoRow) (spLackB K C C_BadSummary C_NoRow C_TooLong)) := ⟨⟨_, ok_or (ok_lacking_row (P := l.prog) (w := w) (base := base) d_lacking_row.F D_check_summary D_surely_short D__telling_rows D_leaves) (ok_lacking_rowB (P := l.prog) (w := w) (base := base) d_lacking_row.F D_check_summaryO D_surely_shortB D__telling_rows D_leaves), d_lacking_row.b⟩, d_lacking_row.g, d_lacking_row.F.kp⟩
  have G_within : DnG l.prog w K mg base "within" f_within ["one", "other"] 14 (spOr (spWithin C C_NoRow) (spLackB K C C_BadSummary C_NoRow C_TooLong)) := ⟨⟨_, ok_or (ok_within (P := l.prog) (w := w) (base := base) d_within.F D_lacking_row) (ok_withinB (P := l.prog) (w := w) (base := base) d_within.F D_lacking_rowB), d_within.b⟩, d_within.g, d_within.F.kp⟩
  have D_check_valueA := d_check_value.dnx (ok_check_valueA (P := l.prog) (w := w) (base := base) d_check_value.F D_is_valueA T_BadValue)
  have D_count_rowsO := d_count_rows.dnx (ok_or (ok_count_rows (P := l.prog) (w := w) (base := base) d_count_rows.F D_surely_tightened D_check_value D_check_short m_sorted T DE m_all D_is_between DM D__with_others D__with_kept) (ok_count_rowsB (P := l.prog) (w := w) (base := base) d_count_rows.F D_surely_tightenedO D_check_valueA D_check_short m_sorted T DE m_all D_is_between DM D__with_others D__with_kept))
  have D__is_toldA := d__is_told.dn (ok__is_toldA (P := l.prog) (w := w) (base := base) d__is_told.F m_isinstance m_tuple m_len D_is_betweenA D_is_valueA)
  have D__check_toldO := d__check_told.dnx (ok_or (ok_toX (ok__check_told (P := l.prog) (w := w) (base := base) d__check_told.F m_isinstance m_tuple m_len m_MOST_TOLD m_GREATEST_VALUE m_enumerate D__is_told)) (ok__check_toldB (P := l.prog) (w := w) (base := base) d__check_told.F m_isinstance m_tuple m_len m_MOST_TOLD X_BadTold m_GREATEST_VALUE m_enumerate D__is_toldA))
  have D_row_withO := d_row_with.dnx (ok_or (ok_row_with (P := l.prog) (w := w) (base := base) d_row_with.F D_surely_tightened D__check_told T DM D_check_short D__narrowed DE m_dict D_filled m_min) (ok_row_withB (P := l.prog) (w := w) (base := base) d_row_with.F D_surely_tightenedO D__check_toldO T DM D_check_short D__narrowed DE m_dict D_filled m_min))
  have D_can_haveO := d_can_have.dnx (ok_or (ok_can_have (P := l.prog) (w := w) (base := base) d_can_have.F D_surely_tightened D__check_told T DM D_check_value D_check_short m_range D__can_stand D__narrowed) (ok_can_haveB (P := l.prog) (w := w) (base := base) d_can_have.F D_surely_tightenedO D__check_toldO T DM D_check_valueA D_check_short m_range D__can_stand D__narrowed))
  have D__law_mix := d__law_mix.dn (ok__law_mix (P := l.prog) (w := w) (base := base) d__law_mix.F m_int m_list)
  have D__law_next := d__law_next.dn (ok__law_next (P := l.prog) (w := w) (base := base) d__law_next.F m_int m_max m_len)
  have D__law_thing_at := d__law_thing_at.dnh (ok__law_thing_at (P := l.prog) (w := w) (base := base) d__law_thing_at.F m_isinstance m_tuple m_len m_range m_min)
  have D__law_ask := d__law_ask.dnx (ok__law_ask (P := l.prog) (w := w) (base := base) d__law_ask.F G_lacking_row G_within D_count_rowsO D_row_withO D_can_haveO)
  have D__law_told := d__law_told.dn (ok__law_told (P := l.prog) (w := w) (base := base) d__law_told.F mgC_RankError D__law_ask m_isinstance mgC_BadSummary mgC_BadValue mgC_NoRow mgC_BadTold XX_BadTold nf_BadTold_index D__law_thing_at mgC_TooLong FX)
  have D__law_good_one := d__law_good_one.dn (ok__law_good_one (P := l.prog) (w := w) (base := base) d__law_good_one.F T DS)
  have D__law_bad_one := d__law_bad_one.dn (ok__law_bad_one (P := l.prog) (w := w) (base := base) d__law_bad_one.F T DS D__law_next m_len)
  exact ok_law F_law D__law_mix D__law_next m_range m_len D__law_bad_one D__law_good_one T DS D__law_told
end SR
open PySem PySem.W PyProof.Rows
set_option maxRecDepth 100000 in
set_option maxHeartbeats 0 in
theorem PySem.Challenge.cw_shortranks_k17_further_questions_refused_holds : PySem.Challenge.rw_shortranks_k17_further_questions_refused.Holds := by
  w_on; o_law; k_head; (case hw => w_witness2)
  k_fill
  refine L2.walk_of (l := PySem.Challenge.rw_shortranks_k17_further_questions_refused) (n := 63) (k := 17) (x := "_law_script") (CX := fun _ => L2.CX0) (sp := fun w => SR.spLaw _) rfl (by decide) rfl ⟨rfl, by decide, by decide⟩ (fun w h Y => PySem.W.kIn_of Y) ?F (fun _ _ a ns hl _ hS => ⟨a, ns, rfl, hS, hl, fun _ => rfl⟩) (fun _ _ _ _ _ h => h)
  case F =>
    intro w mg fa h KX G hmg
    refine' SR.all_mk KX G hmg ?z_isinstance ?z_int ?z_bool ?z_tuple ?z_len ?z_enumerate ?z_max ?z_min ?z_reversed ?z_zip ?z_list ?z_sorted ?z_range ?z_all ?z_dict ?z_sum ?g_comb ?g_GREATEST_COUNT ?e_GREATEST_COUNT ?g_GREATEST_VALUE ?e_GREATEST_VALUE ?g_MOST_ENTRIES ?e_MOST_ENTRIES ?g_MOST_NUMBERS ?e_MOST_NUMBERS ?g_MOST_TOLD ?e_MOST_TOLD ?aC ?a_Sinit ?i_Sinit ?l_Sinit ?c_Sinit ?k_Sinit ?a_Smany ?q_Smany ?t_Smany ?r_Smany ?l_Smany ?c_Smany ?k_Smany ?a_Sentries ?q_Sentries ?t_Sentries ?r_Sentries ?l_Sentries ?c_Sentries ?k_Sentries ?a_Slen ?i_Slen ?l_Slen ?c_Slen ?k_Slen ?a_Seq ?i_Seq ?l_Seq ?c_Seq ?k_Seq ?pg ?hd ?po ?sa ?mk ?kc ?ha ?hn ?htk ?hm ?nM ?nE ?ic ?ty ?st ?nf1 ?nf2 ?sn_NoneType ?sn_bool ?sn_int ?sn_str ?sn_list ?sn_tuple ?g_NoRow ?n_NoRow ?tf_R ?l_Rinit ?c_Rinit ?k_Rinit ?o_NoRow ?kp_NoRow ?sb_NoRow ?ty_NoRow ?ic_NoRow ?ss_NoRow ?g_TooLong ?o_TooLong ?n_TooLong ?kp_TooLong ?sb_TooLong ?ty_TooLong ?ic_TooLong ?ss_TooLong ?g_BadSummary ?o_BadSummary ?n_BadSummary ?kp_BadSummary ?sb_BadSummary ?ty_BadSummary ?ic_BadSummary ?ss_BadSummary ?g_BadValue ?o_BadValue ?n_BadValue ?kp_BadValue ?sb_BadValue ?ty_BadValue ?ic_BadValue ?ss_BadValue ?s_NoRow_TooLong ?s_NoRow_BadSummary ?s_NoRow_BadValue ?s_TooLong_NoRow ?s_TooLong_BadSummary ?s_TooLong_BadValue ?s_BadSummary_NoRow ?s_BadSummary_TooLong ?s_BadSummary_BadValue ?s_BadValue_NoRow ?s_BadValue_TooLong ?s_BadValue_BadSummary ?g_BadTold ?n_BadTold ?tf_BadTold ?l_XBadTold ?c_XBadTold ?k_XBadTold ?o_BadTold ?kp_BadTold ?sb_BadTold ?ty_BadTold ?ic_BadTold ?ss_BadTold ?sa_BadTold ?xa_BadTold ?xg_BadTold ?xd_BadTold ?nf_BadTold_index ?xa_BadSummary ?xg_BadSummary ?xd_BadSummary ?xk_BadSummary ?xo_BadSummary ?xa_BadValue ?xg_BadValue ?xd_BadValue ?xk_BadValue ?xo_BadValue ?xa_NoRow ?xg_NoRow ?xd_NoRow ?xk_NoRow ?xo_NoRow ?xk_BadTold ?xo_BadTold ?xa_TooLong ?xg_TooLong ?xd_TooLong ?xk_TooLong ?xo_TooLong ?g_RankError ?sb_RankError ?ty_RankError ?ic_RankError ?s_NoRow_RankError ?s_TooLong_RankError ?s_BadSummary_RankError ?s_BadValue_RankError ?s_BadTold_RankError ?s_NoRow_BadTold ?s_TooLong_BadTold ?s_BadSummary_BadTold ?s_BadValue_BadTold ?s_BadTold_NoRow ?s_BadTold_TooLong ?s_BadTold_BadSummary ?s_BadTold_BadValue ?a_is_integer ?l_is_integer ?c_is_integer ?k_is_integer ?a_is_between ?l_is_between ?c_is_between ?k_is_between ?a_is_value ?l_is_value ?c_is_value ?k_is_value ?a__is_entry ?l__is_entry ?c__is_entry ?k__is_entry ?a__check_entries ?l__check_entries ?c__check_entries ?k__check_entries ?a_check_summary ?l_check_summary ?c_check_summary ?k_check_summary ?a__least_ranks ?l__least_ranks ?c__least_ranks ?k__least_ranks ?a__greatest_ranks ?l__greatest_ranks ?c__greatest_ranks ?k__greatest_ranks ?a_tightened ?l_tightened ?c_tightened ?k_tightened ?a_surely_tightened ?l_surely_tightened ?c_surely_tightened ?k_surely_tightened ?a_check_short ?l_check_short ?c_check_short ?k_check_short ?a_surely_short ?l_surely_short ?c_surely_short ?k_surely_short ?a_filled ?l_filled ?c_filled ?k_filled ?a_row_for ?l_row_for ?c_row_for ?k_row_for ?a_check_value ?l_check_value ?c_check_value ?k_check_value ?a__check_row ?l__check_row ?c__check_row ?k__check_row ?a__have_places ?l__have_places ?c__have_places ?k__have_places ?a_leaves ?l_leaves ?c_leaves ?k_leaves ?a__first_ranks ?l__first_ranks ?c__first_ranks ?k__first_ranks ?a__row_with_few ?l__row_with_few ?c__row_with_few ?k__row_with_few ?a__telling_rows ?l__telling_rows ?c__telling_rows ?k__telling_rows ?a_lacking_row ?l_lacking_row ?c_lacking_row ?k_lacking_row ?a_within ?l_within ?c_within ?k_within ?a__choices ?l__choices ?c__choices ?k__choices ?a__last_place ?l__last_place ?c__last_place ?k__last_place ?a__with_others ?l__with_others ?c__with_others ?k__with_others ?a__with_kept ?l__with_kept ?c__with_kept ?k__with_kept ?a_count_rows ?l_count_rows ?c_count_rows ?k_count_rows ?a__is_told ?l__is_told ?c__is_told ?k__is_told ?a__check_told ?l__check_told ?c__check_told ?k__check_told ?a__narrowed ?l__narrowed ?c__narrowed ?k__narrowed ?a__can_stand ?l__can_stand ?c__can_stand ?k__can_stand ?a_can_have ?l_can_have ?c_can_have ?k_can_have ?a_row_with ?l_row_with ?c_row_with ?k_row_with ?a__law_mix ?l__law_mix ?c__law_mix ?k__law_mix ?a__law_next ?l__law_next ?c__law_next ?k__law_next ?a__law_thing_at ?l__law_thing_at ?c__law_thing_at ?k__law_thing_at ?a__law_ask ?l__law_ask ?c__law_ask ?k__law_ask ?a__law_told ?l__law_told ?c__law_told ?k__law_told ?a__law_good_one ?l__law_good_one ?c__law_good_one ?k__law_good_one ?a__law_bad_one ?l__law_bad_one ?c__law_bad_one ?k__law_bad_one ?a_law ?l_law ?c_law ?k_law
    (case z_isinstance => k_is)
    (case z_int => k_is)
    (case z_bool => k_is)
    (case z_tuple => k_is)
    (case z_len => k_is)
    (case z_enumerate => k_is)
    (case z_max => k_is)
    (case z_min => k_is)
    (case z_reversed => k_is)
    (case z_zip => k_is)
    (case z_list => k_is)
    (case z_sorted => k_is)
    (case z_range => k_is)
    (case z_all => k_is)
    (case z_dict => k_is)
    (case z_sum => k_is)
    (case g_comb => k_is)
    (case g_GREATEST_COUNT => k_is)
    (case e_GREATEST_COUNT => first | rfl | decide)
    (case g_GREATEST_VALUE => k_is)
    (case e_GREATEST_VALUE => first | rfl | decide)
    (case g_MOST_ENTRIES => k_is)
    (case e_MOST_ENTRIES => first | rfl | decide)
    (case g_MOST_NUMBERS => k_is)
    (case e_MOST_NUMBERS => first | rfl | decide)
    (case g_MOST_TOLD => k_is)
    (case e_MOST_TOLD => first | rfl | decide)
    (case aC => k_is)
    (case a_Sinit => k_is)
    (case i_Sinit => k_is)
    (case l_Sinit => k_is)
    (case c_Sinit => k_is)
    (case k_Sinit => k_is)
    (case a_Smany => k_is)
    (case q_Smany => k_is)
    (case t_Smany => k_is)
    (case r_Smany => k_is)
    (case l_Smany => k_is)
    (case c_Smany => k_is)
    (case k_Smany => k_is)
    (case a_Sentries => k_is)
    (case q_Sentries => k_is)
    (case t_Sentries => k_is)
    (case r_Sentries => k_is)
    (case l_Sentries => k_is)
    (case c_Sentries => k_is)
    (case k_Sentries => k_is)
    (case a_Slen => k_is)
    (case i_Slen => k_is)
    (case l_Slen => k_is)
    (case c_Slen => k_is)
    (case k_Slen => k_is)
    (case a_Seq => k_is)
    (case i_Seq => k_is)
    (case l_Seq => k_is)
    (case c_Seq => k_is)
    (case k_Seq => k_is)
    (case pg => k_is)
    (case hd => k_is)
    (case po => k_is)
    (case sa => k_is)
    (case mk => k_is)
    (case kc => k_is)
    (case ha => k_is)
    (case hn => k_is)
    (case htk => k_is)
    (case hm => k_is)
    (case nM => k_is)
    (case nE => k_is)
    (case ic => k_is)
    (case ty => k_is)
    (case st => k_is)
    (case nf1 => k_is)
    (case nf2 => k_is)
    (case sn_NoneType => k_is)
    (case sn_bool => k_is)
    (case sn_int => k_is)
    (case sn_str => k_is)
    (case sn_list => k_is)
    (case sn_tuple => k_is)
    (case g_NoRow => k_is)
    (case n_NoRow => k_is)
    (case tf_R => k_is)
    (case l_Rinit => k_is)
    (case c_Rinit => k_is)
    (case k_Rinit => k_is)
    (case o_NoRow => k_is)
    (case kp_NoRow => k_is)
    (case sb_NoRow => k_is)
    (case ty_NoRow => k_is)
    (case ic_NoRow => k_is)
    (case ss_NoRow => first | rfl | k_is)
    (case g_TooLong => k_is)
    (case o_TooLong => k_is)
    (case n_TooLong => k_is)
    (case kp_TooLong => k_is)
    (case sb_TooLong => k_is)
    (case ty_TooLong => k_is)
    (case ic_TooLong => k_is)
    (case ss_TooLong => first | rfl | k_is)
    (case g_BadSummary => k_is)
    (case o_BadSummary => k_is)
    (case n_BadSummary => k_is)
    (case kp_BadSummary => k_is)
    (case sb_BadSummary => k_is)
    (case ty_BadSummary => k_is)
    (case ic_BadSummary => k_is)
    (case ss_BadSummary => first | rfl | k_is)
    (case g_BadValue => k_is)
    (case o_BadValue => k_is)
    (case n_BadValue => k_is)
    (case kp_BadValue => k_is)
    (case sb_BadValue => k_is)
    (case ty_BadValue => k_is)
    (case ic_BadValue => k_is)
    (case ss_BadValue => first | rfl | k_is)
    (case s_NoRow_TooLong => k_is)
    (case s_NoRow_BadSummary => k_is)
    (case s_NoRow_BadValue => k_is)
    (case s_TooLong_NoRow => k_is)
    (case s_TooLong_BadSummary => k_is)
    (case s_TooLong_BadValue => k_is)
    (case s_BadSummary_NoRow => k_is)
    (case s_BadSummary_TooLong => k_is)
    (case s_BadSummary_BadValue => k_is)
    (case s_BadValue_NoRow => k_is)
    (case s_BadValue_TooLong => k_is)
    (case s_BadValue_BadSummary => k_is)
    (case g_BadTold => k_is)
    (case n_BadTold => k_is)
    (case tf_BadTold => k_is)
    (case l_XBadTold => k_is)
    (case c_XBadTold => k_is)
    (case k_XBadTold => k_is)
    (case o_BadTold => k_is)
    (case kp_BadTold => k_is)
    (case sb_BadTold => k_is)
    (case ty_BadTold => k_is)
    (case ic_BadTold => k_is)
    (case ss_BadTold => first | rfl | k_is)
    (case sa_BadTold => k_is)
    (case xa_BadTold => k_is)
    (case xg_BadTold => k_is)
    (case xd_BadTold => k_is)
    (case nf_BadTold_index => k_is)
    (case xa_BadSummary => k_is)
    (case xg_BadSummary => k_is)
    (case xd_BadSummary => k_is)
    (case xk_BadSummary => k_is)
    (case xo_BadSummary => k_is)
    (case xa_BadValue => k_is)
    (case xg_BadValue => k_is)
    (case xd_BadValue => k_is)
    (case xk_BadValue => k_is)
    (case xo_BadValue => k_is)
    (case xa_NoRow => k_is)
    (case xg_NoRow => k_is)
    (case xd_NoRow => k_is)
    (case xk_NoRow => k_is)
    (case xo_NoRow => k_is)
    (case xk_BadTold => k_is)
    (case xo_BadTold => k_is)
    (case xa_TooLong => k_is)
    (case xg_TooLong => k_is)
    (case xd_TooLong => k_is)
    (case xk_TooLong => k_is)
    (case xo_TooLong => k_is)
    (case g_RankError => k_is)
    (case sb_RankError => k_is)
    (case ty_RankError => k_is)
    (case ic_RankError => k_is)
    (case s_NoRow_RankError => k_is)
    (case s_TooLong_RankError => k_is)
    (case s_BadSummary_RankError => k_is)
    (case s_BadValue_RankError => k_is)
    (case s_BadTold_RankError => k_is)
    (case s_NoRow_BadTold => k_is)
    (case s_TooLong_BadTold => k_is)
    (case s_BadSummary_BadTold => k_is)
    (case s_BadValue_BadTold => k_is)
    (case s_BadTold_NoRow => k_is)
    (case s_BadTold_TooLong => k_is)
    (case s_BadTold_BadSummary => k_is)
    (case s_BadTold_BadValue => k_is)
    (case a_is_integer => k_is)
    (case l_is_integer => k_is)
    (case c_is_integer => k_is)
    (case k_is_integer => k_is)
    (case a_is_between => k_is)
    (case l_is_between => k_is)
    (case c_is_between => k_is)
    (case k_is_between => k_is)
    (case a_is_value => k_is)
    (case l_is_value => k_is)
    (case c_is_value => k_is)
    (case k_is_value => k_is)
    (case a__is_entry => k_is)
    (case l__is_entry => k_is)
    (case c__is_entry => k_is)
    (case k__is_entry => k_is)
    (case a__check_entries => k_is)
    (case l__check_entries => k_is)
    (case c__check_entries => k_is)
    (case k__check_entries => k_is)
    (case a_check_summary => k_is)
    (case l_check_summary => k_is)
    (case c_check_summary => k_is)
    (case k_check_summary => k_is)
    (case a__least_ranks => k_is)
    (case l__least_ranks => k_is)
    (case c__least_ranks => k_is)
    (case k__least_ranks => k_is)
    (case a__greatest_ranks => k_is)
    (case l__greatest_ranks => k_is)
    (case c__greatest_ranks => k_is)
    (case k__greatest_ranks => k_is)
    (case a_tightened => k_is)
    (case l_tightened => k_is)
    (case c_tightened => k_is)
    (case k_tightened => k_is)
    (case a_surely_tightened => k_is)
    (case l_surely_tightened => k_is)
    (case c_surely_tightened => k_is)
    (case k_surely_tightened => k_is)
    (case a_check_short => k_is)
    (case l_check_short => k_is)
    (case c_check_short => k_is)
    (case k_check_short => k_is)
    (case a_surely_short => k_is)
    (case l_surely_short => k_is)
    (case c_surely_short => k_is)
    (case k_surely_short => k_is)
    (case a_filled => k_is)
    (case l_filled => k_is)
    (case c_filled => k_is)
    (case k_filled => k_is)
    (case a_row_for => k_is)
    (case l_row_for => k_is)
    (case c_row_for => k_is)
    (case k_row_for => k_is)
    (case a_check_value => k_is)
    (case l_check_value => k_is)
    (case c_check_value => k_is)
    (case k_check_value => k_is)
    (case a__check_row => k_is)
    (case l__check_row => k_is)
    (case c__check_row => k_is)
    (case k__check_row => k_is)
    (case a__have_places => k_is)
    (case l__have_places => k_is)
    (case c__have_places => k_is)
    (case k__have_places => k_is)
    (case a_leaves => k_is)
    (case l_leaves => k_is)
    (case c_leaves => k_is)
    (case k_leaves => k_is)
    (case a__first_ranks => k_is)
    (case l__first_ranks => k_is)
    (case c__first_ranks => k_is)
    (case k__first_ranks => k_is)
    (case a__row_with_few => k_is)
    (case l__row_with_few => k_is)
    (case c__row_with_few => k_is)
    (case k__row_with_few => k_is)
    (case a__telling_rows => k_is)
    (case l__telling_rows => k_is)
    (case c__telling_rows => k_is)
    (case k__telling_rows => k_is)
    (case a_lacking_row => k_is)
    (case l_lacking_row => k_is)
    (case c_lacking_row => k_is)
    (case k_lacking_row => k_is)
    (case a_within => k_is)
    (case l_within => k_is)
    (case c_within => k_is)
    (case k_within => k_is)
    (case a__choices => k_is)
    (case l__choices => k_is)
    (case c__choices => k_is)
    (case k__choices => k_is)
    (case a__last_place => k_is)
    (case l__last_place => k_is)
    (case c__last_place => k_is)
    (case k__last_place => k_is)
    (case a__with_others => k_is)
    (case l__with_others => k_is)
    (case c__with_others => k_is)
    (case k__with_others => k_is)
    (case a__with_kept => k_is)
    (case l__with_kept => k_is)
    (case c__with_kept => k_is)
    (case k__with_kept => k_is)
    (case a_count_rows => k_is)
    (case l_count_rows => k_is)
    (case c_count_rows => k_is)
    (case k_count_rows => k_is)
    (case a__is_told => k_is)
    (case l__is_told => k_is)
    (case c__is_told => k_is)
    (case k__is_told => k_is)
    (case a__check_told => k_is)
    (case l__check_told => k_is)
    (case c__check_told => k_is)
    (case k__check_told => k_is)
    (case a__narrowed => k_is)
    (case l__narrowed => k_is)
    (case c__narrowed => k_is)
    (case k__narrowed => k_is)
    (case a__can_stand => k_is)
    (case l__can_stand => k_is)
    (case c__can_stand => k_is)
    (case k__can_stand => k_is)
    (case a_can_have => k_is)
    (case l_can_have => k_is)
    (case c_can_have => k_is)
    (case k_can_have => k_is)
    (case a_row_with => k_is)
    (case l_row_with => k_is)
    (case c_row_with => k_is)
    (case k_row_with => k_is)
    (case a__law_mix => k_is)
    (case l__law_mix => k_is)
    (case c__law_mix => k_is)
    (case k__law_mix => k_is)
    (case a__law_next => k_is)
    (case l__law_next => k_is)
    (case c__law_next => k_is)
    (case k__law_next => k_is)
    (case a__law_thing_at => k_is)
    (case l__law_thing_at => k_is)
    (case c__law_thing_at => k_is)
    (case k__law_thing_at => k_is)
    (case a__law_ask => k_is)
    (case l__law_ask => k_is)
    (case c__law_ask => k_is)
    (case k__law_ask => k_is)
    (case a__law_told => k_is)
    (case l__law_told => k_is)
    (case c__law_told => k_is)
    (case k__law_told => k_is)
    (case a__law_good_one => k_is)
    (case l__law_good_one => k_is)
    (case c__law_good_one => k_is)
    (case k__law_good_one => k_is)
    (case a__law_bad_one => k_is)
    (case l__law_bad_one => k_is)
    (case c__law_bad_one => k_is)
    (case k__law_bad_one => k_is)
    (case a_law => k_is)
    (case l_law => k_is)
    (case c_law => k_is)
    (case k_law => k_is)
