import Derived.Test.YtgfildmmcbjpnabGreatLAY
import Derived.Test.YtgfildmmcbjpnabGreatLAZ
namespace Go.Proofs.YtgfildmmcbjpnabGreat
open Go.RowKit

/-- what each still gets in round R, the first j having had their turn -/
def QIs (sh : List Int) (R j : Nat) (Q : List Int) : Prop := Q.length = sh.length ∧ ∀ i, i < sh.length → Q.getD i 0 = if i < j then max (sh.getD i 0 - (R + 1)) 0 else max (sh.getD i 0 - R) 0
/-- the document's names and the program's places, in round R, the first j having had their turn -/
def MgI (W : List (Int × Int)) (sh S0 : List Int) (B : List BK) (R j : Nat) (Q : List Int) (ids : List ByteArray) : Prop := QIs sh R j Q ∧ ids = (roundTo W sh R (fillTo W sh S0 R) j).map (nameF B) ∧ RowOK B.length (roundTo W sh R (fillTo W sh S0 R) j)
theorem find_first {p : Nat → Bool} {f : Nat → Nat} {n k : Nat} (hk : k < n) (h1 : p (f k) = true) (h2 : ∀ j, j < k → p (f j) = false) : ((List.range n).map f).find? p = some (f k) := by
  rw [List.find?_map]
  have : (List.range n).find? (p ∘ f) = some k := by
    rw [List.find?_range_eq_some]
    exact ⟨h1, by simpa using hk, fun j hj => by simp [h2 j hj]⟩
  rw [this]
  rfl
theorem name_emp {B : List BK} (hB : PoolOK B) {x : Int} (h : x = -1 ∨ ∃ i : Nat, i < B.length ∧ x = (i : Int)) : (nameF B x).size = 0 ↔ x < 0 := by
  rcases h with rfl | ⟨i, hi, rfl⟩
  · exact ⟨fun _ => by decide, fun _ => rfl⟩
  · rw [nameF_at hi]
    have := (hB.2 _ (List.getElem_mem hi)).1
    constructor
    · intro h; omega
    · intro h; omega
theorem RowOK.at {l : Nat} {S : List Int} (h : RowOK l S) {k : Nat} (hk : k < S.length) : S.getD k 0 = -1 ∨ ∃ i : Nat, i < l ∧ S.getD k 0 = (i : Int) := by
  rw [List.getD_eq_getElem?_getD, List.getElem?_eq_getElem hk]
  exact h _ (List.getElem_mem hk)
theorem MgI.skip {W : List (Int × Int)} {sh S0 : List Int} {B : List BK} {R j : Nat} {Q : List Int} {ids : List ByteArray} (h : MgI W sh S0 B R j Q ids) (hj : j < sh.length) (h0 : Q.getD j 0 = 0) : MgI W sh S0 B R (j + 1) Q ids := by
  obtain ⟨⟨h1, h2⟩, h3, h4⟩ := h
  have hq := h2 j hj
  rw [if_neg (by omega), h0] at hq
  have hle : sh.getD j 0 ≤ R := by omega
  have hr : roundTo W sh R (fillTo W sh S0 R) (j + 1) = roundTo W sh R (fillTo W sh S0 R) j := by rw [roundTo, if_pos hle]
  refine ⟨⟨h1, fun i hi => ?_⟩, by rw [hr]; exact h3, by rw [hr]; exact h4⟩
  have := h2 i hi
  by_cases hij : i < j
  · rw [if_pos hij] at this
    rw [if_pos (by omega)]
    exact this
  · by_cases he : i = j
    · subst he
      rw [if_pos (by omega), h0]
      omega
    · rw [if_neg hij] at this
      rw [if_neg (by omega)]
      exact this
theorem MgI.turn {W : List (Int × Int)} {sh S0 : List Int} {B : List BK} {R j : Nat} {Q : List Int} {ids : List ByteArray} {k : Nat} {wy : Int × Int} (h : MgI W sh S0 B R j Q ids) (hB : PoolOK B) (hj : j < sh.length) (hjB : j < B.length) (h0 : ¬ Q.getD j 0 = 0) (hw : W.getD j (0, 0) = wy) (hk : k < ids.length) (hst : ∀ i, stepOf ids.length wy i < ids.length)
    (hfree : (ids.getD (stepOf ids.length wy k) ByteArray.empty).size = 0) (hocc : ∀ i, i < k → ¬ (ids.getD (stepOf ids.length wy i) ByteArray.empty).size = 0) : MgI W sh S0 B R (j + 1) (Q.set j (Q.getD j 0 - 1)) (ids.set (stepOf ids.length wy k) B[j].1) := by
  obtain ⟨⟨h1, h2⟩, h3, h4⟩ := h
  have hq := h2 j hj
  rw [if_neg (by omega)] at hq
  have hgt : ¬ sh.getD j 0 ≤ R := by omega
  generalize hS : roundTo W sh R (fillTo W sh S0 R) j = S at h3 h4
  have hl : ids.length = S.length := by rw [h3, List.length_map]
  have hname : ∀ i, i < S.length → ids.getD i ByteArray.empty = nameF B (S.getD i 0) := fun i hi => by
    rw [h3, List.getD_eq_getElem?_getD, List.getD_eq_getElem?_getD, List.getElem?_map, List.getElem?_eq_getElem hi]
    rfl
  rw [hl] at hk hst hfree hocc ⊢
  have hfr : freeF S wy = some (stepOf S.length wy k) := by
    unfold freeF
    refine find_first hk ?_ (fun i hi => ?_)
    · rw [decide_eq_true_eq]
      rw [hname _ (hst k)] at hfree
      exact (name_emp hB (h4.at (hst k))).1 hfree
    · rw [decide_eq_false_iff_not]
      have := hocc i hi
      rw [hname _ (hst i)] at this
      exact fun e => this ((name_emp hB (h4.at (hst i))).2 e)
  have hr : roundTo W sh R (fillTo W sh S0 R) (j + 1) = S.set (stepOf S.length wy k) (j : Int) := by
    rw [roundTo, if_neg hgt, hS]
    unfold turnF
    rw [hw, hfr]
  refine ⟨⟨by rw [List.length_set]; exact h1, fun i hi => ?_⟩, ?_, ?_⟩
  · have := h2 i hi
    rw [getD_set _ _ _ _ (by omega)]
    by_cases hij : i = j
    · subst hij
      rw [if_pos rfl, if_pos (by omega), hq]
      omega
    · rw [if_neg hij, this]
      by_cases h5 : i < j
      · rw [if_pos h5, if_pos (by omega)]
      · rw [if_neg h5, if_neg (by omega)]
  · rw [hr, List.map_set, ← h3, nameF_at hjB]
  · rw [hr]
    intro x hx
    rcases List.mem_or_eq_of_mem_set hx with h | h
    · exact h4 x h
    · exact Or.inr ⟨j, hjB, h⟩
theorem MgI.next {W : List (Int × Int)} {sh S0 : List Int} {B : List BK} {R : Nat} {Q : List Int} {ids : List ByteArray} (h : MgI W sh S0 B R sh.length Q ids) : MgI W sh S0 B (R + 1) 0 Q ids := by
  obtain ⟨⟨h1, h2⟩, h3, h4⟩ := h
  refine ⟨⟨h1, fun i hi => ?_⟩, h3, h4⟩
  have := h2 i hi
  rw [if_pos hi] at this
  rw [if_neg (by omega), this]
  push_cast
  rfl
theorem round_idle {W : List (Int × Int)} {sh : List Int} {R : Nat} {S : List Int} (h : ∀ i, i < sh.length → sh.getD i 0 ≤ R) : ∀ n, n ≤ sh.length → roundTo W sh R S n = S := by
  intro n
  induction n with
  | zero => intro _; rfl
  | succ n ih =>
    intro hn
    rw [roundTo, if_pos (h n (by omega))]
    exact ih (by omega)
theorem fill_idle {W : List (Int × Int)} {sh S0 : List Int} {a : Nat} (h : ∀ i, i < sh.length → sh.getD i 0 ≤ a) (b : Nat) (hab : a ≤ b) : fillTo W sh S0 b = fillTo W sh S0 a := by
  induction b with
  | zero => rw [show a = 0 by omega]
  | succ b ih =>
    by_cases hb : a = b + 1
    · rw [hb]
    · rw [fillTo, round_idle (fun i hi => by have := h i hi; omega) _ (Nat.le_refl _)]
      exact ih (by omega)
theorem MgI.done {W : List (Int × Int)} {sh S0 : List Int} {B : List BK} {R : Nat} {Q : List Int} {ids : List ByteArray} {n : Nat} (h : MgI W sh S0 B R 0 Q ids) (h0 : ∀ x ∈ Q, x = 0) (hn : ∀ i, i < sh.length → sh.getD i 0 ≤ n) : ids = (fillTo W sh S0 n).map (nameF B) := by
  obtain ⟨⟨h1, h2⟩, h3, h4⟩ := h
  have hR : ∀ i, i < sh.length → sh.getD i 0 ≤ R := fun i hi => by
    have := h2 i hi
    rw [if_neg (by omega)] at this
    have hz : Q.getD i 0 = 0 := by
      rw [List.getD_eq_getElem?_getD, List.getElem?_eq_getElem (by omega)]
      exact h0 _ (List.getElem_mem _)
    omega
  rw [h3]
  show (fillTo W sh S0 R).map _ = _
  rcases Nat.le_total R n with h5 | h5
  · rw [fill_idle hR n h5]
  · rw [fill_idle hn R h5]
theorem MgI.start {W : List (Int × Int)} {sh : List Int} {B : List BK} {n : Nat} (h : ∀ x ∈ sh, 0 ≤ x) : MgI W sh (List.replicate n (-1)) B 0 0 sh (List.replicate n ByteArray.empty) := by
  refine ⟨⟨rfl, fun i hi => ?_⟩, ?_, fun x hx => Or.inl (List.eq_of_mem_replicate hx)⟩
  · rw [if_neg (by omega)]
    have : 0 ≤ sh.getD i 0 := by
      rw [List.getD_eq_getElem?_getD, List.getElem?_eq_getElem hi]
      exact h _ (List.getElem_mem hi)
    push_cast
    omega
  · show _ = (List.replicate n (-1)).map _
    rw [List.map_replicate]
    rfl
theorem mag_tab {c : Cfg} {B : List BK} {ids : List ByteArray} (ha : c.alg = 1) (hw : 1 ≤ wSum B) (h : ids = (maglevF c B).map (nameF B)) : TabEq c B (srow ids) := by
  unfold TabEq mkF
  rw [if_neg (by omega), if_pos ha, h]
  unfold srow
  rw [List.map_map, List.map_map, List.map_map]
  rfl
theorem way_get {c : Cfg} {B : List BK} {j : Nat} (hj : j < B.length) : (B.map (wayOf c)).getD j (0, 0) = wayOf c B[j] := by
  rw [List.getD_eq_getElem?_getD, List.getElem?_map, List.getElem?_eq_getElem hj]
  rfl

end Go.Proofs.YtgfildmmcbjpnabGreat
