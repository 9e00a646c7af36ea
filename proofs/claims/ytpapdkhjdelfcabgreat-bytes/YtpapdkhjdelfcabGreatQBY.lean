import Derived.Test.YtpapdkhjdelfcabGreatQBW
import Derived.Test.YtpapdkhjdelfcabGreatQBX
import Derived.Test.YtpapdkhjdelfcabGreatQBT
import Derived.Test.YtpapdkhjdelfcabGreatQBG
namespace Go.Proofs.YtpapdkhjdelfcabGreat
open Go.RowKit

theorem row_full {l : Nat} {S : List Int} (h : RowOK l S) (hs : sumN (fun i => S.count (i : Int)) l = S.length) : ∀ x ∈ S, ∃ i : Nat, i < l ∧ x = (i : Int) := by
  have h1 : ∀ x ∈ S.filter (fun x => x != -1), ∃ i : Nat, i < l ∧ x = (i : Int) := fun x hx => by
    obtain ⟨hx1, hx2⟩ := List.mem_filter.1 hx
    rcases h x hx1 with e | e
    · rw [e] at hx2; exact absurd hx2 (by decide)
    · exact e
  have h2 := len_sum l _ h1
  have h3 : sumN (fun i => (S.filter (fun x => x != -1)).count (i : Int)) l = sumN (fun i => S.count (i : Int)) l := sumN_congr _ _ _ fun i _ => List.count_filter (by rw [bne_iff_ne]; omega)
  rw [h3, hs] at h2
  have h4 := List.length_filter_eq_length_iff.1 h2
  intro x hx
  exact h1 x (List.mem_filter.2 ⟨hx, h4 x hx⟩)
theorem mag_right {c : Cfg} {B : List BK} (hc : c.OK) (hB : Good B) (hW : 1 ≤ wSum B) : (maglevF c B).length = c.slots.toNat ∧ ∀ o ∈ maglevF c B, ServE B o := by
  have hw : ∀ b ∈ B, 0 ≤ b.2 := fun b hb => (hB.1.2 b hb).2.2.1
  have hc3 := hc.2.2.1
  obtain ⟨n, hn⟩ := Int.eq_ofNat_of_zero_le (show 0 ≤ c.slots by omega)
  have hn3 : 3 ≤ n := by omega
  have hpr : ∀ d : Nat, 2 ≤ d → d < n → n % d ≠ 0 := fun d h1 h2 h3 => hc.2.2.2.2.1 d h1 (by omega) (by
    rw [hn]
    have : (n : Int) % (d : Int) = ((n % d : Nat) : Int) := by simp
    rw [this, h3]; rfl)
  obtain ⟨s1, s2, s3⟩ := shares_spec c.slots B (by omega) hw hW
  have hWy : ∀ i, i < (sharesF c.slots B).length → WayOK n ((B.map (wayOf c)).getD i (0, 0)) := fun i hi => by
    rw [List.getD_eq_getElem?_getD, List.getElem?_map, List.getElem?_eq_getElem (by omega)]
    have h1 := restF_range (hsh c.key 111 [] B[i].1) c.slots (by omega)
    have h2 := restF_range (hsh c.key 115 [] B[i].1) (c.slots - 1) (by omega)
    refine ⟨h1.1, ?_, ?_⟩
    · show 1 ≤ restF (hsh c.key 115 [] B[i].1) (c.slots - 1) + 1
      omega
    · show restF (hsh c.key 115 [] B[i].1) (c.slots - 1) + 1 < (n : Int)
      omega
  have hsum : sumN (shN (sharesF c.slots B)) (sharesF c.slots B).length = n := by
    have := sumN_list _ (sharesF c.slots B) rfl (fun j hj => (s3 j (by omega)).1)
    omega
  obtain ⟨r1, r2⟩ := fill_all (W := B.map (wayOf c)) (sh := sharesF c.slots B) hpr (by omega) hWy hsum
  have hS : maglevF c B = fillTo (B.map (wayOf c)) (sharesF c.slots B) (List.replicate n (-1)) n := by unfold maglevF; rw [show c.slots.toNat = n by omega]
  have hlen : (maglevF c B).length = n := by rw [hS, fillTo_len, List.length_replicate]
  rw [← hS] at r1 r2
  refine ⟨by rw [hlen]; omega, ?_⟩
  have hfull := row_full r1 (by rw [hlen, sumN_congr _ _ _ (fun i hi => r2 i hi)]; exact hsum)
  intro o ho
  obtain ⟨i, hi, rfl⟩ := hfull o ho
  have hi2 : i < B.length := by omega
  refine ⟨i, hi2, rfl, ?_⟩
  have hcnt : 1 ≤ (maglevF c B).count (i : Int) := List.count_pos_iff.2 ho
  rw [r2 i hi] at hcnt
  have h3 := s3 i hi2
  unfold shN at hcnt
  have hlo : (lowF c.slots B).getD i 0 = c.slots * B[i].2 / wSum B := by
    unfold lowF; rw [List.getD_eq_getElem?_getD, List.getElem?_map, List.getElem?_eq_getElem hi2]; rfl
  have hre : (remF c.slots B).getD i 0 = c.slots * B[i].2 % wSum B := by
    unfold remF; rw [List.getD_eq_getElem?_getD, List.getElem?_map, List.getElem?_eq_getElem hi2]; rfl
  rw [hlo, hre] at h3
  have hw0 := hw _ (List.getElem_mem hi2)
  rcases Int.lt_or_eq_of_le hw0 with h | h
  · exact h
  · exfalso
    rw [← h, Int.mul_zero, Int.zero_ediv, Int.zero_emod] at h3
    omega
theorem winTo_sv (key : ByteArray) (s i : Nat) (id : ByteArray) (m : Int × Int) : ∀ k, ((winTo key s i id m k).1 = m.1 ∧ (k = 0 ∨ 0 ≤ m.1)) ∨ ((winTo key s i id m k).1 = (i : Int) ∧ 0 < k)
  | 0 => Or.inl ⟨rfl, Or.inl rfl⟩
  | k + 1 => by
    have ih := winTo_sv key s i id m k
    rw [winTo]
    split
    · exact Or.inr ⟨rfl, Nat.succ_pos _⟩
    · rename_i hc
      rcases ih with ⟨h1, h2⟩ | ⟨h1, h2⟩
      · refine Or.inl ⟨h1, Or.inr ?_⟩
        rw [h1] at hc
        omega
      · exact Or.inr ⟨h1, Nat.succ_pos _⟩
theorem winnerTo_sv (key : ByteArray) (s : Nat) (B : List BK) : ∀ n, n ≤ B.length → ((winnerTo key s B n).1 = -1 ∧ ∀ j (h : j < B.length), j < n → B[j].2 ≤ 0) ∨ ∃ (j : Nat) (h : j < B.length), (winnerTo key s B n).1 = (j : Int) ∧ 0 < B[j].2
  | 0, _ => Or.inl ⟨rfl, fun j _ h => by omega⟩
  | n + 1, hn => by
    have hlt : n < B.length := by omega
    have ih := winnerTo_sv key s B n (by omega)
    rw [winnerTo, List.getElem?_eq_getElem hlt]
    dsimp only
    rcases winTo_sv key s n B[n].1 (winnerTo key s B n) B[n].2.toNat with ⟨h1, h2⟩ | ⟨h1, h2⟩
    · rcases ih with ⟨i1, i2⟩ | ⟨j, hj, i1, i2⟩
      · refine Or.inl ⟨by rw [h1]; exact i1, fun j hj hjn => ?_⟩
        rcases h2 with h2 | h2
        · by_cases e : j = n
          · subst e; omega
          · exact i2 j hj (by omega)
        · omega
      · exact Or.inr ⟨j, hj, by rw [h1]; exact i1, i2⟩
    · exact Or.inr ⟨n, hlt, h1, by omega⟩
theorem wSum_zero : ∀ B : List BK, (∀ b ∈ B, b.2 ≤ 0) → wSum B ≤ 0
  | [], _ => by simp [wSum]
  | b :: B, h => by
    have h1 := wSum_zero B (fun x hx => h x (List.mem_cons_of_mem _ hx))
    have h2 := h b List.mem_cons_self
    simp only [wSum, List.map_cons, List.sum_cons] at h1 ⊢
    omega
theorem winner_serv (key : ByteArray) {B : List BK} (hW : 1 ≤ wSum B) (s : Nat) : ServE B (winnerF key B s) := by
  unfold winnerF
  rcases winnerTo_sv key s B B.length (Nat.le_refl _) with ⟨_, h⟩ | h
  · have := wSum_zero B (fun b hb => by obtain ⟨j, hj, rfl⟩ := List.getElem_of_mem hb; exact h j hj hj)
    omega
  · exact h
/-- the order of points -/
def Le2 (a b : EI) : Prop := a.1 < b.1 ∨ (a.1 = b.1 ∧ a.2 ≤ b.2)
theorem insE_perm (e : EI) : ∀ l : List EI, (insE e l).Perm (e :: l)
  | [] => List.Perm.refl _
  | x :: l => by
    rw [insE]
    split
    · exact List.Perm.refl _
    · exact (List.Perm.cons x (insE_perm e l)).trans (List.Perm.swap e x l)
theorem insE_le {e : EI} : ∀ {l : List EI}, l.Pairwise Le2 → (∀ x ∈ l, x.2 ≤ e.2) → (insE e l).Pairwise Le2
  | [], _, _ => List.pairwise_singleton _ _
  | x :: l, h, hx => by
    rw [insE]
    obtain ⟨h1, h2⟩ := List.pairwise_cons.1 h
    split
    · rename_i hlt
      refine List.pairwise_cons.2 ⟨fun y hy => ?_, h⟩
      rcases List.mem_cons.1 hy with rfl | hy
      · exact Or.inl hlt
      · rcases h1 y hy with k | k
        · exact Or.inl (by omega)
        · exact Or.inl (by omega)
    · rename_i hge
      refine List.pairwise_cons.2 ⟨fun y hy => ?_, insE_le h2 (fun z hz => hx z (List.mem_cons_of_mem _ hz))⟩
      rcases List.mem_cons.1 ((insE_perm e l).mem_iff.1 hy) with rfl | hy
      · have := hx x List.mem_cons_self
        unfold Le2
        omega
      · exact h1 y hy
theorem sortTo_perm (L : List EI) : ∀ n, n ≤ L.length → (sortTo L n).Perm (L.take n)
  | 0, _ => by rw [sortTo]; simp
  | n + 1, hn => by
    have hlt : n < L.length := by omega
    rw [sortTo, List.getElem?_eq_getElem hlt, List.take_succ_eq_append_getElem hlt]
    dsimp only
    exact (insE_perm _ _).trans ((List.Perm.cons _ (sortTo_perm L n (by omega))).trans (List.perm_append_singleton _ _).symm)
theorem sortTo_le (L : List EI) (hL : L.Pairwise fun a b => a.2 ≤ b.2) : ∀ n, n ≤ L.length → (sortTo L n).Pairwise Le2
  | 0, _ => by rw [sortTo]; exact List.Pairwise.nil
  | n + 1, hn => by
    have hlt : n < L.length := by omega
    rw [sortTo, List.getElem?_eq_getElem hlt]
    dsimp only
    refine insE_le (sortTo_le L hL n (by omega)) (fun x hx => ?_)
    have hx2 := (sortTo_perm L n (by omega)).mem_iff.1 hx
    obtain ⟨j, hj, rfl⟩ := List.getElem_of_mem hx2
    rw [List.length_take] at hj
    rw [List.getElem_take]
    exact List.pairwise_iff_getElem.1 hL j n (by omega) hlt (by omega)
theorem ptsTo_step (key : ByteArray) (letter : UInt8) (each : Int) {B : List BK} {n : Nat} (h : n < B.length) : ptsTo key letter each B (n + 1) = ptsTo key letter each B n ++ ptsOf key letter each n B[n] := by
  rw [ptsTo, List.getElem?_eq_getElem h]
theorem ptsOf_two {key : ByteArray} {letter : UInt8} {each : Int} {i : Nat} {b : BK} {e : EI} (h : e ∈ ptsOf key letter each i b) : e.2 = (i : Int) ∧ 0 < (each * b.2).toNat := by
  unfold ptsOf at h
  obtain ⟨k, hk, rfl⟩ := List.mem_map.1 h
  exact ⟨rfl, by have := List.mem_range.1 hk; omega⟩
theorem ptsTo_mem {key : ByteArray} {letter : UInt8} {each : Int} {B : List BK} : ∀ n, n ≤ B.length → ∀ e ∈ ptsTo key letter each B n, ∃ (j : Nat) (h : j < B.length), j < n ∧ e.2 = (j : Int) ∧ 0 < (each * B[j].2).toNat
  | 0, _ => by simp [ptsTo]
  | n + 1, hn => by
    intro e he
    rw [ptsTo_step key letter each (by omega)] at he
    rcases List.mem_append.1 he with he | he
    · obtain ⟨j, h1, h2, h3⟩ := ptsTo_mem n (by omega) e he
      exact ⟨j, h1, by omega, h3⟩
    · obtain ⟨h1, h2⟩ := ptsOf_two he
      exact ⟨n, by omega, by omega, h1, h2⟩
theorem ptsTo_up {key : ByteArray} {letter : UInt8} {each : Int} {B : List BK} : ∀ n, n ≤ B.length → (ptsTo key letter each B n).Pairwise fun a b => a.2 ≤ b.2
  | 0, _ => by rw [ptsTo]; exact List.Pairwise.nil
  | n + 1, hn => by
    rw [ptsTo_step key letter each (by omega)]
    refine List.pairwise_append.2 ⟨ptsTo_up n (by omega), ?_, fun a ha b hb => ?_⟩
    · refine List.pairwise_iff_getElem.2 fun i j hi hj _ => ?_
      have e1 := (ptsOf_two (List.getElem_mem hi)).1
      have e2 := (ptsOf_two (List.getElem_mem hj)).1
      omega
    · obtain ⟨j, h1, h2, h3, _⟩ := ptsTo_mem n (by omega) a ha
      have := (ptsOf_two hb).1
      omega
theorem ptsOf_cnt (key : ByteArray) (letter : UInt8) (each : Int) (i : Nat) (b : BK) (k : Nat) : cntE (ptsOf key letter each i b) k = if i = k then (each * b.2).toNat else 0 := by
  unfold cntE
  by_cases h : i = k
  · rw [if_pos h, List.countP_eq_length.2]
    · unfold ptsOf; simp
    · intro e he
      rw [(ptsOf_two he).1, beq_iff_eq]; omega
  · rw [if_neg h, List.countP_eq_zero.2]
    intro e he
    rw [(ptsOf_two he).1, beq_iff_eq]; omega
theorem ptsTo_cnt (key : ByteArray) (letter : UInt8) (each : Int) (B : List BK) (k : Nat) (hk : k < B.length) : ∀ n, n ≤ B.length → cntE (ptsTo key letter each B n) k = if k < n then (each * B[k].2).toNat else 0
  | 0, _ => by simp [ptsTo, cntE]
  | n + 1, hn => by
    have ih := ptsTo_cnt key letter each B k hk n (by omega)
    rw [ptsTo_step key letter each (by omega), cntE, List.countP_append]
    show cntE _ k + cntE _ k = _
    rw [ih, ptsOf_cnt]
    by_cases h1 : k < n
    · rw [if_pos h1, if_neg (by omega), if_pos (by omega)]; rfl
    · by_cases h2 : n = k
      · subst h2; rw [if_neg h1, if_pos rfl, if_pos (by omega)]; omega
      · rw [if_neg h1, if_neg h2, if_neg (by omega)]
theorem ptsTo_lenI {key : ByteArray} {letter : UInt8} {each : Int} {B : List BK} (he : 0 ≤ each) (hB : ∀ b ∈ B, 0 ≤ b.2) : ∀ n, n ≤ B.length → ((ptsTo key letter each B n).length : Int) = each * wSum (B.take n)
  | 0, _ => by simp [ptsTo, wSum]
  | n + 1, hn => by
    have hlt : n < B.length := by omega
    have ih := ptsTo_lenI (key := key) (letter := letter) he hB n (by omega)
    have hp : 0 ≤ each * B[n].2 := Int.mul_nonneg he (hB _ (List.getElem_mem hlt))
    rw [ptsTo_step key letter each hlt, List.length_append, wSum_take B n hlt, Int.mul_add, ← ih]
    have : ((ptsOf key letter each n B[n]).length : Int) = each * B[n].2 := by
      unfold ptsOf
      rw [List.length_map, List.length_range, Int.toNat_of_nonneg hp]
    omega
theorem points_right {key : ByteArray} {letter : UInt8} {each : Int} {B : List BK} (he : 0 ≤ each) (hB : ∀ b ∈ B, 0 ≤ b.2) : ((pointsF key letter each B).length : Int) = each * wSum B ∧ (∀ e ∈ pointsF key letter each B, ServE B e.2) ∧ RiseE (pointsF key letter each B) ∧ ∀ j (h : j < B.length), (cntE (pointsF key letter each B) j : Int) = each * B[j].2 := by
  have hp : (pointsF key letter each B).Perm (ptsTo key letter each B B.length) := by
    have := sortTo_perm (ptsTo key letter each B B.length) _ (Nat.le_refl _)
    rwa [List.take_length] at this
  refine ⟨?_, fun e h => ?_, ?_, fun j h => ?_⟩
  · rw [hp.length_eq, ptsTo_lenI he hB _ (Nat.le_refl _), List.take_length]
  · obtain ⟨j, h1, -, h2, h3⟩ := ptsTo_mem B.length (Nat.le_refl _) e (hp.mem_iff.1 h)
    refine ⟨j, h1, h2, ?_⟩
    have hw := hB _ (List.getElem_mem h1)
    rcases Int.lt_or_eq_of_le hw with k | k
    · exact k
    · rw [← k, Int.mul_zero] at h3
      exact absurd h3 (by decide)
  · have := sortTo_le _ (ptsTo_up (key := key) (letter := letter) (each := each) (B := B) _ (Nat.le_refl _)) _ (Nat.le_refl _)
    intro i hi
    have h1 := List.pairwise_iff_getElem.1 this i (i + 1) (by have : i + 1 < (pointsF key letter each B).length := hi; unfold pointsF at this; omega) hi (by omega)
    unfold Up2
    have h2 : Le2 (pointsF key letter each B)[i] (pointsF key letter each B)[i + 1] := h1
    unfold Le2 at h2
    omega
  · unfold cntE
    rw [hp.countP_eq]
    have := ptsTo_cnt key letter each B j h B.length (Nat.le_refl _)
    unfold cntE at this
    rw [this, if_pos h, Int.toNat_of_nonneg (Int.mul_nonneg he (hB _ (List.getElem_mem h)))]
/-- every table that is made is a right one -/
theorem mkF_right {c : Cfg} {B : List BK} (hc : c.OK) (hB : Good B) : RightT c B (mkF c B) := by
  have hw : ∀ b ∈ B, 0 ≤ b.2 := fun b hb => (hB.1.2 b hb).2.2.1
  have ha1 := hc.1
  have ha4 := hc.2.1
  by_cases hW : wSum B < 1
  · have e : mkF c B = [] := by rw [mkF, if_pos hW]
    rw [e]
    refine ⟨?_, ?_, ?_⟩
    · rw [cntF, if_pos hW]; rfl
    · intro e he; cases he
    intro _
    refine ⟨fun i hi => absurd hi (by simp), fun j h => ?_⟩
    have hz := wSum_nonneg B hw
    have hj : B[j].2 = 0 := by
      have h1 := wSum_take B j h
      have h0 := hw _ (List.getElem_mem h)
      have h2 := wSum_nonneg (B.take j) (fun b hb => hw b (List.mem_of_mem_take hb))
      have h3 := wSum_nonneg (B.drop (j + 1)) (fun b hb => hw b (List.mem_of_mem_drop hb))
      have h4 : wSum B = wSum (B.take (j + 1)) + wSum (B.drop (j + 1)) := by
        unfold wSum
        rw [← List.sum_append, ← List.map_append, List.take_append_drop]
      omega
    rw [hj, Int.mul_zero]
    rfl
  have hW1 : 1 ≤ wSum B := by omega
  have hsl := hc.2.2.1
  by_cases h1 : c.alg = 1
  · obtain ⟨m1, m2⟩ := mag_right hc hB hW1
    have e : mkF c B = (maglevF c B).map fun o => (0, o) := by rw [mkF, if_neg hW, if_pos h1]
    have hp : hasP c.alg = false := by rw [h1]; rfl
    rw [e]
    refine ⟨?_, fun x hx => ?_, fun h => by rw [hp] at h; cases h⟩
    · rw [List.length_map, m1, cntF, if_neg hW, hp, Int.toNat_of_nonneg (by omega)]; rfl
    · obtain ⟨o, ho, rfl⟩ := List.mem_map.1 hx
      exact m2 o ho
  by_cases h2 : c.alg = 2
  · have e : mkF c B = pointsF c.key 114 c.points B := by rw [mkF, if_neg hW, if_neg h1, if_pos h2]
    have hp : hasP c.alg = true := by rw [h2]; rfl
    have he : eachF c = c.points := by rw [eachF, if_pos h2]
    have hpt := hc.2.2.2.2.2.1
    obtain ⟨p1, p2, p3, p4⟩ := points_right (key := c.key) (letter := 114) (each := c.points) (B := B) (by omega) hw
    rw [e]
    refine ⟨by rw [p1, cntF, if_neg hW, hp, he]; rfl, p2, fun _ => ⟨p3, fun j h => by rw [he]; exact p4 j h⟩⟩
  by_cases h3 : c.alg = 3
  · have e : mkF c B = (List.range c.slots.toNat).map fun s => (0, winnerF c.key B s) := by rw [mkF, if_neg hW, if_neg h1, if_neg h2, if_pos h3]
    have hp : hasP c.alg = false := by rw [h3]; rfl
    rw [e]
    refine ⟨?_, fun x hx => ?_, fun h => by rw [hp] at h; cases h⟩
    · rw [List.length_map, List.length_range, cntF, if_neg hW, hp, Int.toNat_of_nonneg (by omega)]; rfl
    · obtain ⟨s, -, rfl⟩ := List.mem_map.1 hx
      exact winner_serv c.key hW1 s
  · have h4 : c.alg = 4 := by omega
    have e : mkF c B = pointsF c.key 109 1 B := by rw [mkF, if_neg hW, if_neg h1, if_neg h2, if_neg h3, if_pos h4]
    have hp : hasP c.alg = true := by rw [h4]; rfl
    have he : eachF c = 1 := by rw [eachF, if_neg h2]
    obtain ⟨p1, p2, p3, p4⟩ := points_right (key := c.key) (letter := 109) (each := 1) (B := B) (by omega) hw
    rw [e]
    refine ⟨by rw [p1, cntF, if_neg hW, hp, he]; rfl, p2, fun _ => ⟨p3, fun j h => by rw [he]; exact p4 j h⟩⟩
theorem mkF_enW {c : Cfg} {B : List BK} (hc : c.OK) (hB : Good B) : ∀ e ∈ mkF c B, EnW c.alg B.length e := fun e he => by
  have h1 := mkF_in c B e he
  obtain ⟨j, hj, h2, -⟩ := (mkF_right hc hB).2.1 e he
  refine ⟨h1.1.1, h1.1.2, fun hp => ?_, by omega, by omega⟩
  rw [mkF] at he
  split at he
  · cases he
  split at he
  · obtain ⟨o, -, rfl⟩ := List.mem_map.1 he
    rfl
  split at he
  · rename_i h3; rw [h3] at hp; cases hp
  split at he
  · obtain ⟨o, -, rfl⟩ := List.mem_map.1 he
    rfl
  split at he
  · rename_i h3; rw [h3] at hp; cases hp
  · cases he
/-- a service's image is read as it was written -/
theorem simage_round {f g : Nat} {c : Cfg} {B : List BK} (hf : 1 ≤ f ∧ f ≤ 2) (hc : c.OK) (hB : Good B) (hg : 1 ≤ g ∧ g ≤ 1073741824) : imageP (imageB f g c B (mkF c B)) = some (f, g, { c with formats := 0 }, B, mkF c B) :=
  image_round hf ((Cfg.ok_iff c).1 hc).1 hB (mkF_enW hc hB) (by
    have h1 := (mkF_right hc hB).1
    have h2 := wSum_le hB.1
    have h3 := ((Cfg.ok_iff c).1 hc).1
    have h4 := eachF_le h3
    have h5 : cntF c B ≤ 300 := by
      unfold cntF
      have h6 := hc.2.2.2.1
      split
      · omega
      · split
        · have : eachF c * wSum B ≤ 3 * 48 := Int.mul_le_mul h4.2 h2.2 h2.1 (by omega)
          omega
        · omega
    omega) ⟨hg, mkF_right hc hB⟩

end Go.Proofs.YtpapdkhjdelfcabGreat

namespace Go.Proofs.YtpapdkhjdelfcabGreat
open Go.RowKit

theorem preN_take : ∀ a b : List EI, a.take (preN a b) = b.take (preN a b)
  | [], b => by simp [preN]
  | _ :: _, [] => by simp [preN]
  | x :: a, y :: b => by
    rw [preN]
    split
    · rename_i h
      rw [List.take_succ_cons, List.take_succ_cons, h, preN_take a b]
    · simp
theorem sufN_drop (a b : List EI) : a.drop (a.length - sufN a b) = b.drop (b.length - sufN a b) := by
  have h := preN_take a.reverse b.reverse
  have hl := sufN_le a b
  have e : ∀ (l : List EI) (k : Nat), k ≤ l.length → l.reverse.take k = (l.drop (l.length - k)).reverse := fun l k hk => by
    rw [List.take_reverse]
  change a.reverse.take (sufN a b) = b.reverse.take (sufN a b) at h
  rw [e a _ hl.1, e b _ hl.2] at h
  exact List.reverse_inj.1 h
/-- what a patch makes of the old entries -/
theorem ct_back (O E : List EI) (p s : Nat) (hp : p = preN O E) (hs : s = sufN (O.drop p) (E.drop p)) : p + s ≤ O.length ∧ p + s ≤ E.length ∧ ctF p s ((E.drop p).take (E.length - s - p)) O = E := by
  have h1 := preN_le O E
  have h2 := sufN_le (O.drop p) (E.drop p)
  rw [← hp] at h1
  rw [← hs, List.length_drop, List.length_drop] at h2
  refine ⟨by omega, by omega, ?_⟩
  have h3 := preN_take O E
  rw [← hp] at h3
  have h4 := sufN_drop (O.drop p) (E.drop p)
  rw [← hs, List.drop_drop, List.drop_drop, List.length_drop, List.length_drop] at h4
  have e1 : p + (O.length - p - s) = O.length - s := by omega
  have e2 : p + (E.length - p - s) = E.length - s := by omega
  rw [e1, e2] at h4
  unfold ctF
  rw [h3, h4]
  have e3 : (E.drop p).take (E.length - s - p) ++ E.drop (E.length - s) = E.drop p := by
    have := List.take_append_drop (E.length - s - p) (E.drop p)
    rw [List.drop_drop] at this
    rwa [show p + (E.length - s - p) = E.length - s by omega] at this
  rw [List.append_assoc, e3, List.take_append_drop]
theorem open_pack {L : List Bool} (h : 0 < L.length) : openB (packB L ++ sumB (crcB (packB L))) = some (packB L) := by
  obtain ⟨z, hz, hbits⟩ := pack_bits _ L (Nat.le_refl _)
  have hlen : 0 < (packB L).length := by
    rcases Nat.eq_zero_or_pos (packB L).length with e | e
    · exfalso
      have h0 := congrArg List.length hbits
      rw [bytesBits_len, e, List.length_append] at h0
      omega
    · exact e
  unfold openB
  have e4 : (sumB (crcB (packB L))).length = 4 := rfl
  have e : (packB L ++ sumB (crcB (packB L))).length - 4 = (packB L).length := by rw [List.length_append, e4]; omega
  rw [if_neg (by rw [List.length_append, e4]; omega), e, List.take_left', List.drop_left', if_pos rfl]
  · rfl
  · rfl
/-- a patch is read as it was written -/
theorem change_round {b s g : Nat} {B : List BK} {ah bh : Nat} {M : List EI} {alg : Int} (hb : b < 4294967296) (hs : s < 4294967296) (hg : g < 4294967296) (hB : Good B) (h1 : ah < 65536) (h2 : bh < 65536) (hl : M.length < 65536) (hM : ∀ e ∈ M, EnW alg B.length e) : changeP alg (patchB b s g B ah bh M alg) = some (b, s, g, B, ah, bh, M) := by
  obtain ⟨z, hz, hbits⟩ := pack_bits _ (chB b s g B ah bh M alg) (Nat.le_refl _)
  have hop : openB (patchB b s g B ah bh M alg) = some (packB (chB b s g B ah bh M alg)) := open_pack (by
    unfold chB
    simp only [List.length_append, chHd_len]
    omega)
  have hbody : chB b s g B ah bh M alg ++ List.replicate z false = bytesBits [67, 80] ++ (numBits b 32 ++ (numBits s 32 ++ (numBits g 32 ++ (bksB B ++ (numBits ah 16 ++ (numBits bh 16 ++ (numBits M.length 16 ++ (ensB (wpF alg) (woF 1 alg B.length) M ++ List.replicate z false)))))))) := by
    unfold chB chHd
    simp only [List.append_assoc, List.nil_append]
  have s1 := textP_txt [67, 80] (numBits b 32 ++ (numBits s 32 ++ (numBits g 32 ++ (bksB B ++ (numBits ah 16 ++ (numBits bh 16 ++ (numBits M.length 16 ++ (ensB (wpF alg) (woF 1 alg B.length) M ++ List.replicate z false)))))))) (k := 2) rfl
  have s2 : baseX (numBits b 32 ++ (numBits s 32 ++ (numBits g 32 ++ (bksB B ++ (numBits ah 16 ++ (numBits bh 16 ++ (numBits M.length 16 ++ (ensB (wpF alg) (woF 1 alg B.length) M ++ List.replicate z false)))))))) = some ((b, s, g), bksB B ++ (numBits ah 16 ++ (numBits bh 16 ++ (numBits M.length 16 ++ (ensB (wpF alg) (woF 1 alg B.length) M ++ List.replicate z false))))) := by
    unfold baseX
    rw [thenP_go (numP_num (W := 32) _ hb), thenP_go (numP_num (W := 32) _ hs), thenP_go (numP_num (W := 32) _ hg)]
    rfl
  have s3 := bksX_enc B hB.1 (numBits ah 16 ++ (numBits bh 16 ++ (numBits M.length 16 ++ (ensB (wpF alg) (woF 1 alg B.length) M ++ List.replicate z false))))
  have s4 : cutX (numBits ah 16 ++ (numBits bh 16 ++ (numBits M.length 16 ++ (ensB (wpF alg) (woF 1 alg B.length) M ++ List.replicate z false)))) = some ((ah, bh, M.length), ensB (wpF alg) (woF 1 alg B.length) M ++ List.replicate z false) := by
    unfold cutX
    rw [thenP_go (numP_num (W := 16) _ h1), thenP_go (numP_num (W := 16) _ h2), thenP_go (numP_num (W := 16) _ hl)]
    rfl
  have s5 := manyP_enc (P := oneEn (wpF alg) (woF 1 alg B.length)) (enc := enB (wpF alg) (woF 1 alg B.length)) M (fun e he Y => oneEn_enc (f := 1) hB.1.1 (hM e he) Y) (List.replicate z false)
  unfold changeP
  rw [hop, Option.bind_some, hbits, hbody]
  rw [chgT_step (o' := some _) (by rw [Option.bind_some, s1]; rfl), if_pos rfl, chgH_step (o' := some _) (by rw [Option.bind_some, s2]; rfl), chgBk_step (o' := some _) (by rw [Option.bind_some, s3]; rfl), if_pos hB, chgC_step (o' := some _) (by rw [Option.bind_some, s4]; rfl)]
  rw [chgM_step (o' := some (List.replicate z false)) (M := M) (by rw [Option.bind_some]; exact s5)]
  unfold chgEnd
  rw [if_pos (zeros_end z hz)]

end Go.Proofs.YtpapdkhjdelfcabGreat

namespace Go.Proofs.YtpapdkhjdelfcabGreat
open Go.RowKit

/-- a service's image -/
def imgS (f g : Nat) (c : Cfg) (B : List BK) : List UInt8 := imageB f g c B (mkF c B)
def GenOK (c : Cfg) (g : Nat) (B : List BK) : Prop := c.OK ∧ Good B ∧ 1 ≤ g ∧ g ≤ 1073741824
theorem imgS_round {f g : Nat} {c : Cfg} {B : List BK} (hf : 1 ≤ f ∧ f ≤ 2) (h : GenOK c g B) : imageP (imgS f g c B) = some (f, g, { c with formats := 0 }, B, mkF c B) := simage_round hf h.1 h.2.1 h.2.2
theorem body_pos (f g : Nat) (c : Cfg) (B : List BK) (E : List EI) : 0 < (bodyB f g c B E).length := by
  unfold bodyB headB
  simp only [List.length_append, bytesBits_len, List.length_cons]
  omega
theorem imgS_open (f g : Nat) (c : Cfg) (B : List BK) : openB (imgS f g c B) = some (packB (bodyB f g c B (mkF c B))) := open_pack (body_pos _ _ _ _ _)
theorem imgS_len (f g : Nat) (c : Cfg) (B : List BK) : 5 ≤ (imgS f g c B).length := by
  have h := imgS_open f g c B
  unfold openB at h
  split at h
  · cases h
  · omega
theorem dec_img {f g : Nat} {c : Cfg} {B : List BK} (hf : 1 ≤ f ∧ f ≤ 2) (h : GenOK c g B) : decF (imgS f g c B) = (imgS 1 g c B, imgS 2 g c B, g, 0) := by
  unfold decF
  rw [imgS_round hf h]
  rfl
theorem bit_set {l : List UInt8} {j : Nat} {v : UInt8} (i : Nat) (hi : i < j * 8 ∨ j * 8 + 32 ≤ i) : bitAt (l.set j v) i = bitAt l i := by
  unfold bitAt
  rw [List.getElem?_set_ne (by omega)]
theorem xor_bit {x v : UInt8} (h : v ≠ 0) : ∃ k, k < 8 ∧ (x ^^^ v).toNat.testBit k ≠ x.toNat.testBit k := by
  have hne : v.toNat ≠ 0 := fun e => h (UInt8.toNat_inj.1 e)
  obtain ⟨k, hk⟩ := Nat.exists_testBit_of_ne_zero hne
  refine ⟨k, ?_, ?_⟩
  · rcases Nat.lt_or_ge k 8 with h8 | h8
    · exact h8
    · have := Nat.testBit_lt_two_pow (Nat.lt_of_lt_of_le v.toNat_lt (Nat.pow_le_pow_right (by omega) h8) : v.toNat < 2 ^ k)
      rw [this] at hk; cases hk
  · rw [UInt8.toNat_xor, Nat.testBit_xor, hk]
    cases x.toNat.testBit k <;> simp
theorem turned_none {l b : List UInt8} {j : Nat} {v : UInt8} (h : openB l = some b) (hj : j < l.length) (hv : v ≠ 0) : openB (l.set j (l[j] ^^^ v)) = none := by
  refine burst_kills (p := j * 8) h (by simp) (fun i hi => bit_set i hi) ?_
  obtain ⟨k, hk, hne⟩ := xor_bit (x := l[j]) hv
  refine ⟨j * 8 + k, by omega, ?_⟩
  have e1 : (j * 8 + k) / 8 = j := by omega
  have e2 : (j * 8 + k) % 8 = k := by omega
  unfold bitAt
  rw [e1, e2, List.getElem?_set_self hj, List.getElem?_eq_getElem hj]
  exact hne
theorem dec_none {l : List UInt8} (h : openB l = none) : decF l = ([], [], 0, 9) := by
  unfold decF imageP
  rw [h]
  rfl
/-- the patch of two of a service's images -/
def patS (c : Cfg) (g1 : Nat) (B1 : List BK) (g2 : Nat) (B2 : List BK) : List UInt8 :=
  patchB g1 (sumF g1 c B1 (mkF c B1)).toNat g2 B2 (preN ((mkF c B1).map (inE B1 B2)) (mkF c B2)) (sufN (((mkF c B1).map (inE B1 B2)).drop (preN ((mkF c B1).map (inE B1 B2)) (mkF c B2))) ((mkF c B2).drop (preN ((mkF c B1).map (inE B1 B2)) (mkF c B2)))) (((mkF c B2).drop (preN ((mkF c B1).map (inE B1 B2)) (mkF c B2))).take ((mkF c B2).length - sufN (((mkF c B1).map (inE B1 B2)).drop (preN ((mkF c B1).map (inE B1 B2)) (mkF c B2))) ((mkF c B2).drop (preN ((mkF c B1).map (inE B1 B2)) (mkF c B2))) - preN ((mkF c B1).map (inE B1 B2)) (mkF c B2))) c.alg
theorem patch_img {c : Cfg} {g1 g2 : Nat} {B1 B2 : List BK} {f1 f2 : Nat} (hf1 : 1 ≤ f1 ∧ f1 ≤ 2) (hf2 : 1 ≤ f2 ∧ f2 ≤ 2) (h1 : GenOK c g1 B1) (h2 : GenOK c g2 B2) : patchF (imgS f1 g1 c B1) (imgS f2 g2 c B2) = (patS c g1 B1 g2 B2, 0) := by
  unfold patchF
  rw [imgS_round hf1 h1, imgS_round hf2 h2]
  dsimp only
  rw [if_pos rfl]
  rfl
theorem mkF_short {c : Cfg} {B : List BK} (hc : c.OK) (hB : Good B) : (mkF c B).length < 65536 := by
  have h1 := (mkF_right hc hB).1
  have h2 := wSum_le hB.1
  have h4 := eachF_le ((Cfg.ok_iff c).1 hc).1
  have h5 : cntF c B ≤ 300 := by
    unfold cntF
    have h6 := hc.2.2.2.1
    split
    · omega
    · split
      · have : eachF c * wSum B ≤ 3 * 48 := Int.mul_le_mul h4.2 h2.2 h2.1 (by omega)
        omega
      · omega
  omega
theorem change_img {c : Cfg} {g1 g2 : Nat} {B1 B2 : List BK} (h1 : GenOK c g1 B1) (h2 : GenOK c g2 B2) : ∃ ah bh M, changeP c.alg (patS c g1 B1 g2 B2) = some (g1, (sumF g1 c B1 (mkF c B1)).toNat, g2, B2, ah, bh, M) ∧ ah + bh ≤ (mkF c B1).length ∧ ctF ah bh M ((mkF c B1).map (inE B1 B2)) = mkF c B2 := by
  obtain ⟨p1, p2, p3⟩ := ct_back ((mkF c B1).map (inE B1 B2)) (mkF c B2) _ _ rfl rfl
  have l1 := mkF_short h1.1 h1.2.1
  have l2 := mkF_short h2.1 h2.2.1
  rw [List.length_map] at p1
  refine ⟨_, _, _, change_round ?_ ?_ ?_ h2.2.1 ?_ ?_ ?_ ?_, p1, p3⟩
  · have := h1.2.2.2; omega
  · exact BitVec.isLt _
  · have := h2.2.2.2; omega
  · omega
  · omega
  · rw [List.length_take, List.length_drop]; omega
  · intro e he
    exact mkF_enW h2.1 h2.2.1 e (List.mem_of_mem_drop (List.mem_of_mem_take he))
theorem apply_img {c : Cfg} {g1 g2 : Nat} {B1 B2 : List BK} (h1 : GenOK c g1 B1) (h2 : GenOK c g2 B2) : applyF (patS c g1 B1 g2 B2) (imgS 1 g1 c B1) = (imgS 1 g2 c B2, 0) := by
  obtain ⟨ah, bh, M, e1, e2, e3⟩ := change_img h1 h2
  unfold applyF
  rw [imgS_round ⟨by omega, by omega⟩ h1]
  dsimp only
  rw [e1]
  dsimp only
  have hR : RightT { c with formats := 0 } B2 (mkF c B2) := mkF_right (c := c) h2.1 h2.2.1
  rw [if_pos ⟨rfl, rfl⟩, if_pos e2, e3, if_pos ⟨h2.2.2, hR⟩]
  rfl
theorem apply_other {c : Cfg} {g1 g2 g : Nat} {B1 B2 B : List BK} (h1 : GenOK c g1 B1) (h2 : GenOK c g2 B2) (h : GenOK c g B) : (applyF (patS c g1 B1 g2 B2) (imgS 1 g c B)).2 = 10 ∨ (g1 = g ∧ sumF g1 c B1 (mkF c B1) = sumF g c B (mkF c B)) := by
  obtain ⟨ah, bh, M, e1, e2, e3⟩ := change_img h1 h2
  by_cases hc : g1 = g ∧ sumF g1 c B1 (mkF c B1) = sumF g c B (mkF c B)
  · exact Or.inr hc
  · refine Or.inl ?_
    unfold applyF
    rw [imgS_round ⟨by omega, by omega⟩ h]
    dsimp only
    rw [e1]
    dsimp only
    rw [if_neg]
    intro k
    exact hc ⟨k.1, BitVec.eq_of_toNat_eq k.2⟩
theorem cut4 (a t : List UInt8) (h : t.length = 4) : (a ++ t).take ((a ++ t).length - 4) = a := List.take_left' (by rw [List.length_append, h]; omega)
theorem imgS_cut (g : Nat) (c : Cfg) (B : List BK) : crcB ((imgS 1 g c B).take ((imgS 1 g c B).length - 4)) = sumF g c B (mkF c B) :=
  congrArg crcB (cut4 (packB (bodyB 1 g c B (mkF c B))) (sumB (crcB (packB (bodyB 1 g c B (mkF c B))))) rfl)

end Go.Proofs.YtpapdkhjdelfcabGreat
