import Derived.Test.YtgfildmmcbjpnabGreatLAA
import Derived.Test.YtgfildmmcbjpnabGreatLAB
import Derived.Test.YtgfildmmcbjpnabGreatLAF
import Derived.Test.YtgfildmmcbjpnabGreatLAN
namespace Go.Proofs.YtgfildmmcbjpnabGreat
open Go.RowKit

/-- the copies of a pool: of each name so many as its weight gives it -/
def Cop (each : Int) (B : List BK) (n : ByteArray) (k : Nat) : Prop := ∃ b ∈ B, b.1 = n ∧ k < (each * b.2).toNat
/-- whose the least is: by value, then by name -/
def IsMin (X : ByteArray → Nat → Nat → Prop) (v : ByteArray → Nat → Nat → Int) (n : ByteArray) : Prop := ∃ i k, X n i k ∧ ∀ m j l, X m j l → v n i k < v m j l ∨ (v n i k = v m j l ∧ less m n = false)
theorem IsMin.unique {X : ByteArray → Nat → Nat → Prop} {v : ByteArray → Nat → Nat → Int} {n m : ByteArray} (h : IsMin X v n) (h' : IsMin X v m) : n = m := by
  obtain ⟨i, k, h1, h2⟩ := h
  obtain ⟨j, l, h3, h4⟩ := h'
  rcases h2 m j l h3 with h5 | ⟨h5, h6⟩
  · rcases h4 n i k h1 with h7 | ⟨h7, _⟩ <;> omega
  · rcases h4 n i k h1 with h7 | ⟨_, h8⟩
    · omega
    · exact less_total h8 h6
theorem IsMin.less {X X' : ByteArray → Nat → Nat → Prop} {v : ByteArray → Nat → Nat → Int} {n : ByteArray} (h : IsMin X' v n) (hs : ∀ m j l, X m j l → X' m j l) (hn : ∀ j l, X' n j l → X n j l) : IsMin X v n := by
  obtain ⟨i, k, h1, h2⟩ := h
  exact ⟨i, k, hn i k h1, fun m j l hm => h2 m j l (hs m j l hm)⟩
/-- Rendezvous -/
theorem winTo_spec (key : ByteArray) (s i : Nat) (id : ByteArray) (m : Int × Int) : ∀ k,
    ((winTo key s i id m k).1 = -1 ∨ 0 ≤ (winTo key s i id m k).1 ∨ (winTo key s i id m k) = m) ∧
    (winTo key s i id m k = m ∨ ((winTo key s i id m k).1 = i ∧ ∃ j, j < k ∧ (winTo key s i id m k).2 = hsh key 104 [s, j] id)) ∧
    (0 ≤ m.1 → 0 ≤ (winTo key s i id m k).1 ∧ m.2 ≤ (winTo key s i id m k).2 ∧ ((winTo key s i id m k).2 = m.2 → winTo key s i id m k = m)) ∧
    (∀ j, j < k → 0 ≤ (winTo key s i id m k).1 ∧ hsh key 104 [s, j] id ≤ (winTo key s i id m k).2) := by
  intro k
  induction k with
  | zero => exact ⟨Or.inr (Or.inr rfl), Or.inl rfl, fun h => ⟨h, Int.le_refl _, fun _ => rfl⟩, fun j hj => by omega⟩
  | succ k ih =>
    obtain ⟨h1, h2, h3, h4⟩ := ih
    simp only [winTo]
    split
    · rename_i hc
      refine ⟨Or.inr (Or.inl (by simp only; omega)), Or.inr ⟨rfl, k, by omega, rfl⟩, fun h => ⟨by simp only; omega, ?_, ?_⟩, fun j hj => ⟨by simp only; omega, ?_⟩⟩
      · have := h3 h
        simp only
        rcases hc with hc | hc <;> omega
      · intro he
        have := h3 h
        simp only at he
        rcases hc with hc | hc <;> omega
      · simp only
        by_cases hjk : j = k
        · subst hjk; exact Int.le_refl _
        · have := h4 j (by omega)
          rcases hc with hc | hc <;> omega
    · rename_i hc
      have hc1 : 0 ≤ (winTo key s i id m k).1 := by omega
      have hc2 : hsh key 104 [s, k] id ≤ (winTo key s i id m k).2 := by omega
      refine ⟨Or.inr (Or.inl hc1), h2.imp (fun h => h) (fun ⟨a, j, b, c⟩ => ⟨a, j, by omega, c⟩), h3, fun j hj => ⟨hc1, ?_⟩⟩
      by_cases hjk : j = k
      · subst hjk; exact hc2
      · exact (h4 j (by omega)).2
theorem winnerTo_spec (key : ByteArray) (s : Nat) (B : List BK) : ∀ n, n ≤ B.length →
    ((winnerTo key s B n).1 < n) ∧
    (winnerTo key s B n = (-1, 0) ∨ ∃ p, ∃ (hp : p < B.length), p < n ∧ (winnerTo key s B n).1 = p ∧ ∃ j, j < B[p].2.toNat ∧ (winnerTo key s B n).2 = hsh key 104 [s, j] B[p].1) ∧
    (∀ i (hi : i < B.length), i < n → ∀ j, j < B[i].2.toNat → 0 ≤ (winnerTo key s B n).1 ∧ (hsh key 104 [s, j] B[i].1 < (winnerTo key s B n).2 ∨ (hsh key 104 [s, j] B[i].1 = (winnerTo key s B n).2 ∧ (winnerTo key s B n).1 ≤ i))) := by
  intro n
  induction n with
  | zero => intro _; exact ⟨by simp [winnerTo], Or.inl rfl, fun i _ hi => by omega⟩
  | succ n ih =>
    intro hn
    obtain ⟨h1, h2, h3⟩ := ih (by omega)
    have hst : winnerTo key s B (n + 1) = winTo key s n B[n].1 (winnerTo key s B n) B[n].2.toNat := by
      rw [winnerTo, List.getElem?_eq_getElem (show n < B.length by omega)]
    obtain ⟨g1, g2, g3, g4⟩ := winTo_spec key s n B[n].1 (winnerTo key s B n) B[n].2.toNat
    rw [← hst] at g1 g2 g3 g4
    refine ⟨?_, ?_, ?_⟩
    · rcases g2 with g | ⟨g, _⟩
      · rw [g]; push_cast; omega
      · rw [g]; push_cast; omega
    · rcases g2 with g | ⟨g, j, hj, he⟩
      · rw [g]
        exact h2.imp id (fun ⟨p, hp, a, b⟩ => ⟨p, hp, by omega, b⟩)
      · exact Or.inr ⟨n, by omega, by omega, g, j, hj, he⟩
    · intro i hi hin j hj
      by_cases hi2 : i = n
      · subst hi2
        obtain ⟨q1, q2⟩ := g4 j hj
        refine ⟨q1, ?_⟩
        rcases g2 with g | ⟨g, _⟩
        · by_cases he : hsh key 104 [s, j] B[i].1 = (winnerTo key s B (i + 1)).2
          · exact Or.inr ⟨he, by rw [g]; omega⟩
          · exact Or.inl (by omega)
        · by_cases he : hsh key 104 [s, j] B[i].1 = (winnerTo key s B (i + 1)).2
          · exact Or.inr ⟨he, by omega⟩
          · exact Or.inl (by omega)
      · obtain ⟨q1, q2⟩ := h3 i hi (by omega) j hj
        obtain ⟨r1, r2, r3⟩ := g3 q1
        refine ⟨r1, ?_⟩
        by_cases he : (winnerTo key s B (n + 1)).2 = (winnerTo key s B n).2
        · rw [r3 he]; exact q2
        · exact Or.inl (by omega)
theorem Srt.le {B : List BK} (h : Srt B) {i j : Nat} (hi : i < B.length) (hj : j < B.length) (hij : i ≤ j) : less B[j].1 B[i].1 = false := by
  by_cases e : i = j
  · subst e; exact less_irrefl _
  · exact less_asymm (List.pairwise_iff_getElem.1 h i j hi hj (by omega))
theorem nameF_at {B : List BK} {p : Nat} (hp : p < B.length) : nameF B (p : Int) = B[p].1 := by
  rw [nameF, if_neg (by omega), Int.toNat_natCast, List.getElem?_eq_getElem hp]; rfl
theorem wSum_pos : ∀ {B : List BK}, 1 ≤ wSum B → (∀ b ∈ B, 0 ≤ b.2) → ∃ b ∈ B, 1 ≤ b.2
  | [], h, _ => by simp [wSum] at h
  | b :: B, h, hw => by
    by_cases hb : 1 ≤ b.2
    · exact ⟨b, List.mem_cons_self, hb⟩
    · have h0 := hw b List.mem_cons_self
      obtain ⟨x, hx, h1⟩ := wSum_pos (B := B) (by simp only [wSum, List.map_cons, List.sum_cons] at h ⊢; omega) (fun x hx => hw x (List.mem_cons_of_mem _ hx))
      exact ⟨x, List.mem_cons_of_mem _ hx, h1⟩
theorem winner_min {key : ByteArray} {B : List BK} {s : Nat} (hB : Srt B) (hw : ∃ b ∈ B, 1 ≤ b.2) : IsMin (fun n i k => i = 0 ∧ Cop 1 B n k) (fun n _ k => - hsh key 104 [s, k] n) (nameF B (winnerF key B s)) := by
  obtain ⟨h1, h2, h3⟩ := winnerTo_spec key s B B.length (Nat.le_refl _)
  obtain ⟨b, hb, hb1⟩ := hw
  obtain ⟨i, hi, rfl⟩ := List.mem_iff_getElem.1 hb
  have h4 := h3 i hi hi 0 (by omega)
  rcases h2 with h2 | ⟨p, hp, _, he, j, hj, hv⟩
  · rw [h2] at h4
    exact absurd h4.1 (by decide)
  · have hnm : nameF B (winnerF key B s) = B[p].1 := by rw [winnerF, he, nameF_at hp]
    rw [hnm]
    refine ⟨0, j, ⟨rfl, B[p], List.getElem_mem hp, rfl, by rw [Int.one_mul]; exact hj⟩, ?_⟩
    rintro m l q ⟨rfl, b', hb', rfl, hq⟩
    obtain ⟨t, ht, rfl⟩ := List.mem_iff_getElem.1 hb'
    rw [Int.one_mul] at hq
    have h5 := (h3 t ht ht q hq).2
    rw [hv, he] at h5
    rcases h5 with h5 | ⟨h5, h6⟩
    · exact Or.inl (by simp only; omega)
    · exact Or.inr ⟨by simp only; omega, hB.le hp ht (by omega)⟩
/-- points -/
def LexE (L : List EI) : Prop := L.Pairwise fun a b => a.1 < b.1 ∨ (a.1 = b.1 ∧ a.2 ≤ b.2)
theorem insE_lex {e : EI} {L : List EI} (h : LexE L) (hp : ∀ x ∈ L, x.2 ≤ e.2) : LexE (insE e L) := by
  induction L with
  | nil => simp [insE, LexE]
  | cons x L ih =>
    obtain ⟨h1, h2⟩ := List.pairwise_cons.1 h
    rw [insE]
    split
    · rename_i hlt
      refine List.pairwise_cons.2 ⟨fun y hy => ?_, h⟩
      rcases List.mem_cons.1 hy with rfl | hy
      · exact Or.inl hlt
      · have := h1 y hy; omega
    · rename_i hlt
      refine List.pairwise_cons.2 ⟨fun y hy => ?_, ih h2 (fun y hy => hp y (List.mem_cons_of_mem _ hy))⟩
      rcases insE_mem.1 hy with rfl | hy
      · have := hp x List.mem_cons_self; omega
      · exact h1 y hy
theorem sortTo_mem (L : List EI) (x : EI) : ∀ n, n ≤ L.length → (x ∈ sortTo L n ↔ x ∈ L.take n) := by
  intro n
  induction n with
  | zero => intro _; simp [sortTo]
  | succ n ih =>
    intro hn
    rw [sortTo, List.getElem?_eq_getElem (show n < L.length by omega), List.take_succ_eq_append_getElem (by omega)]
    show x ∈ insE L[n] (sortTo L n) ↔ _
    rw [insE_mem, ih (by omega), List.mem_append, List.mem_singleton]
    exact Or.comm
theorem sortTo_lex (L : List EI) (hL : L.Pairwise fun a b => a.2 ≤ b.2) : ∀ n, n ≤ L.length → LexE (sortTo L n) := by
  intro n
  induction n with
  | zero => intro _; simp [sortTo, LexE]
  | succ n ih =>
    intro hn
    rw [sortTo, List.getElem?_eq_getElem (show n < L.length by omega)]
    refine insE_lex (ih (by omega)) fun x hx => ?_
    rw [sortTo_mem L x n (by omega)] at hx
    obtain ⟨i, hi, rfl⟩ := List.mem_iff_getElem.1 hx
    rw [List.getElem_take]
    rw [List.length_take] at hi
    exact List.pairwise_iff_getElem.1 hL i n (by omega) (by omega) (by omega)
theorem ptsTo_spec (key : ByteArray) (letter : UInt8) (each : Int) (B : List BK) : ∀ n, n ≤ B.length →
    (∀ x, x ∈ ptsTo key letter each B n ↔ ∃ i, ∃ (hi : i < B.length), i < n ∧ ∃ k, k < (each * B[i].2).toNat ∧ x = (hsh key letter [k] B[i].1, (i : Int))) ∧ (ptsTo key letter each B n).Pairwise fun a b => a.2 ≤ b.2 := by
  intro n
  induction n with
  | zero => intro _; exact ⟨fun x => ⟨fun h => by simp [ptsTo] at h, fun ⟨i, _, h, _⟩ => by omega⟩, by simp [ptsTo]⟩
  | succ n ih =>
    intro hn
    obtain ⟨h1, h2⟩ := ih (by omega)
    have hst : ptsTo key letter each B (n + 1) = ptsTo key letter each B n ++ ptsOf key letter each n B[n] := by
      rw [ptsTo, List.getElem?_eq_getElem (show n < B.length by omega)]
    have hof : ∀ x, x ∈ ptsOf key letter each n B[n] ↔ ∃ k, k < (each * B[n].2).toNat ∧ x = (hsh key letter [k] B[n].1, (n : Int)) := fun x => by
      rw [ptsOf, List.mem_map]
      exact ⟨fun ⟨k, hk, e⟩ => ⟨k, List.mem_range.1 hk, e.symm⟩, fun ⟨k, hk, e⟩ => ⟨k, List.mem_range.2 hk, e.symm⟩⟩
    rw [hst]
    refine ⟨fun x => ?_, List.pairwise_append.2 ⟨h2, ?_, ?_⟩⟩
    · rw [List.mem_append, h1, hof]
      constructor
      · rintro (⟨i, hi, hin, r⟩ | r)
        · exact ⟨i, hi, by omega, r⟩
        · exact ⟨n, by omega, by omega, r⟩
      · rintro ⟨i, hi, hin, r⟩
        by_cases hi2 : i = n
        · subst hi2; exact Or.inr r
        · exact Or.inl ⟨i, hi, by omega, r⟩
    · rw [ptsOf]
      refine List.pairwise_map.2 (List.pairwise_of_forall ?_)
      intro _ _
      exact Int.le_refl _
    · intro a ha b hb
      obtain ⟨i, _, hin, k, _, rfl⟩ := (h1 a).1 ha
      obtain ⟨k', _, rfl⟩ := (hof b).1 hb
      show (i : Int) ≤ (n : Int)
      omega
theorem pointsF_spec (key : ByteArray) (letter : UInt8) (each : Int) (B : List BK) :
    (∀ x, x ∈ pointsF key letter each B ↔ ∃ i, ∃ (hi : i < B.length), ∃ k, k < (each * B[i].2).toNat ∧ x = (hsh key letter [k] B[i].1, (i : Int))) ∧ LexE (pointsF key letter each B) := by
  obtain ⟨h1, h2⟩ := ptsTo_spec key letter each B B.length (Nat.le_refl _)
  refine ⟨fun x => ?_, sortTo_lex _ h2 _ (Nat.le_refl _)⟩
  rw [pointsF, sortTo_mem _ _ _ (Nat.le_refl _), List.take_length, h1]
  exact ⟨fun ⟨i, hi, _, r⟩ => ⟨i, hi, r⟩, fun ⟨i, hi, r⟩ => ⟨i, hi, hi, r⟩⟩
def dist (p h : Int) : Int := (p - h) % 18446744073709551616
theorem dist_up {p h : Int} (hp : 0 ≤ p ∧ p < 18446744073709551616) (hh : 0 ≤ h ∧ h < 18446744073709551616) (hle : h ≤ p) : dist p h = p - h := Int.emod_eq_of_lt (by omega) (by omega)
theorem dist_down {p h : Int} (hp : 0 ≤ p ∧ p < 18446744073709551616) (hh : 0 ≤ h ∧ h < 18446744073709551616) (hlt : p < h) : dist p h = p - h + 18446744073709551616 := by
  have : (p - h) % 18446744073709551616 = (p - h + 18446744073709551616) % 18446744073709551616 := by omega
  rw [dist, this]
  exact Int.emod_eq_of_lt (by omega) (by omega)
theorem nextF_min {E : List EI} {h : Int} (hE : LexE E) (hne : 0 < E.length) (hr : ∀ x ∈ E, 0 ≤ x.1 ∧ x.1 < 18446744073709551616) (hh : 0 ≤ h ∧ h < 18446744073709551616) :
    ∃ e ∈ E, E[nextF E h]? = some e ∧ ∀ x ∈ E, dist e.1 h < dist x.1 h ∨ (dist e.1 h = dist x.1 h ∧ e.2 ≤ x.2) := by
  by_cases hx : ∃ k, ∃ (hk : k < E.length), h ≤ E[k].1
  · -- the first
    have hfirst : ∃ k, ∃ (hk : k < E.length), h ≤ E[k].1 ∧ ∀ j (hj : j < E.length), j < k → ¬ h ≤ E[j].1 := by
      obtain ⟨k, hk, he⟩ := hx
      induction k using Nat.strongRecOn with
      | ind k ih =>
        by_cases hex : ∃ j, ∃ (hj : j < E.length), j < k ∧ h ≤ E[j].1
        · obtain ⟨j, hj, hjk, hej⟩ := hex
          exact ih j hjk hj hej
        · exact ⟨k, hk, he, fun j hj hjk hej => hex ⟨j, hj, hjk, hej⟩⟩
    obtain ⟨k, hk, he, hall⟩ := hfirst
    rw [nextF_hit hk he hall]
    refine ⟨E[k], List.getElem_mem hk, List.getElem?_eq_getElem hk, fun x hxm => ?_⟩
    obtain ⟨j, hj, rfl⟩ := List.mem_iff_getElem.1 hxm
    have hrk := hr _ (List.getElem_mem hk)
    have hrj := hr _ (List.getElem_mem hj)
    rw [dist_up hrk hh he]
    rcases Nat.lt_trichotomy j k with h1 | h1 | h1
    · have := hall j hj h1
      rw [dist_down hrj hh (by omega)]
      exact Or.inl (by omega)
    · subst h1
      rw [dist_up hrj hh he]
      exact Or.inr ⟨rfl, Int.le_refl _⟩
    · have := List.pairwise_iff_getElem.1 hE k j hk hj h1
      rw [dist_up hrj hh (by omega)]
      rcases this with h2 | ⟨h2, h3⟩
      · exact Or.inl (by omega)
      · exact Or.inr ⟨by omega, h3⟩
  · have hall : ∀ j (hj : j < E.length), ¬ h ≤ E[j].1 := fun j hj he => hx ⟨j, hj, he⟩
    rw [nextF_none hall]
    refine ⟨E[0], List.getElem_mem hne, List.getElem?_eq_getElem hne, fun x hxm => ?_⟩
    obtain ⟨j, hj, rfl⟩ := List.mem_iff_getElem.1 hxm
    have hrk := hr _ (List.getElem_mem hne)
    have hrj := hr _ (List.getElem_mem hj)
    have a1 := hall 0 hne
    have a2 := hall j hj
    rw [dist_down hrk hh (by omega), dist_down hrj hh (by omega)]
    by_cases hj0 : j = 0
    · subst hj0; exact Or.inr ⟨rfl, Int.le_refl _⟩
    · have := List.pairwise_iff_getElem.1 hE 0 j hne hj (by omega)
      rcases this with h2 | ⟨h2, h3⟩
      · exact Or.inl (by omega)
      · exact Or.inr ⟨by omega, h3⟩
theorem pts_min {key : ByteArray} {letter : UInt8} {each : Int} {B : List BK} (hB : Srt B) (hne : 0 < (pointsF key letter each B).length) (h : Int) (hh : 0 ≤ h ∧ h < 18446744073709551616) :
    ∃ p, ∃ (hp : p < B.length), ∃ k, k < (each * B[p].2).toNat ∧ (pointsF key letter each B)[nextF (pointsF key letter each B) h]? = some (hsh key letter [k] B[p].1, (p : Int)) ∧
      ∀ m l, Cop each B m l → dist (hsh key letter [k] B[p].1) h < dist (hsh key letter [l] m) h ∨ (dist (hsh key letter [k] B[p].1) h = dist (hsh key letter [l] m) h ∧ less m B[p].1 = false) := by
  obtain ⟨h1, h2⟩ := pointsF_spec key letter each B
  obtain ⟨e, he, hat, hmin⟩ := nextF_min h2 hne (fun x hx => by
    obtain ⟨i, hi, k, _, rfl⟩ := (h1 x).1 hx
    exact hsh_range _ _ _ _) hh
  obtain ⟨p, hp, k, hk, rfl⟩ := (h1 e).1 he
  refine ⟨p, hp, k, hk, hat, ?_⟩
  rintro m l ⟨b, hb, rfl, hl⟩
  obtain ⟨t, ht, rfl⟩ := List.mem_iff_getElem.1 hb
  rcases hmin _ ((h1 _).2 ⟨t, ht, l, hl, rfl⟩) with h3 | ⟨h3, h4⟩
  · exact Or.inl h3
  · simp only at h3 h4
    exact Or.inr ⟨h3, hB.le hp ht (by omega)⟩
theorem pts_ne {key : ByteArray} {letter : UInt8} {each : Int} {B : List BK} (he : 1 ≤ each) (hw : ∃ b ∈ B, 1 ≤ b.2) : 0 < (pointsF key letter each B).length := by
  obtain ⟨b, hb, hb1⟩ := hw
  obtain ⟨i, hi, rfl⟩ := List.mem_iff_getElem.1 hb
  refine List.length_pos_of_mem (((pointsF_spec key letter each B).1 (hsh key letter [0] B[i].1, (i : Int))).2 ⟨i, hi, 0, ?_, rfl⟩)
  have : 1 * 1 ≤ each * B[i].2 := Int.mul_le_mul he hb1 (by omega) (by omega)
  omega
def lookD (c : Cfg) (E : List EI) (k : ByteArray) (i : Nat) : Int := ((E.getD (nextF E (hsh c.key 112 [i] k)) (0, 0)).1 - hsh c.key 112 [i] k) % 18446744073709551616
theorem probeTo_spec (c : Cfg) (E : List EI) (k : ByteArray) : ∀ n, 0 < n → ∃ i, i < n ∧ probeTo c E k n = (nextF E (hsh c.key 112 [i] k), lookD c E k i) ∧ ∀ j, j < n → lookD c E k i < lookD c E k j ∨ (lookD c E k i = lookD c E k j ∧ i ≤ j) := by
  intro n
  induction n with
  | zero => intro h; omega
  | succ n ih =>
    intro _
    by_cases hn : n = 0
    · subst hn
      exact ⟨0, by omega, by rw [probeTo]; exact if_pos (Or.inl rfl), fun j hj => by have : j = 0 := by omega
                                                                                     subst this; exact Or.inr ⟨rfl, Nat.le_refl _⟩⟩
    · obtain ⟨i, hi, h1, h2⟩ := ih (by omega)
      have hst : probeTo c E k (n + 1) = if n = 0 ∨ lookD c E k n < (probeTo c E k n).2 then (nextF E (hsh c.key 112 [n] k), lookD c E k n) else probeTo c E k n := rfl
      rw [hst, h1]
      by_cases hlt : lookD c E k n < lookD c E k i
      · rw [if_pos (Or.inr hlt)]
        refine ⟨n, by omega, rfl, fun j hj => ?_⟩
        by_cases hjn : j = n
        · subst hjn; exact Or.inr ⟨rfl, Nat.le_refl _⟩
        · have := h2 j (by omega)
          exact Or.inl (by omega)
      · rw [if_neg (by rintro (h | h); exact hn h; exact hlt h)]
        refine ⟨i, by omega, rfl, fun j hj => ?_⟩
        by_cases hjn : j = n
        · subst hjn
          by_cases he : lookD c E k i = lookD c E k j
          · exact Or.inr ⟨he, by omega⟩
          · exact Or.inl (by omega)
        · exact h2 j (by omega)
/-- what a key looks at, and how far it is -/
def eachF (c : Cfg) : Int := if c.alg = 2 then c.points else 1
def limF (c : Cfg) : Nat := if c.alg = 4 then c.probes.toNat else 1
def CanF (c : Cfg) (B : List BK) (n : ByteArray) (i l : Nat) : Prop := i < limF c ∧ Cop (eachF c) B n l
def farF (c : Cfg) (k n : ByteArray) (i l : Nat) : Int :=
  if c.alg = 2 then dist (hsh c.key 114 [l] n) (hsh c.key 107 [] k)
  else if c.alg = 4 then dist (hsh c.key 109 [l] n) (hsh c.key 112 [i] k) * 8 + i
  else - hsh c.key 104 [(hsh c.key 107 [] k % c.slots).toNat, l] n
theorem rend_own {c : Cfg} {B : List BK} {k : ByteArray} {hk : Int} (hke : hsh c.key 107 [] k = hk) (ha : c.alg = 3) (hs : 1 ≤ c.slots) (hw : 1 ≤ wSum B) : (ownerF c B k).1 = nameF B (winnerF c.key B (hk % c.slots).toNat) := by
  have h1 := Int.emod_nonneg hk (show c.slots ≠ 0 by omega)
  have h2 := Int.emod_lt_of_pos hk (show 0 < c.slots by omega)
  have hmk : mkF c B = (List.range c.slots.toNat).map fun s => (0, winnerF c.key B s) := by
    unfold mkF; rw [if_neg (by omega), if_neg (by omega), if_neg (by omega), if_pos ha]
  have hlen : (mkF c B).length = c.slots.toNat := by rw [hmk, List.length_map, List.length_range]
  have hfi : findF c (mkF c B) k = (hk % c.slots).toNat := by
    unfold findF
    rw [hke, hlen, if_neg (by omega), if_neg (by omega), if_neg (by omega), Int.toNat_of_nonneg (by omega)]
  unfold ownerF
  rw [hfi, hmk, List.getElem?_map, List.getElem?_range (by omega), Option.map_some]
theorem rend_min {c : Cfg} {B : List BK} {k : ByteArray} (ha : c.alg = 3) (hs : 1 ≤ c.slots) (hB : Srt B) (hw : 1 ≤ wSum B) (hw0 : ∀ b ∈ B, 0 ≤ b.2) : IsMin (CanF c B) (farF c k) (ownerF c B k).1 := by
  obtain ⟨hk, hke⟩ : ∃ x, hsh c.key 107 [] k = x := ⟨_, rfl⟩
  rw [rend_own hke ha hs hw]
  have hea : eachF c = 1 := if_neg (by omega)
  have hli : limF c = 1 := if_neg (by omega)
  have hfar : ∀ n i l, farF c k n i l = - hsh c.key 104 [(hk % c.slots).toNat, l] n := fun n i l => by
    unfold farF; rw [if_neg (show ¬ c.alg = 2 by omega), if_neg (show ¬ c.alg = 4 by omega), hke]
  obtain ⟨i, q, ⟨h3, h4⟩, h5⟩ := winner_min (key := c.key) (s := (hk % c.slots).toNat) hB (wSum_pos hw hw0)
  refine ⟨i, q, ⟨by rw [hli, h3]; exact Nat.one_pos, by rw [hea]; exact h4⟩, ?_⟩
  rintro m j l ⟨hj, hm⟩
  rw [hea] at hm
  rw [hli] at hj
  rw [hfar, hfar]
  exact h5 m j l ⟨Nat.lt_one_iff.1 hj, hm⟩
theorem far_lt {a b x : Int} {i j : Nat} (hb : a < b ∨ (a = b ∧ i ≤ j)) (h3 : b < x ∨ b = x) (hij : i ≠ j) (hi : i < 8) : a * 8 + (i : Int) < x * 8 + (j : Int) := by omega
theorem far_same {a x : Int} {i : Nat} (h : a < x) : a * 8 + (i : Int) < x * 8 + (i : Int) := by omega
theorem own_min {c : Cfg} {B : List BK} {k : ByteArray} (ha : c.alg = 2 ∨ c.alg = 3 ∨ c.alg = 4) (hs : 1 ≤ c.slots) (hp : 1 ≤ c.points) (hq : 1 ≤ c.probes ∧ c.probes ≤ 5) (hB : Srt B) (hw : 1 ≤ wSum B) (hw0 : ∀ b ∈ B, 0 ≤ b.2) : IsMin (CanF c B) (farF c k) (ownerF c B k).1 := by
  have hwp := wSum_pos hw hw0
  rcases ha with ha | ha | ha
  · have hmk : mkF c B = pointsF c.key 114 c.points B := by
      unfold mkF; rw [if_neg (by omega), if_neg (by omega), if_pos ha]
    have hne := pts_ne (key := c.key) (letter := 114) hp hwp
    obtain ⟨p, hpl, q, hq, hat, hmin⟩ := pts_min (key := c.key) (letter := 114) hB hne (hsh c.key 107 [] k) (hsh_range _ _ _ _)
    have hfi : findF c (mkF c B) k = nextF (pointsF c.key 114 c.points B) (hsh c.key 107 [] k) := by
      unfold findF; rw [hmk, if_neg (by omega), if_neg (by omega), if_pos ha]
    have hown : (ownerF c B k).1 = B[p].1 := by
      unfold ownerF; rw [hfi, hmk, hat]; exact nameF_at hpl
    rw [hown]
    have hea : eachF c = c.points := if_pos ha
    refine ⟨0, q, ⟨by unfold limF; split <;> omega, B[p], List.getElem_mem hpl, rfl, by rw [hea]; exact hq⟩, ?_⟩
    rintro m j l ⟨_, hm⟩
    rw [hea] at hm
    unfold farF
    rw [if_pos ha, if_pos ha]
    exact hmin m l hm
  · exact rend_min ha hs hB hw hw0
  · have hea : eachF c = 1 := if_neg (by omega)
    have hli : limF c = c.probes.toNat := if_pos ha
    have hmk : mkF c B = pointsF c.key 109 1 B := by
      unfold mkF; rw [if_neg (by omega), if_neg (by omega), if_neg (by omega), if_neg (by omega), if_pos ha]
    have hne := pts_ne (key := c.key) (letter := 109) (each := 1) (Int.le_refl _) hwp
    have hfi : findF c (mkF c B) k = (probeTo c (mkF c B) k c.probes.toNat).1 := by
      unfold findF; rw [if_neg (by rw [hmk]; omega), if_pos ha]
    obtain ⟨i, hi, hpr, hbest⟩ := probeTo_spec c (mkF c B) k c.probes.toNat (by omega)
    rw [hpr] at hfi
    have hi8 : i < 8 := by omega
    have hil : i < limF c := by rw [hli]; exact hi
    have hnot2 : ¬ c.alg = 2 := by omega
    have hlook : ∀ j, ∃ p, ∃ (hp : p < B.length), ∃ q, q < (1 * B[p].2).toNat ∧ (mkF c B)[nextF (mkF c B) (hsh c.key 112 [j] k)]? = some (hsh c.key 109 [q] B[p].1, (p : Int)) ∧ lookD c (mkF c B) k j = dist (hsh c.key 109 [q] B[p].1) (hsh c.key 112 [j] k) ∧
        ∀ m l, Cop 1 B m l → dist (hsh c.key 109 [q] B[p].1) (hsh c.key 112 [j] k) < dist (hsh c.key 109 [l] m) (hsh c.key 112 [j] k) ∨ (dist (hsh c.key 109 [q] B[p].1) (hsh c.key 112 [j] k) = dist (hsh c.key 109 [l] m) (hsh c.key 112 [j] k) ∧ less m B[p].1 = false) := by
      intro j
      obtain ⟨p, hpl, q, hq, hat, hmin⟩ := pts_min (key := c.key) (letter := 109) hB hne (hsh c.key 112 [j] k) (hsh_range _ _ _ _)
      rw [← hmk] at hat
      refine ⟨p, hpl, q, hq, hat, ?_, hmin⟩
      unfold lookD
      rw [List.getD_eq_getElem?_getD, hat]
      rfl
    obtain ⟨p, hpl, q, hq, hat, hld, hmin⟩ := hlook i
    have hown : (ownerF c B k).1 = B[p].1 := by
      unfold ownerF; rw [hfi, hat]; exact nameF_at hpl
    rw [hown]
    refine ⟨i, q, ⟨hil, B[p], List.getElem_mem hpl, rfl, by rw [hea]; exact hq⟩, ?_⟩
    rintro m j l ⟨hj, hm⟩
    rw [hea] at hm
    rw [hli] at hj
    have hfar : ∀ n i l, farF c k n i l = dist (hsh c.key 109 [l] n) (hsh c.key 112 [i] k) * 8 + i := fun n i l => by
      unfold farF; rw [if_neg hnot2, if_pos ha]
    rw [hfar, hfar]
    obtain ⟨p', hp', q', hq', hat', hld', hmin'⟩ := hlook j
    have hb := hbest j hj
    have h3 := hmin' m l hm
    have h4 := hmin m l hm
    rw [hld, hld'] at hb
    by_cases hij : i = j
    · subst hij
      rcases h4 with h4 | ⟨h4, h5⟩
      · exact Or.inl (far_same h4)
      · exact Or.inr ⟨by rw [h4], h5⟩
    · exact Or.inl (far_lt hb (h3.imp (fun h => h) (fun h => h.1)) hij hi8)
theorem wSum_ge : ∀ {B : List BK} {b : BK}, b ∈ B → 1 ≤ b.2 → (∀ b ∈ B, 0 ≤ b.2) → 1 ≤ wSum B
  | [], b, h, _, _ => by cases h
  | x :: B, b, h, h1, hw => by
    have hx := hw x List.mem_cons_self
    have h0 : 0 ≤ wSum B := by
      have : ∀ B : List BK, (∀ b ∈ B, 0 ≤ b.2) → 0 ≤ wSum B := fun B => by
        induction B with
        | nil => intro _; simp [wSum]
        | cons y B ih =>
          intro h
          have h1 := ih (fun x hx => h x (List.mem_cons_of_mem _ hx))
          have h2 := h y List.mem_cons_self
          simp only [wSum, List.map_cons, List.sum_cons] at h1 ⊢
          omega
      exact this B (fun x hx => hw x (List.mem_cons_of_mem _ hx))
    have hs : wSum (x :: B) = x.2 + wSum B := by simp [wSum]
    rcases List.mem_cons.1 h with rfl | h
    · omega
    · have := wSum_ge h h1 (fun x hx => hw x (List.mem_cons_of_mem _ hx)); omega
theorem own_none {c : Cfg} {B : List BK} {k : ByteArray} (h : wSum B < 1) : (ownerF c B k).1 = ByteArray.empty := by
  unfold ownerF
  have : mkF c B = [] := by unfold mkF; rw [if_pos h]
  rw [this]; rfl
/-- who weighs more alone gets keys -/
theorem own_mono {c : Cfg} {B B' : List BK} {k id : ByteArray} (ha : c.alg = 2 ∨ c.alg = 3 ∨ c.alg = 4) (hs : 1 ≤ c.slots) (hp : 1 ≤ c.points) (hq : 1 ≤ c.probes ∧ c.probes ≤ 5) (hB : Srt B) (hB' : Srt B') (hw : ∀ b ∈ B, 0 ≤ b.2) (hw' : ∀ b ∈ B', 0 ≤ b.2)
    (h1 : ∀ b ∈ B, ∃ b' ∈ B', b'.1 = b.1 ∧ b.2 ≤ b'.2) (h2 : ∀ b' ∈ B', b'.1 ≠ id → b' ∈ B) : (ownerF c B k).1 = (ownerF c B' k).1 ∨ (ownerF c B' k).1 = id := by
  have he : 0 ≤ eachF c := by unfold eachF; split <;> omega
  by_cases hW' : wSum B' < 1
  · left
    have hW : wSum B < 1 := by
      rcases Int.lt_or_le (wSum B) 1 with h | h
      · exact h
      · obtain ⟨b, hb, hb1⟩ := wSum_pos h hw
        obtain ⟨b', hb', _, hle⟩ := h1 b hb
        have := wSum_ge hb' (by omega) hw'
        omega
    rw [own_none hW, own_none hW']
  · have hm' := own_min (k := k) ha hs hp hq hB' (by omega) hw'
    by_cases hid : (ownerF c B' k).1 = id
    · exact Or.inr hid
    left
    have hm : IsMin (CanF c B) (farF c k) (ownerF c B' k).1 := hm'.less (by
      rintro m j l ⟨hj, b, hb, rfl, hl⟩
      obtain ⟨b', hb', hn, hle⟩ := h1 b hb
      refine ⟨hj, b', hb', hn, ?_⟩
      have := Int.mul_le_mul_of_nonneg_left hle he
      omega) (by
      rintro j l ⟨hj, b', hb', hn, hl⟩
      exact ⟨hj, b', h2 b' hb' (by rw [hn]; exact hid), hn, hl⟩)
    have hW : 1 ≤ wSum B := by
      obtain ⟨i, l, ⟨_, b, hb, _, hl⟩, _⟩ := hm
      refine wSum_ge hb ?_ hw
      rcases Int.lt_or_le b.2 1 with h | h
      · have h0 : b.2 = 0 := by have := hw b hb; omega
        rw [h0, Int.mul_zero] at hl
        simp at hl
      · exact h
    exact (own_min ha hs hp hq hB hW hw).unique hm

end Go.Proofs.YtgfildmmcbjpnabGreat

namespace Go.Proofs.YtgfildmmcbjpnabGreat
open Go.RowKit

abbrev NI := Int × ByteArray
/-- a point among those with names -/
def insN (e : NI) : List NI → List NI
  | [] => [e]
  | x :: l => if e.1 < x.1 then e :: x :: l else x :: insN e l
theorem insE_map (f : EI → NI) (hf : ∀ e, (f e).1 = e.1) (e : EI) : ∀ L : List EI, (insE e L).map f = insN (f e) (L.map f)
  | [] => rfl
  | x :: l => by
    rw [insE, List.map_cons, insN, hf, hf]
    split
    · rfl
    · rw [List.map_cons, insE_map f hf e l]
theorem insN_at (e : NI) : ∀ (L : List NI) (k : Nat), k ≤ L.length → (∀ i (h : i < L.length), i < k → ¬ e.1 < L[i].1) → (∀ h : k < L.length, e.1 < L[k].1) → L.take k ++ e :: L.drop k = insN e L
  | [], k, hk, _, _ => by
    have : k = 0 := by simpa using hk
    subst this
    rfl
  | x :: l, 0, _, _, h2 => by
    have := h2 (by simp)
    simp only [List.getElem_cons_zero] at this
    simp [insN, this]
  | x :: l, k + 1, hk, h1, h2 => by
    have h0 := h1 0 (by simp) (by omega)
    simp only [List.getElem_cons_zero] at h0
    rw [insN, if_neg h0, List.take_succ_cons, List.drop_succ_cons, List.cons_append, insN_at e l k (by simpa using hk) (fun i h hi => by
      have := h1 (i + 1) (by simpa using h) (by omega)
      simpa using this) (fun h => by
      have := h2 (by simpa using h)
      simpa using this)]
theorem sortTo_succ {L : List EI} {n : Nat} {e : EI} (h : L[n]? = some e) : sortTo L (n + 1) = insE e (sortTo L n) := by
  rw [sortTo, h]
theorem ptsTo_succ {key : ByteArray} {letter : UInt8} {each : Int} {B : List BK} {i : Nat} (h : i < B.length) : ptsTo key letter each B (i + 1) = ptsTo key letter each B i ++ ptsOf key letter each i B[i] := by
  rw [ptsTo, List.getElem?_eq_getElem h]
theorem ptsTo_pre {key : ByteArray} {letter : UInt8} {each : Int} {B : List BK} (i n : Nat) (hin : i ≤ n) (hn : n ≤ B.length) : ∃ R, ptsTo key letter each B n = ptsTo key letter each B i ++ R := by
  induction n with
  | zero => exact ⟨[], by rw [show i = 0 by omega]; simp⟩
  | succ n ih =>
    by_cases h : i = n + 1
    · exact ⟨[], by rw [h]; simp⟩
    · obtain ⟨R, hR⟩ := ih (by omega) (by omega)
      exact ⟨R ++ ptsOf key letter each n B[n], by rw [ptsTo_succ (by omega), hR, List.append_assoc]⟩
theorem ptsTo_get {key : ByteArray} {letter : UInt8} {each : Int} {B : List BK} (i k : Nat) (hi : i < B.length) (hk : k < (each * B[i].2).toNat) : (ptsTo key letter each B B.length)[(ptsTo key letter each B i).length + k]? = some (hsh key letter [k] B[i].1, (i : Int)) := by
  obtain ⟨R, hR⟩ := ptsTo_pre (key := key) (letter := letter) (each := each) (B := B) (i + 1) B.length (by omega) (Nat.le_refl _)
  rw [hR, ptsTo_succ hi, List.append_assoc, List.getElem?_append_right (by omega), Nat.add_sub_cancel_left, List.getElem?_append_left (by simp [ptsOf, hk])]
  simp [ptsOf, hk]
theorem ptsTo_lenS {key : ByteArray} {letter : UInt8} {each : Int} {B : List BK} {i : Nat} (h : i < B.length) : (ptsTo key letter each B (i + 1)).length = (ptsTo key letter each B i).length + (each * B[i].2).toNat := by
  rw [ptsTo_succ h]
  simp [ptsOf]
/-- the first of the least -/
theorem least_unique {n : Nat} {d : Nat → Int} {i j : Nat} (hi : i < n) (hj : j < n) (h1 : ∀ k, k < n → d i ≤ d k) (h2 : ∀ k, k < i → d i < d k) (h3 : ∀ k, k < n → d j ≤ d k) (h4 : ∀ k, k < j → d j < d k) : i = j := by
  rcases Nat.lt_trichotomy i j with h | h | h
  · have := h4 i h
    have := h1 j hj
    omega
  · exact h
  · have := h2 j h
    have := h3 i hi
    omega
/-- the point behind, as the first of the nearest -/
theorem next_least {E : List EI} {h : Int} (hE : SrtE E) (hne : 0 < E.length) (hr : ∀ x ∈ E, 0 ≤ x.1 ∧ x.1 < 18446744073709551616) (hh : 0 ≤ h ∧ h < 18446744073709551616) :
    nextF E h < E.length ∧ (∀ k (hk : k < E.length), dist (E.getD (nextF E h) (0, 0)).1 h ≤ dist E[k].1 h) ∧ ∀ k (hk : k < E.length), k < nextF E h → dist (E.getD (nextF E h) (0, 0)).1 h < dist E[k].1 h := by
  have hget : ∀ k (hk : k < E.length), E.getD k (0, 0) = E[k] := fun k hk => by rw [List.getD_eq_getElem?_getD, List.getElem?_eq_getElem hk]; rfl
  by_cases hx : ∃ k, ∃ (hk : k < E.length), h ≤ E[k].1
  · have hfirst : ∃ k, ∃ (hk : k < E.length), h ≤ E[k].1 ∧ ∀ j (hj : j < E.length), j < k → ¬ h ≤ E[j].1 := by
      obtain ⟨k, hk, he⟩ := hx
      induction k using Nat.strongRecOn with
      | ind k ih =>
        by_cases hex : ∃ j, ∃ (hj : j < E.length), j < k ∧ h ≤ E[j].1
        · obtain ⟨j, hj, hjk, hej⟩ := hex
          exact ih j hjk hj hej
        · exact ⟨k, hk, he, fun j hj hjk hej => hex ⟨j, hj, hjk, hej⟩⟩
    obtain ⟨k, hk, he, hall⟩ := hfirst
    rw [nextF_hit hk he hall, hget k hk]
    have hrk := hr _ (List.getElem_mem hk)
    rw [dist_up hrk hh he]
    refine ⟨hk, fun j hj => ?_, fun j hj hjk => ?_⟩
    · have hrj := hr _ (List.getElem_mem hj)
      rcases Nat.lt_trichotomy j k with h1 | h1 | h1
      · have := hall j hj h1
        rw [dist_down hrj hh (by omega)]
        omega
      · subst h1
        rw [dist_up hrj hh he]
        omega
      · have := List.pairwise_iff_getElem.1 hE k j hk hj h1
        rw [dist_up hrj hh (by omega)]
        omega
    · have hrj := hr _ (List.getElem_mem hj)
      have := hall j hj hjk
      rw [dist_down hrj hh (by omega)]
      omega
  · have hall : ∀ j (hj : j < E.length), ¬ h ≤ E[j].1 := fun j hj he => hx ⟨j, hj, he⟩
    rw [nextF_none hall, hget 0 hne]
    have hrk := hr _ (List.getElem_mem hne)
    have a1 := hall 0 hne
    refine ⟨hne, fun j hj => ?_, fun j hj hjk => by omega⟩
    have hrj := hr _ (List.getElem_mem hj)
    have a2 := hall j hj
    rw [dist_down hrk hh (by omega), dist_down hrj hh (by omega)]
    by_cases hj0 : j = 0
    · subst hj0; omega
    · have := List.pairwise_iff_getElem.1 hE 0 j hne hj (by omega)
      omega

end Go.Proofs.YtgfildmmcbjpnabGreat

namespace Go.Proofs.YtgfildmmcbjpnabGreat
open Go.RowKit

set_option maxRecDepth 100000 in
set_option maxHeartbeats 800000 in
theorem names_any (l : List BK) (v : Value) (w : World) (hv : PoolAt w v l) (hok : PoolOK l) :
    Calls Tryz.prog 84 #[v] w (RStr w fun s => s.size ≤ 81) := by
  obtain ⟨h8, hall⟩ := hok
  rcases hv.form with ⟨rfl, rfl⟩ | ⟨g, cap, rfl, hcap, hg, hc⟩
  · go_enter Tryz.func84, Tryz.ntmps84
    go_wp2_with fail
    refine (ones_any _ _ _ (by decide) (by decide) (by decide) (by decide)).mono ?_
    rintro e w1 ⟨s, rfl, hb1, hs⟩
    go_wp2
    refine wp_loop_rounds 1 ?_
    rw [rounds_succ]
    go_wp2
    go_ret
    exact ⟨_, rfl, hb1, by have := hs; simp at this; omega⟩
  · go_enter Tryz.func84, Tryz.ntmps84
    go_wp2_with fail
    refine (ones_any _ _ _ (by omega) (by omega) (by decide) (by decide)).mono ?_
    rintro e w1 ⟨s, rfl, hb1, hs⟩
    have hs1 : s.size = 1 := by simpa using hs
    clear hs
    go_wp2
    go_loopw [3, 4] (fun t i wr => ∃ (x : ByteArray) (k : Nat), k ≤ l.length ∧ t = .string x ∧ i = .int .i64 k ∧ x.size ≤ 1 + 10 * k ∧ Bel w wr) (fun _ i _ => l.length - (intOf i).toNat)
    case atStart => exact ⟨s, 0, by omega, rfl, rfl, by omega, hb1⟩
    case round =>
      obtain ⟨x, k, hk, rfl, rfl, hx, hb⟩ := hrel
      by_cases hlt : k < l.length
      · obtain ⟨q1, q2⟩ := hc k hlt
        have q1' := hb.cell q1
        have q2' := hb.cell q2
        obtain ⟨a1, a2, a3, a4⟩ := hall _ (List.getElem_mem hlt)
        generalize l[k] = bk at *
        obtain ⟨id, wt⟩ := bk
        simp only at q1' q2' a1 a2 a3 a4
        go_wp2_with fail
        refine (ones_any _ _ _ (by omega) (by omega) (by decide) (by decide)).mono ?_
        rintro e w2 ⟨s2, rfl, hb2, hs2⟩
        have r1 := hb2.cell q1'
        have r2 := hb2.cell q2'
        have hs2' : s2.size = 1 := by simpa using hs2
        clear hs2
        go_wp2_with fail
        refine (ones_any _ _ _ (by omega) (by omega) (by decide) (by decide)).mono ?_
        rintro e w3 ⟨s3, rfl, hb3, hs3⟩
        have r3 := hb3.cell r1
        have hs3' : s3.size = 1 := by simpa using hs3
        clear hs3
        have hx2 : x.size ≤ 81 := by omega
        go_wp2
        go_roundw
        case rel => exact ⟨_, k + 1, by omega, rfl, by go_num, by simp; omega, by (repeat (first | exact Bel.refl _ | assumption | refine Bel.step_alloc ?_ _ | refine Bel.step_drew ?_ | refine Bel.step_drewN ?_ _ | refine Bel.step_set ?_ (by simp <;> omega) _ | refine Bel.trans ?_ (by assumption)))⟩
        case measure => simp [intOf]; omega
      · go_wp2
        go_ret
        exact ⟨_, rfl, hb, by omega⟩

end Go.Proofs.YtgfildmmcbjpnabGreat
