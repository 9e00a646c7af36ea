import Derived.Test.YtgfildmmcbjpnabGreatLBC
import Derived.Test.YtgfildmmcbjpnabGreatLBE
import Derived.Test.YtgfildmmcbjpnabGreatLBG
namespace Go.Proofs.YtgfildmmcbjpnabGreat
open Go.RowKit

theorem find_no {B : List BK} {S : ByteArray} {k : Nat} (hs : Srt B) (h : FindIs B S k false) : ¬ atName S B < B.length := by
  intro hlt
  have he := atName_is hlt
  obtain ⟨h1, h2, h3, h4⟩ := h
  have hne : ¬ ∃ h : k < B.length, B[k].1 = S := fun e => by cases h4.2 e
  rcases Nat.lt_trichotomy (atName S B) k with hk | hk | hk
  · have := h2 _ hlt hk
    rw [he, less_irrefl] at this
    cases this
  · subst hk
    exact hne ⟨hlt, he⟩
  · have hkl : k < B.length := by omega
    have h5 := h3 hkl
    have h6 := (List.pairwise_iff_getElem.1 hs) k (atName S B) hkl hlt hk
    rw [he] at h6
    rw [h6] at h5
    cases h5
theorem find_yes {B : List BK} {S : ByteArray} {k : Nat} (hs : Srt B) (h : FindIs B S k true) : atName S B = k ∧ k < B.length := by
  obtain ⟨h1, h2, h3, h4⟩ := h
  obtain ⟨hk, he⟩ := h4.1 rfl
  refine ⟨?_, hk⟩
  rw [← he]
  exact atName_at hs hk
theorem ins_at {m : BK} : ∀ {B : List BK} {k : Nat}, k ≤ B.length → (∀ j (h : j < B.length), j < k → less B[j].1 m.1 = true) → (∀ h : k < B.length, less m.1 B[k].1 = true) → ins m B = B.take k ++ [m] ++ B.drop k := by
  intro B
  induction B with
  | nil => intro k hk _ _; simp at hk; subst hk; rfl
  | cons b B ih =>
    intro k hk h1 h2
    cases k with
    | zero =>
      have := h2 (by simp)
      simp at this
      simp [ins, this]
    | succ k =>
      have hb := h1 0 (by simp) (by omega)
      simp at hb
      have hb2 := less_asymm hb
      have := ih (k := k) (by simpa using hk) (fun j hj hjk => by have := h1 (j + 1) (by simpa using hj) (by omega); simpa using this) (fun hk2 => by have := h2 (by simpa using hk2); simpa using this)
      simp only [ins, hb2, List.take_succ_cons, List.drop_succ_cons, List.cons_append]
      simpa using this
theorem find_ins {B : List BK} {S : ByteArray} {n : Int} {k : Nat} (h : FindIs B S k false) : ins (S, n) B = B.take k ++ [(S, n)] ++ B.drop k := by
  obtain ⟨h1, h2, h3, h4⟩ := h
  refine ins_at h1 h2 (fun hk => ?_)
  have h5 := h3 hk
  cases h6 : less S B[k].1
  · exact absurd (h4.2 ⟨hk, less_total h5 h6⟩) (by simp)
  · rfl
theorem chg_add {B : List BK} {S : ByteArray} {n : Int} {k : Nat} {there : Bool} (hB : Good B) (h : FindIs B S k there) : chg B 4 S n k there = (addB B S n, addE B S n) := by
  have h8 := hB.1.1
  unfold chg addB addE
  by_cases h1 : S.size = 0 ∨ 8 < S.size
  · have h1' : S.size < 1 ∨ 8 < S.size := by omega
    rw [if_pos ⟨rfl, h1⟩, if_pos h1']
    simp
  · have h1' : ¬ (S.size < 1 ∨ 8 < S.size) := by omega
    simp only [h1, h1', and_false, if_false]
    by_cases h2 : n < 0 ∨ 6 < n
    · simp [h2]
    · simp only [h2, and_false, if_false]
      cases there
      · have h3 := find_no hB.2 h
        simp only [h3, if_false]
        by_cases h4 : B.length = 8
        · have h4' : 8 ≤ B.length := by omega
          simp [h4]
        · have h4' : ¬ 8 ≤ B.length := by omega
          simp [h4, h4', find_ins h]
      · have h3 := find_yes hB.2 h
        have h3' : atName S B < B.length := by omega
        simp [h3']
theorem chg_rem {B : List BK} {S : ByteArray} {n : Int} {k : Nat} {there : Bool} (hB : Good B) (h : FindIs B S k there) : chg B 5 S n k there = (remB B S, remE B S) := by
  unfold chg remB remE
  cases there
  · have h3 := find_no hB.2 h
    simp [h3]
  · obtain ⟨h3, h4⟩ := find_yes hB.2 h
    have h3' : atName S B < B.length := by omega
    simp [h3, List.eraseIdx_eq_take_drop_succ]
    exact ⟨fun h5 => absurd h4 (by omega), h4⟩
theorem chg_set {B : List BK} {S : ByteArray} {n : Int} {k : Nat} {there : Bool} (hB : Good B) (h : FindIs B S k there) : chg B 6 S n k there = (setB B S n, setE B S n) := by
  unfold chg setB setE
  by_cases h2 : n < 0 ∨ 6 < n
  · simp [h2]
  · simp only [h2, and_false, if_false]
    cases there
    · have h3 := find_no hB.2 h
      simp [h3]
    · obtain ⟨h3, h4⟩ := find_yes hB.2 h
      have h3' : atName S B < B.length := by omega
      simp [h3, h4, List.set_eq_take_append_cons_drop]

end Go.Proofs.YtgfildmmcbjpnabGreat

namespace Go.Proofs.YtgfildmmcbjpnabGreat
open Go.RowKit

theorem RowAt.masks {M : List Nat} {w : World} {v : Value} {n : Nat} {xs : List Value} (h : RowAt w v n xs) (hM : ∀ g, v.ownBlock = some g → g ∉ M) : RowAt (mask M w) v n xs := by
  rcases h with h | ⟨g, cap, rfl, hn, hg, hc⟩
  · exact Or.inl h
  · exact Or.inr ⟨g, cap, rfl, hn, by rw [mask_size]; exact hg, fun j u hu => mask_cell.2 ⟨hc j u hu, hM g rfl⟩⟩
theorem RStateE.has {M : List Nat} {w w' : World} {c : Cfg} {gen : Int} {vB : Value} {B : List BK} {e : Ending} (h : RStateE w c gen vB B e w') (hg0 : gen ≠ 0) (hM : ∀ k ∈ M, k < w.heap.size) (hv : ∀ g, vB.ownBlock = some g → g ∉ M) :
    ∃ q, e = .returned (.pointer (some ⟨q, 0, none⟩)) ∧ Bel w w' ∧ w.heap.size ≤ q ∧ HasE (mask M w') (.pointer (some ⟨q, 0, none⟩)) c B gen := by
  obtain ⟨q, vE, E, rfl, hb, hq, ⟨⟨h0, h1, h2, h3, h4, h5⟩, h6, h7, h8, h9, h10⟩, hE, hok, hW, hTQ⟩ := h
  have hqM : q ∉ M := fun e => by have := hM q e; omega
  exact ⟨q, rfl, hb, hq, Or.inr ⟨q, E, rfl, ⟨vB, vE, ⟨mask_cell.2 ⟨h0, hqM⟩, mask_cell.2 ⟨h1, hqM⟩, mask_cell.2 ⟨h2, hqM⟩, mask_cell.2 ⟨h3, hqM⟩, mask_cell.2 ⟨h4, hqM⟩, mask_cell.2 ⟨h5, hqM⟩⟩, mask_cell.2 ⟨h6, hqM⟩, mask_cell.2 ⟨h7, hqM⟩, mask_cell.2 ⟨h8, hqM⟩, RowAt.masks h9 hv, RowAt.masks h10 (fun g hg e => by have := hM g e; have := hE g hg; omega)⟩, hok, hW, hTQ, hg0⟩⟩
/-- a change of a service on both sides -/
def RDelta (base : Nat) (M : List Nat) (y : PrG) (w : World) (e : Ending) (w' : World) : Prop := e = .returned (.bool true) ∧ ∃ y' : PrG, But [y.a, y.q] w w' ∧ y'.At base M w' ∧ y'.a = y.a ∧ y'.q = y.q ∧ y'.vp = y.vp ∧ y'.ps = y.ps ∧ y'.g ≤ y.g + 1
/-- what a change finds -/
def DPre (base : Nat) (M : List Nat) (y : PrG) (w : World) : Prop := y.At base M w ∧ (∀ k ∈ M, k < w.heap.size) ∧ (∀ j ∈ y.blocks, j ∈ M) ∧ y.blocks.Nodup ∧ y.g ≤ 69999
theorem DPre.ne {base : Nat} {M : List Nat} {y : PrG} {w : World} (h : DPre base M y w) : y.a ≠ y.q ∧ (∀ j ∈ y.vp.ownBlock.toList, j ∉ [y.a, y.q]) ∧ ∀ z ∈ y.ps, ∀ j ∈ z.blocks, j ∉ [y.a, y.q] := by
  have hn := h.2.2.2.1
  unfold PrG.blocks at hn
  rw [List.nodup_cons, List.nodup_cons] at hn
  obtain ⟨h1, h2, h3⟩ := hn
  simp only [List.mem_cons, List.mem_append, not_or] at h1 h2
  refine ⟨h1.1, fun j hj e => ?_, fun z hz j hj e => ?_⟩
  · simp only [List.mem_cons, List.not_mem_nil, or_false] at e
    rcases e with rfl | rfl
    · exact h1.2.1 hj
    · exact h2.1 hj
  · simp only [List.mem_cons, List.not_mem_nil, or_false] at e
    rcases e with rfl | rfl
    · exact h1.2.2 (List.mem_flatMap.2 ⟨z, hz, hj⟩)
    · exact h2.2 (List.mem_flatMap.2 ⟨z, hz, hj⟩)
theorem DPre.delta {base : Nat} {M : List Nat} {y : PrG} {w w' : World} (h : DPre base M y w) (hb : But [y.a, y.q] w w') (y' : PrG) (ha : y'.a = y.a) (hq : y'.q = y.q) (hc : y'.c = y.c) (hvp : y'.vp = y.vp) (hps : y'.ps = y.ps) (hL : LAt y.a y'.cells w') (hS : SvcAt M y.q y.c y'.B y'.g w') (hP : PoolAt (mask M w') y'.vb y'.B) (hG : Good y'.B)
    (hg : 0 ≤ y'.g ∧ y'.g ≤ 70000 ∧ (y'.g = 0 → y'.B = [])) (hH : HasE (mask M w') y'.vs y.c y'.B y'.g) : y'.At base M w' := by
  obtain ⟨n1, n2, n3⟩ := h.ne
  have hM2 : ∀ j ∈ [y.a, y.q], j ∈ M ∨ w.heap.size ≤ j := fun j hj => Or.inl (h.2.2.1 j (by
    simp only [List.mem_cons, List.not_mem_nil, or_false] at hj
    rcases hj with rfl | rfl <;> simp [PrG.blocks]))
  obtain ⟨⟨h1, h2, h3, h4, h5, h6, h7, h8, h9, h10⟩, -⟩ := h
  unfold PrG.At
  rw [ha, hq, hc, hvp, hps]
  refine ⟨hL, hS, hP, hG, h5, hg, hH, lown_but h8 hb (fun g hg => n2 g (by simp [hg])), h9, fun z hz => (h10 z hz).but hb hM2 (n3 z hz)⟩

theorem RowAt.but {N : List Nat} {w w' : World} {v : Value} {n : Nat} {xs : List Value} (h : RowAt w v n xs) (b : But N w w') (hd : ∀ g, v.ownBlock = some g → g ∉ N) : RowAt w' v n xs := by
  rcases h with h | ⟨g, cap, rfl, hn, hg, hc⟩
  · exact Or.inl h
  · exact Or.inr ⟨g, cap, rfl, hn, Nat.lt_of_lt_of_le hg b.size, fun j u hu => b.cell (hc j u hu) (hd g rfl)⟩
theorem DPre.mem {base : Nat} {M : List Nat} {y : PrG} {w : World} (h : DPre base M y w) : y.a ∈ M ∧ y.q ∈ M ∧ y.a < w.heap.size ∧ y.q < w.heap.size :=
  ⟨h.2.2.1 _ (by simp [PrG.blocks]), h.2.2.1 _ (by simp [PrG.blocks]), h.2.1 _ (h.2.2.1 _ (by simp [PrG.blocks])), h.2.1 _ (h.2.2.1 _ (by simp [PrG.blocks]))⟩
/-- nothing was changed -/
theorem DPre.same {base : Nat} {M : List Nat} {y : PrG} {w w1 w2 : World} (h : DPre base M y w) (b1 : But [y.q] w w1) (hS1 : SvcAt M y.q y.c y.B y.g w1) (b2 : Bel w1 w2) : RDelta base M y w (.returned (.bool true)) w2 := by
  obtain ⟨m1, m2, m3, m4⟩ := h.mem
  have n1 := h.ne.1
  have b12 : But [y.q] w w2 := b1.step b2
  have hqM : ∀ k ∈ [y.q], k ∈ M ∨ w.heap.size ≤ k := fun k hk => Or.inl (by rw [List.mem_singleton.1 hk]; exact m2)
  have hbw : But [y.a, y.q] w w2 := b12.mono (fun k hk => Or.inl (by rw [List.mem_singleton.1 hk]; simp))
  refine ⟨rfl, y, hbw, h.delta hbw y rfl rfl rfl rfl rfl (h.1.1.but b12 (by simpa using n1)) (hS1.later b2) (h.1.2.2.1.later (b12.mono hqM)) h.1.2.2.2.1 h.1.2.2.2.2.2.1 (h.1.2.2.2.2.2.2.1.masks b12 hqM), rfl, rfl, rfl, rfl, by omega⟩
/-- a generation more -/
theorem DPre.done {base : Nat} {M : List Nat} {y : PrG} {w w1 w2 w3 : World} {B' : List BK} {v : Value} {n : Nat} (h : DPre base M y w) (b1 : But [y.q] w w1) (hS1 : SvcAt M y.q y.c B' (y.g + 1) w1) (b2 : Bel w1 w2) (hP2 : PoolAt w2 v B') (hv : ∀ g, v.ownBlock = some g → w.heap.size ≤ g) (hG : Good B')
    (b3 : Bel (w2.setCell ⟨y.a, 7, none⟩ v) w3) (hH : HasE (mask M w3) (.pointer (some ⟨n, 0, none⟩)) y.c B' (y.g + 1)) : RDelta base M y w (.returned (.bool true)) (w3.setCell ⟨y.a, 8, none⟩ (.pointer (some ⟨n, 0, none⟩))) := by
  obtain ⟨m1, m2, m3, m4⟩ := h.mem
  have n1 := h.ne.1
  have hlim := h.2.2.2.2
  have hg0 := h.1.2.2.2.2.2.1.1
  have b12 : But [y.q] w w2 := b1.step b2
  have haM : ∀ {wx : World}, ∀ k ∈ [y.a], k ∈ M ∨ wx.heap.size ≤ k := fun k hk => Or.inl (by rw [List.mem_singleton.1 hk]; exact m1)
  have c1 : But [y.a] w2 (w2.setCell ⟨y.a, 7, none⟩ v) := (But.refl _ _).set (by simp) _
  have c2 : But [y.a] w2 w3 := c1.step b3
  have c3 : But [y.a] w3 (w3.setCell ⟨y.a, 8, none⟩ (.pointer (some ⟨n, 0, none⟩))) := (But.refl _ _).set (by simp) _
  have c4 := c2.trans c3
  have hbw : But [y.a, y.q] w (w3.setCell ⟨y.a, 8, none⟩ (.pointer (some ⟨n, 0, none⟩))) := (b12.mono (fun k hk => Or.inl (by rw [List.mem_singleton.1 hk]; simp))).trans (c4.mono (fun k hk => Or.inl (by rw [List.mem_singleton.1 hk]; simp)))
  have hvM : ∀ g, v.ownBlock = some g → g ∉ M := fun g hg e => by have := h.2.1 g e; have := hv g hg; omega
  have hva : ∀ g, v.ownBlock = some g → g ∉ [y.a] := fun g hg e => by have := hv g hg; rw [List.mem_singleton.1 e] at this; omega
  have hL1 : LAt y.a y.cells w2 := h.1.1.but b12 (by simpa using n1)
  have hL2 := ((hL1.set 7 v).later b3).set 8 (.pointer (some ⟨n, 0, none⟩))
  refine ⟨rfl, { y with B := B', g := y.g + 1, vb := v, vs := .pointer (some ⟨n, 0, none⟩) }, hbw, h.delta hbw _ rfl rfl rfl rfl rfl hL2 ((hS1.later b2).but c4 (by simpa using fun e => n1 e.symm) haM) (RowAt.masks (RowAt.but hP2 c4 hva) hvM) hG ⟨?_, ?_, ?_⟩ (hH.masks c3 haM), rfl, rfl, rfl, rfl, ?_⟩
  · show 0 ≤ y.g + 1; omega
  · show y.g + 1 ≤ 70000; omega
  · show y.g + 1 = 0 → _; intro e; omega
  · show y.g + 1 ≤ y.g + 1; omega

end Go.Proofs.YtgfildmmcbjpnabGreat

namespace Go.Proofs.YtgfildmmcbjpnabGreat
open Go.RowKit

theorem PrG.count (y : PrG) (j : Nat) : y.blocks.count j = [y.a].count j + [y.q].count j + y.vp.ownBlock.toList.count j + (y.ps.flatMap PlG.blocks).count j := by
  have : y.blocks = [y.a] ++ ([y.q] ++ (y.vp.ownBlock.toList ++ y.ps.flatMap PlG.blocks)) := rfl
  rw [this]
  simp only [List.count_append]
  omega
theorem one_count (a : Nat) : 1 ≤ [a].count a := lcount_mem.1 (by simp)
/-- a service of the law's has changed, or its dataplanes -/
def RPr (base : Nat) (M : List Nat) (y : PrG) (w w' : World) : Prop := ∃ (y' : PrG) (N : List Nat), But N w w' ∧ (∀ j ∈ N, j ∈ y.blocks) ∧ y'.a = y.a ∧ y'.blocks.Nodup ∧ (∀ j ∈ y'.blocks, (j ∈ y.blocks ∨ w.heap.size ≤ j) ∧ j < w'.heap.size) ∧ y'.At base (y'.blocks ++ M) w' ∧ y'.g ≤ y.g + 1
theorem WInv.dpre {W0 : Base} {s : Nat} {x : WG} {w : World} (h : WInv W0 s x w) (k : Nat) (hk : k < x.prs.length) (hs : s ≤ 69999) : DPre W0.heap.size x.M x.prs[k] w := by
  have hy := h.2.2.2.2.2.2.2.2.2.2.2.2.2 _ (List.getElem_mem hk)
  have h1k : ∀ j, (x.prs[k]).blocks.count j ≤ (x.prs.flatMap PrG.blocks).count j := fun j => lcount_one _ j _ _ (List.getElem_mem _)
  have he := WG.count x
  have hc := lnodup_le h.2.2.1
  refine ⟨hy.1, fun j hj => (h.2.2.2.2.1 j hj).2, fun j hj => h.2.2.2.1 j (lcount_mem.2 ?_), List.nodup_iff_count.2 fun a => ?_, by have := hy.2; omega⟩
  · have a1 := lcount_mem.1 hj
    have a2 := h1k j
    have a3 := he j
    omega
  · have a2 := h1k a
    have a3 := he a
    have a4 := hc a
    omega
/-- the law's world goes on, with a service changed -/
theorem WInv.rpr {W0 : Base} {s : Nat} {x : WG} {w w' : World} (h : WInv W0 s x w) (k : Nat) (hk : k < x.prs.length) (hr : RPr W0.heap.size x.M x.prs[k] w w') : ∃ x', WInv W0 (s + 1) x' w' ∧ x'.p = x.p := by
  obtain ⟨y', N, hb, hN, ha, hnd, hnew, hat, hg⟩ := hr
  have hy := (h.2.2.2.2.2.2.2.2.2.2.2.2.2 _ (List.getElem_mem hk)).2
  exact ⟨_, h.pr k hk N hb hN y' ha hnd hnew hat (by push_cast; omega) (by omega), rfl⟩
theorem DPre.le {base : Nat} {M : List Nat} {y : PrG} {w : World} (h : DPre base M y w) (j : Nat) : [y.a].count j + [y.q].count j + y.vp.ownBlock.toList.count j + (y.ps.flatMap PlG.blocks).count j ≤ 1 := by
  have := lnodup_le h.2.2.2.1 j
  rw [PrG.count] at this
  exact this
/-- what a change of a service's pool comes to -/
theorem RDelta.rpr {base : Nat} {M : List Nat} {y : PrG} {w w' : World} {e : Ending} (h : DPre base M y w) (hr : RDelta base M y w e w') : RPr base M y w w' := by
  obtain ⟨-, y', hb, hat, ha, hq, hvp, hps, hg⟩ := hr
  have hbl : y'.blocks = y.blocks := by unfold PrG.blocks; rw [ha, hq, hvp, hps]
  have hsz := hb.size
  refine ⟨y', [y.a, y.q], hb, fun j hj => ?_, ha, hbl ▸ h.2.2.2.1, fun j hj => ?_, hat.app (fun j hj => Or.inl (h.2.2.1 j (hbl ▸ hj))), hg⟩
  · simp only [List.mem_cons, List.not_mem_nil, or_false] at hj
    rcases hj with rfl | rfl <;> simp [PrG.blocks]
  · rw [hbl] at hj
    exact ⟨Or.inl hj, Nat.lt_of_lt_of_le (h.2.1 j (h.2.2.1 j hj)) hsz⟩
/-- the dataplanes of a service are others now -/
theorem DPre.pl {base : Nat} {M : List Nat} {y : PrG} {w w' : World} (h : DPre base M y w) (N : List Nat) (hb : But N w w') (hN : ∀ j ∈ N, 1 ≤ [y.a].count j + y.vp.ownBlock.toList.count j + (y.ps.flatMap PlG.blocks).count j) (vp' : Value) (ps' : List PlG) (hL : LAt y.a (PrG.cells { y with vp := vp', ps := ps' }) w')
    (hrow : w'.ownsRow base 100 1 vp' ps'.length (ps'.map fun z => Value.pointer (some ⟨z.p, 0, none⟩))) (hlen : ps'.length ≤ 4) (hnd : ∀ j, vp'.ownBlock.toList.count j + (ps'.flatMap PlG.blocks).count j ≤ 1)
    (hnew : ∀ j, 1 ≤ vp'.ownBlock.toList.count j + (ps'.flatMap PlG.blocks).count j → (1 ≤ y.vp.ownBlock.toList.count j + (y.ps.flatMap PlG.blocks).count j ∨ w.heap.size ≤ j) ∧ j < w'.heap.size)
    (hps : ∀ z ∈ ps', z.At ((PrG.blocks { y with vp := vp', ps := ps' }) ++ M) w') : RPr base M y w w' := by
  have hle := h.le
  obtain ⟨m1, m2, m3, m4⟩ := h.mem
  have hsz := hb.size
  have hcnt := PrG.count { y with vp := vp', ps := ps' }
  simp only at hcnt
  have hNb : ∀ j ∈ N, j ∈ y.blocks := fun j hj => lcount_mem.2 (by rw [PrG.count]; have := hN j hj; omega)
  have hnew2 : ∀ j ∈ PrG.blocks { y with vp := vp', ps := ps' }, (j ∈ y.blocks ∨ w.heap.size ≤ j) ∧ j < w'.heap.size := fun j hj => by
    have a0 := lcount_mem.1 hj
    rw [hcnt] at a0
    by_cases hv : 1 ≤ vp'.ownBlock.toList.count j + (ps'.flatMap PlG.blocks).count j
    · refine ⟨(hnew j hv).1.imp (fun e => lcount_mem.2 (by rw [PrG.count]; omega)) id, (hnew j hv).2⟩
    · have : j ∈ y.blocks := lcount_mem.2 (by rw [PrG.count]; omega)
      exact ⟨Or.inl this, Nat.lt_of_lt_of_le (h.2.1 j (h.2.2.1 j this)) hsz⟩
  have hA : ∀ j ∈ PrG.blocks { y with vp := vp', ps := ps' }, j ∈ M ∨ w.heap.size ≤ j := fun j hj => (hnew2 j hj).1.imp (fun e => h.2.2.1 j e) id
  have hNN : ∀ j ∈ N, j ∈ (PrG.blocks { y with vp := vp', ps := ps' }) ++ M ∨ w.heap.size ≤ j := fun j hj => Or.inl (List.mem_append_right _ (h.2.2.1 j (hNb j hj)))
  have hqN : y.q ∉ N := fun e => by
    have a1 := hN _ e
    have a2 := hle y.q
    have a3 := one_count y.q
    omega
  obtain ⟨h1, h2, h3, h4, h5, h6, h7, h8, h9, h10⟩ := h.1.app hA
  have hm : Bel (mask ((PrG.blocks { y with vp := vp', ps := ps' }) ++ M) w) (mask ((PrG.blocks { y with vp := vp', ps := ps' }) ++ M) w') := hb.mono hNN
  refine ⟨{ y with vp := vp', ps := ps' }, N, hb, hNb, rfl, List.nodup_iff_count.2 fun a => ?_, hnew2, ⟨hL, h2.but hb hqN hNN, h3.later hm, h4, h5, h6, h7.later hm, hrow, hlen, hps⟩, by show y.g ≤ y.g + 1; omega⟩
  rw [hcnt]
  have a1 := hle a
  have a2 := hnd a
  by_cases hv : 1 ≤ vp'.ownBlock.toList.count a + (ps'.flatMap PlG.blocks).count a
  · rcases (hnew a hv).1 with e | e
    · omega
    · have b1 : [y.a].count a = 0 := Nat.eq_zero_of_not_pos fun e2 => by
        have := List.mem_singleton.1 (List.count_pos_iff.1 e2)
        omega
      have b2 : [y.q].count a = 0 := Nat.eq_zero_of_not_pos fun e2 => by
        have := List.mem_singleton.1 (List.count_pos_iff.1 e2)
        omega
      omega
  · omega
/-- the other dataplanes are what they were -/
theorem DPre.others {base : Nat} {M : List Nat} {y : PrG} {w w' : World} (h : DPre base M y w) (N : List Nat) (hb : But N w w') (hN : ∀ j ∈ N, j ∈ y.blocks) (L : List Nat) (hL : ∀ j ∈ L, j ∈ y.blocks ∨ w.heap.size ≤ j) (z : PlG) (hz : z ∈ y.ps) (hd : ∀ j ∈ z.blocks, j ∉ N) : z.At (L ++ M) w' := by
  have hA : ∀ j ∈ L, j ∈ M ∨ w.heap.size ≤ j := fun j hj => (hL j hj).imp (fun e => h.2.2.1 j e) id
  have := (h.1.app hA).2.2.2.2.2.2.2.2.2 z hz
  exact this.but hb (fun j hj => Or.inl (List.mem_append_right _ (h.2.2.1 j (hN j hj)))) hd

end Go.Proofs.YtgfildmmcbjpnabGreat

namespace Go.Proofs.YtgfildmmcbjpnabGreat
open Go.RowKit

theorem new_count {L : List Nat} {j n : Nat} (h : ∀ k ∈ L, k < n) (hj : n ≤ j) : L.count j = 0 := Nat.eq_zero_of_not_pos fun e => by
  have := h j (List.count_pos_iff.1 e)
  omega
theorem one_count_ne {a j : Nat} (h : a ≠ j) : [a].count j = 0 := Nat.eq_zero_of_not_pos fun e => h (List.mem_singleton.1 (List.count_pos_iff.1 e)).symm
theorem one_count_le (a j : Nat) : [a].count j ≤ 1 := lnodup_le (by simp) j
theorem DPre.lt {base : Nat} {M : List Nat} {y : PrG} {w : World} (h : DPre base M y w) : (∀ k ∈ y.vp.ownBlock.toList, k < w.heap.size) ∧ ∀ k ∈ y.ps.flatMap PlG.blocks, k < w.heap.size :=
  ⟨fun k hk => h.2.1 k (h.2.2.1 k (lcount_mem.2 (by rw [PrG.count]; have := lcount_mem.1 hk; omega))), fun k hk => h.2.1 k (h.2.2.1 k (lcount_mem.2 (by rw [PrG.count]; have := lcount_mem.1 hk; omega)))⟩
/-- a dataplane that holds nothing -/
def PlG.fresh (p : Nat) (f : Int) : PlG := ⟨p, f, .pointer none, 0, 0, .slice none 0 0, 0, false⟩
theorem PlG.fresh_at {M : List Nat} {w : World} {p : Nat} {f : Int} (h : PlaneAt w p f (.pointer none) 0 0 (.slice none 0 0) false) (hf : 0 ≤ f ∧ f ≤ 3) : (PlG.fresh p f).At M w :=
  ⟨h, hf, (show I64 0 from ⟨by decide, by decide⟩), (show I64 0 from ⟨by decide, by decide⟩), Or.inl ⟨rfl, rfl⟩, (show 0 ≤ 65535 by decide), ⟨0, Or.inl ⟨rfl, rfl⟩⟩, fun g hg => by cases hg⟩
theorem PlaneAt.but {N : List Nat} {w w' : World} {p : Nat} {speaks : Int} {has : Value} {gen format : Int} {got : Value} {no : Bool} (h : PlaneAt w p speaks has gen format got no) (k : But N w w') (hp : p ∉ N) : PlaneAt w' p speaks has gen format got no := by
  obtain ⟨⟨h0, h1, h2, h3, h4, h5⟩, hf⟩ := h
  refine ⟨⟨k.cell h0 hp, k.cell h1 hp, k.cell h2 hp, k.cell h3 hp, k.cell h4 hp, k.cell h5 hp⟩, fun j => ?_⟩
  rw [World.frozen?_of_block (w := w) (k.block p (World.block_lt_of_cell? w _ h0) hp)]
  exact hf j
theorem PrG.cells9 (y : PrG) (v : Value) (ps' : List PlG) : y.cells.set 9 v = PrG.cells { y with vp := v, ps := ps' } := rfl
/-- a dataplane more -/
theorem DPre.join {base : Nat} {M : List Nat} {y : PrG} {w w1 w2 : World} {pz g cap : Nat} {f : Int} (h : DPre base M y w) (b1 : Bel w w1) (hp1 : w.heap.size ≤ pz) (hp2 : pz < w1.heap.size) (hpl : PlaneAt w1 pz f (.pointer none) 0 0 (.slice none 0 0) false) (hf : 0 ≤ f ∧ f ≤ 3) (hb : But y.vp.ownBlock.toList w1 w2)
    (hrow : w2.ownsRow base 100 1 (sl g (y.ps.length + 1) cap) (y.ps.length + 1) ((y.ps.map fun z => Value.pointer (some ⟨z.p, 0, none⟩)) ++ [.pointer (some ⟨pz, 0, none⟩)])) (hg : y.vp.ownBlock = some g ∨ w1.heap.size ≤ g) (hlen : y.ps.length < 4) :
    RPr base M y w (w2.setCell ⟨y.a, 9, none⟩ (sl g (y.ps.length + 1) cap)) := by
  have hle := h.le
  obtain ⟨m1, m2, m3, m4⟩ := h.mem
  obtain ⟨lt1, lt2⟩ := h.lt
  have hs1 := b1.size
  have hs2 := hb.size
  have hva : ∀ k ∈ y.vp.ownBlock.toList, k ≠ y.a := fun k hk e => by
    subst e
    have a1 := lcount_mem.1 hk
    have a2 := hle y.a
    have a3 := one_count y.a
    omega
  have hga : g ≠ y.a := by
    rcases hg with e | e
    · exact hva g (by simp [e])
    · omega
  have hgl : g < w2.heap.size := (World.ownsRow.lt hrow g rfl).2
  have hset : (w2.setCell ⟨y.a, 9, none⟩ (sl g (y.ps.length + 1) cap)).heap.size = w2.heap.size := by simp [World.setCell]
  have bw : But (y.a :: y.vp.ownBlock.toList) w (w2.setCell ⟨y.a, 9, none⟩ (sl g (y.ps.length + 1) cap)) := (((But.of_bel b1).trans hb).mono (fun k hk => Or.inl (List.mem_cons_of_mem _ hk))).put (Or.inl (by simp)) _
  have bw1 : But (y.a :: y.vp.ownBlock.toList) w1 (w2.setCell ⟨y.a, 9, none⟩ (sl g (y.ps.length + 1) cap)) := (hb.mono (fun k hk => Or.inl (List.mem_cons_of_mem _ hk))).put (Or.inl (by simp)) _
  have hpN : pz ∉ y.a :: y.vp.ownBlock.toList := fun e => by
    rcases List.mem_cons.1 e with e | e
    · omega
    · have := lt1 pz e; omega
  have hgp : g ≠ pz := by
    rcases hg with e | e
    · have := lt1 g (by simp [e]); omega
    · omega
  have hN : ∀ j ∈ y.a :: y.vp.ownBlock.toList, 1 ≤ [y.a].count j + y.vp.ownBlock.toList.count j := fun j hj => by
    rcases List.mem_cons.1 hj with rfl | hj
    · have := one_count y.a; omega
    · have := lcount_mem.1 hj; omega
  have hfl : ∀ j, ((y.ps ++ [PlG.fresh pz f]).flatMap PlG.blocks).count j = (y.ps.flatMap PlG.blocks).count j + [pz].count j := fun j => by
    simp [List.count_append, PlG.blocks, PlG.fresh, Value.ownBlock]
  have hv : (sl g (y.ps.length + 1) cap).ownBlock.toList = [g] := rfl
  have hcase : ∀ j, [g].count j + ((y.ps.flatMap PlG.blocks).count j + [pz].count j) ≤ 1 ∧ (1 ≤ [g].count j + ((y.ps.flatMap PlG.blocks).count j + [pz].count j) → (1 ≤ y.vp.ownBlock.toList.count j + (y.ps.flatMap PlG.blocks).count j ∨ w.heap.size ≤ j) ∧ j < w2.heap.size) := fun j => by
    have a1 := hle j
    by_cases e1 : pz = j
    · subst e1
      have b1 := new_count lt2 hp1
      have b2 := one_count_ne hgp
      have b3 := one_count_le pz pz
      exact ⟨by omega, fun _ => ⟨Or.inr hp1, by omega⟩⟩
    · have b1 := one_count_ne e1
      by_cases e2 : g = j
      · subst e2
        have b3 := one_count_le g g
        rcases hg with e | e
        · have b4 : 1 ≤ y.vp.ownBlock.toList.count g := lcount_mem.1 (by simp [e])
          exact ⟨by omega, fun _ => ⟨Or.inl (by omega), hgl⟩⟩
        · have b4 := new_count lt2 (show w.heap.size ≤ g by omega)
          exact ⟨by omega, fun _ => ⟨Or.inr (by omega), hgl⟩⟩
      · have b2 := one_count_ne e2
        refine ⟨by omega, fun e => ⟨Or.inl (by omega), ?_⟩⟩
        have : j ∈ y.ps.flatMap PlG.blocks := lcount_mem.2 (by omega)
        have := lt2 j this
        omega
  refine h.pl (y.a :: y.vp.ownBlock.toList) bw (fun j hj => by have := hN j hj; omega) (sl g (y.ps.length + 1) cap) (y.ps ++ [PlG.fresh pz f]) ?_ ?_ (by simp; omega) (fun j => ?_) (fun j hj => ?_) (fun z hz => ?_)
  · exact ((h.1.1.later b1).but hb (fun e => hva y.a e rfl)).set 9 _
  · have := lown_but hrow ((But.refl [y.a] w2).set (p := ⟨y.a, 9, none⟩) (by simp) (sl g (y.ps.length + 1) cap)) (fun k hk hm => by
      have : g = k := by simpa [sl, Value.ownBlock] using hk
      exact hga (by rw [this, List.mem_singleton.1 hm]))
    simpa [PlG.fresh] using this
  · rw [hv, hfl]
    exact (hcase j).1
  · rw [hv, hfl] at hj
    rw [hset]
    exact (hcase j).2 hj
  · rcases List.mem_append.1 hz with hz | hz
    · refine h.others _ bw (fun j hj => lcount_mem.2 (by rw [PrG.count]; have := hN j hj; omega)) _ (fun j hj => ?_) z hz (fun j hj hjN => ?_)
      · have a0 := lcount_mem.1 hj
        rw [PrG.count] at a0
        simp only [hv, hfl] at a0
        by_cases e : 1 ≤ [g].count j + ((y.ps.flatMap PlG.blocks).count j + [pz].count j)
        · exact (((hcase j).2 e).1).imp (fun e => lcount_mem.2 (by rw [PrG.count]; omega)) id
        · exact Or.inl (lcount_mem.2 (by rw [PrG.count]; omega))
      · have a1 := hN j hjN
        have a2 := hle j
        have a3 := lcount_mem.1 hj
        have a4 := lcount_one PlG.blocks j y.ps z hz
        omega
    · rw [List.mem_singleton.1 hz]
      exact PlG.fresh_at (hpl.but bw1 hpN) hf

theorem set_flat {f : PlG → List Nat} (y : PrG) (k : Nat) (hk : k < y.ps.length) (z : PlG) (j : Nat) : ((y.ps.set k z).flatMap f).count j + (f y.ps[k]).count j = (y.ps.flatMap f).count j + (f z).count j := lcount_set f j z y.ps k hk
/-- a dataplane begins anew -/
theorem DPre.restart {base : Nat} {M : List Nat} {y : PrG} {w w1 : World} {pz k g cap : Nat} {f : Int} (h : DPre base M y w) (b1 : Bel w w1) (hp1 : w.heap.size ≤ pz) (hp2 : pz < w1.heap.size) (hpl : PlaneAt w1 pz f (.pointer none) 0 0 (.slice none 0 0) false) (hf : 0 ≤ f ∧ f ≤ 3) (hk : k < y.ps.length) (hv : y.vp = .slice (some ⟨g, 0, none⟩) y.ps.length cap) :
    RPr base M y w (w1.setCell ⟨g, k, none⟩ (.pointer (some ⟨pz, 0, none⟩))) := by
  have hle := h.le
  obtain ⟨m1, m2, m3, m4⟩ := h.mem
  obtain ⟨lt1, lt2⟩ := h.lt
  have hs1 := b1.size
  have hvt : y.vp.ownBlock.toList = [g] := by rw [hv]; rfl
  have hga : g ≠ y.a := fun e => by
    have a2 := hle y.a
    have a3 := one_count y.a
    have a4 : 1 ≤ y.vp.ownBlock.toList.count y.a := lcount_mem.1 (by rw [hvt]; simp [e])
    omega
  have hgl := lt1 g (by rw [hvt]; simp)
  have hset : (w1.setCell ⟨g, k, none⟩ (.pointer (some ⟨pz, 0, none⟩))).heap.size = w1.heap.size := by simp [World.setCell]
  have bw1 : But [g] w1 (w1.setCell ⟨g, k, none⟩ (.pointer (some ⟨pz, 0, none⟩))) := (But.refl _ _).set (by simp) _
  have bw : But [g] w (w1.setCell ⟨g, k, none⟩ (.pointer (some ⟨pz, 0, none⟩))) := (But.of_bel b1).trans bw1
  have hpN : pz ∉ [g] := fun e => by have := List.mem_singleton.1 e; omega
  have hfl := fun j => set_flat (f := PlG.blocks) y k hk (PlG.fresh pz f) j
  have hfr : (PlG.fresh pz f).blocks = [pz] := rfl
  have h1k : ∀ j, (y.ps[k]).blocks.count j ≤ (y.ps.flatMap PlG.blocks).count j := fun j => lcount_one _ j _ _ (List.getElem_mem _)
  have hcase : ∀ j, y.vp.ownBlock.toList.count j + ((y.ps.set k (PlG.fresh pz f)).flatMap PlG.blocks).count j ≤ 1 ∧ (1 ≤ y.vp.ownBlock.toList.count j + ((y.ps.set k (PlG.fresh pz f)).flatMap PlG.blocks).count j → (1 ≤ y.vp.ownBlock.toList.count j + (y.ps.flatMap PlG.blocks).count j ∨ w.heap.size ≤ j) ∧ j < w1.heap.size) := fun j => by
    have a1 := hle j
    have a2 := hfl j
    have a3 := h1k j
    rw [hfr] at a2
    by_cases e1 : pz = j
    · subst e1
      have b1 := new_count lt2 hp1
      have b2 := new_count lt1 hp1
      have b3 := one_count_le pz pz
      exact ⟨by omega, fun _ => ⟨Or.inr hp1, by omega⟩⟩
    · have b1 := one_count_ne e1
      refine ⟨by omega, fun e => ?_⟩
      have hj : 1 ≤ y.vp.ownBlock.toList.count j + (y.ps.flatMap PlG.blocks).count j := by omega
      refine ⟨Or.inl hj, ?_⟩
      have : j < w.heap.size := by
        by_cases e3 : 1 ≤ y.vp.ownBlock.toList.count j
        · exact lt1 j (lcount_mem.2 e3)
        · exact lt2 j (lcount_mem.2 (by omega))
      omega
  refine h.pl [g] bw (fun j hj => ?_) y.vp (y.ps.set k (PlG.fresh pz f)) ?_ ?_ (by simpa using h.1.2.2.2.2.2.2.2.2.1) (fun j => (hcase j).1) (fun j hj => ?_) (fun z hz => ?_)
  · have := lcount_mem.1 (show j ∈ y.vp.ownBlock.toList by rw [hvt]; exact hj)
    omega
  · exact (h.1.1.later b1).but bw1 (by simpa using Ne.symm hga)
  · have q0 := own_later h.1.2.2.2.2.2.2.2.1 b1
    rw [hv] at q0 ⊢
    have q1 := (World.ownsRow.stored q0 k (.pointer (some ⟨pz, 0, none⟩))).1
    simpa [List.map_set, PlG.fresh] using q1
  · rw [hset]
    exact (hcase j).2 hj
  · obtain ⟨i, hi, rfl⟩ := List.mem_iff_getElem.1 hz
    have hi' : i < y.ps.length := by simpa using hi
    by_cases hik : k = i
    · subst hik
      simp only [List.getElem_set_self]
      exact PlG.fresh_at (hpl.but bw1 hpN) hf
    · simp only [List.getElem_set_ne hik]
      refine h.others [g] bw (fun j hj => lcount_mem.2 (by rw [PrG.count, hvt]; have := lcount_mem.1 hj; omega)) _ (fun j hj => ?_) _ (List.getElem_mem hi') (fun j hj hjN => ?_)
      · have a0 := lcount_mem.1 hj
        rw [PrG.count] at a0
        simp only at a0
        by_cases e : 1 ≤ y.vp.ownBlock.toList.count j + ((y.ps.set k (PlG.fresh pz f)).flatMap PlG.blocks).count j
        · exact (((hcase j).2 e).1).imp (fun e => lcount_mem.2 (by rw [PrG.count]; omega)) id
        · exact Or.inl (lcount_mem.2 (by rw [PrG.count]; omega))
      · have a1 := lcount_mem.1 (show j ∈ y.vp.ownBlock.toList by rw [hvt]; exact hjN)
        have a2 := hle j
        have a3 := lcount_mem.1 hj
        have a4 := lcount_one PlG.blocks j y.ps _ (List.getElem_mem hi')
        omega
/-- a frame came to a dataplane -/
theorem DPre.comes {base : Nat} {M : List Nat} {y : PrG} {w w0 w' : World} {k : Nat} {e : Ending} (h : DPre base M y w) (hk : k < y.ps.length) (b0 : Bel w w0) (hr : RComes w0 (y.ps[k]).p (y.ps[k]).speaks (y.ps[k]).has (y.ps[k]).got e w') : RPr base M y w w' := by
  obtain ⟨-, has', got', hg, gen, format, ng, no, ⟨q1, q2, q3, q4, q5, q6, q7⟩, hhas⟩ := hr
  have hle := h.le
  obtain ⟨m1, m2, m3, m4⟩ := h.mem
  obtain ⟨lt1, lt2⟩ := h.lt
  have hs0 := b0.size
  have hs1 := q1.size
  have hbl : (y.ps[k]).blocks = (y.ps[k]).p :: (y.ps[k]).got.ownBlock.toList := rfl
  have bw : But (y.ps[k]).blocks w w' := (But.of_bel b0).trans q1
  have h1k : ∀ j, (y.ps[k]).blocks.count j ≤ (y.ps.flatMap PlG.blocks).count j := fun j => lcount_one _ j _ _ (List.getElem_mem _)
  let z : PlG := ⟨(y.ps[k]).p, (y.ps[k]).speaks, has', gen, format, got', ng, no⟩
  have hzb : ∀ j, z.blocks.count j = [(y.ps[k]).p].count j + got'.ownBlock.toList.count j := fun j => by
    have : z.blocks = [(y.ps[k]).p] ++ got'.ownBlock.toList := rfl
    rw [this, List.count_append]
  have hpb : ∀ j, (y.ps[k]).blocks.count j = [(y.ps[k]).p].count j + (y.ps[k]).got.ownBlock.toList.count j := fun j => by
    have : (y.ps[k]).blocks = [(y.ps[k]).p] ++ (y.ps[k]).got.ownBlock.toList := rfl
    rw [this, List.count_append]
  have hfl := fun j => set_flat (f := PlG.blocks) y k hk z j
  have hgl : ∀ g, got'.ownBlock = some g → g < w'.heap.size := fun g e => by
    rcases q5 with ⟨e2, _⟩ | ⟨g2, cap2, e2, hlt, _⟩
    · rw [e2] at e; cases e
    · rw [e2] at e
      have : g2 = g := by simpa [Value.ownBlock] using e
      omega
  have hplt : (y.ps[k]).p < w.heap.size := lt2 _ (List.mem_flatMap.2 ⟨_, List.getElem_mem hk, by simp [PlG.blocks]⟩)
  have hcase : ∀ j, y.vp.ownBlock.toList.count j + ((y.ps.set k z).flatMap PlG.blocks).count j ≤ 1 ∧ (1 ≤ y.vp.ownBlock.toList.count j + ((y.ps.set k z).flatMap PlG.blocks).count j → (1 ≤ y.vp.ownBlock.toList.count j + (y.ps.flatMap PlG.blocks).count j ∨ w.heap.size ≤ j) ∧ j < w'.heap.size) := fun j => by
    have a1 := hle j
    have a2 := hfl j
    have a3 := h1k j
    have a4 := hzb j
    have a5 := hpb j
    have hold : 1 ≤ y.vp.ownBlock.toList.count j + (y.ps.flatMap PlG.blocks).count j → j < w'.heap.size := fun e => by
      have : j < w.heap.size := by
        by_cases e3 : 1 ≤ y.vp.ownBlock.toList.count j
        · exact lt1 j (lcount_mem.2 e3)
        · exact lt2 j (lcount_mem.2 (by omega))
      omega
    by_cases e1 : 1 ≤ got'.ownBlock.toList.count j
    · have e2 : got'.ownBlock = some j := by simpa using lcount_mem.2 e1
      have e3 : got'.ownBlock.toList.count j = 1 := by rw [e2]; simp
      obtain ⟨hne, hor⟩ := q7 j e2
      have e4 : [(y.ps[k]).p].count j = 0 := one_count_ne (Ne.symm hne)
      rcases hor with e5 | e5
      · have e6 : (y.ps[k]).got.ownBlock.toList.count j = 1 := by rw [e5]; simp
        exact ⟨by omega, fun e => ⟨Or.inl (by omega), hold (by omega)⟩⟩
      · have b1 := new_count lt2 (show w.heap.size ≤ j by omega)
        have b2 := new_count lt1 (show w.heap.size ≤ j by omega)
        exact ⟨by omega, fun e => ⟨Or.inr (by omega), hgl j e2⟩⟩
    · refine ⟨by omega, fun e => ?_⟩
      have : 1 ≤ y.vp.ownBlock.toList.count j + (y.ps.flatMap PlG.blocks).count j := by omega
      exact ⟨Or.inl this, hold this⟩
  have hmap : ((y.ps.set k z).map fun z => Value.pointer (some ⟨z.p, 0, none⟩)) = y.ps.map fun z => Value.pointer (some ⟨z.p, 0, none⟩) := by
    apply List.ext_getElem
    · simp
    · intro i i1 i2
      simp only [List.getElem_map, List.getElem_set]
      split
      · rename_i e
        subst e
        rfl
      · rfl
  have hkN : ∀ j ∈ (y.ps[k]).blocks, 1 ≤ (y.ps.flatMap PlG.blocks).count j := fun j hj => by
    have a1 := lcount_mem.1 hj
    have a2 := h1k j
    omega
  have hkB : ∀ j ∈ (y.ps[k]).blocks, j ∈ y.blocks := fun j hj => lcount_mem.2 (by rw [PrG.count]; have := hkN j hj; omega)
  have hNL : ∀ j ∈ PrG.blocks { y with vp := y.vp, ps := y.ps.set k z }, j ∈ y.blocks ∨ w.heap.size ≤ j := fun j hj => by
    have a0 := lcount_mem.1 hj
    rw [PrG.count] at a0
    simp only at a0
    by_cases e : 1 ≤ y.vp.ownBlock.toList.count j + ((y.ps.set k z).flatMap PlG.blocks).count j
    · exact (((hcase j).2 e).1).imp (fun e => lcount_mem.2 (by rw [PrG.count]; omega)) id
    · exact Or.inl (lcount_mem.2 (by rw [PrG.count]; omega))
  refine h.pl (y.ps[k]).blocks bw (fun j hj => by have := hkN j hj; omega) y.vp (y.ps.set k z) ?_ ?_ (by simpa using h.1.2.2.2.2.2.2.2.2.1) (fun j => (hcase j).1) (fun j hj => (hcase j).2 hj) (fun z' hz => ?_)
  · exact h.1.1.but bw (fun e => by
      have a1 := hkN _ e
      have a2 := hle y.a
      have a3 := one_count y.a
      omega)
  · rw [hmap, List.length_set]
    exact lown_but h.1.2.2.2.2.2.2.2.1 bw (fun g hg e => by
      have a1 := hkN _ e
      have a2 := hle g
      have a3 : 1 ≤ y.vp.ownBlock.toList.count g := lcount_mem.1 (by simp [hg])
      omega)
  · obtain ⟨i, hi, rfl⟩ := List.mem_iff_getElem.1 hz
    have hi' : i < y.ps.length := by simpa using hi
    by_cases hik : k = i
    · subst hik
      simp only [List.getElem_set_self]
      have hA : ∀ j ∈ PrG.blocks { y with vp := y.vp, ps := y.ps.set k z }, j ∈ M ∨ w.heap.size ≤ j := fun j hj => (hNL j hj).imp (fun e => h.2.2.1 j e) id
      have hold := (h.1.app hA).2.2.2.2.2.2.2.2.2 _ (List.getElem_mem hk)
      refine ⟨q2, hold.2.1, q3, q4, q5, q6, ?_, fun g hg => (q7 g hg).1⟩
      rcases hhas with rfl | ⟨q, c, B, E, hgn, rfl, ⟨vB, vE, ⟨⟨h0, h1, h2, h3, h4, h5⟩, h6, h7, h8, h9, h10⟩, r1, r2, r3⟩, hok, hW⟩
      · obtain ⟨hgo, hho⟩ := hold.2.2.2.2.2.2.1
        exact ⟨hgo, hho.masks bw (fun j hj => Or.inl (List.mem_append_right _ (h.2.2.1 j (hkB j hj))))⟩
      · have hout : ∀ j, w0.heap.size ≤ j → j ∉ PrG.blocks { y with vp := y.vp, ps := y.ps.set k z } ++ M := fun j hj e => by
          have hM : ∀ m ∈ M, m < w.heap.size := h.2.1
          rcases List.mem_append.1 e with e | e
          · have a0 := lcount_mem.1 e
            rw [PrG.count] at a0
            simp only at a0
            have a1 := new_count lt1 (show w.heap.size ≤ j by omega)
            have a2 := new_count lt2 (show w.heap.size ≤ j by omega)
            have a3 := hfl j
            have a4 := hzb j
            have a5 : got'.ownBlock.toList.count j = 0 := by rw [hgn]; simp
            have a6 := one_count_ne (show y.a ≠ j by omega)
            have a7 := one_count_ne (show y.q ≠ j by omega)
            have a8 := one_count_ne (show (y.ps[k]).p ≠ j by omega)
            omega
          · have := hM j e
            omega
        have hqo := hout q r1
        exact ⟨hg, Or.inr ⟨q, c, B, E, rfl, ⟨vB, vE, ⟨mask_cell.2 ⟨h0, hqo⟩, mask_cell.2 ⟨h1, hqo⟩, mask_cell.2 ⟨h2, hqo⟩, mask_cell.2 ⟨h3, hqo⟩, mask_cell.2 ⟨h4, hqo⟩, mask_cell.2 ⟨h5, hqo⟩⟩, mask_cell.2 ⟨h6, hqo⟩, mask_cell.2 ⟨h7, hqo⟩, mask_cell.2 ⟨h8, hqo⟩, RowAt.masks h9 (fun g hg => hout g (r2 g hg)), RowAt.masks h10 (fun g hg => hout g (r3 g hg))⟩, hok, hW⟩⟩
    · simp only [List.getElem_set_ne hik]
      refine h.others _ bw hkB _ hNL _ (List.getElem_mem hi') (fun j hj hjN => ?_)
      have b1 := lcount_two PlG.blocks j y.ps i k hi' hk (Ne.symm hik)
      have b2 := lcount_mem.1 hj
      have b3 := lcount_mem.1 hjN
      have b4 := hle j
      omega

end Go.Proofs.YtgfildmmcbjpnabGreat
