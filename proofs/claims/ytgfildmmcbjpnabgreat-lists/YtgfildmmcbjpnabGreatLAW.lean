import Derived.Test.YtgfildmmcbjpnabGreatLAV
namespace Go.Proofs.YtgfildmmcbjpnabGreat
open Go.RowKit

/-- a block's first cells, none of them frozen -/
def Blk (w : World) (b : Nat) (cs : List Value) : Prop := ∀ j v, cs[j]? = some v → w.cell? ⟨b, j, none⟩ = some v ∧ w.frozen? ⟨b, j, none⟩ = false
theorem Blk.but {p : Nat} {a w : World} {b : Nat} {cs : List Value} (h : Blk a b cs) (k : ButP p a w) (hb : b ≠ p) : Blk w b cs := fun j v hv => ⟨k.cell (h j v hv).1 hb, k.frozen (h j v hv).1 (h j v hv).2 hb⟩
theorem Blk.later {a w : World} {b : Nat} {cs : List Value} (h : Blk a b cs) (k : Bel a w) : Blk w b cs := fun j v hv => ⟨k.cell (h j v hv).1, k.frozen (h j v hv).1 (h j v hv).2⟩
theorem Blk.set {w : World} {b : Nat} {cs : List Value} (h : Blk w b cs) (i : Nat) (u : Value) : Blk (w.setCell ⟨b, i, none⟩ u) b (cs.set i u) := by
  intro j v hv
  rw [List.getElem?_set] at hv
  by_cases hij : i = j
  · subst hij
    rw [if_pos rfl] at hv
    split at hv
    · rename_i hlt
      simp at hv; subst hv
      have h1 := h i cs[i] (by simp [hlt])
      exact ⟨set_same h1.1, by rw [frozen_set]; exact h1.2⟩
    · cases hv
  · rw [if_neg hij] at hv
    have h1 := h j v hv
    exact ⟨by rw [set_other (Or.inr hij)]; exact h1.1, by rw [frozen_set]; exact h1.2⟩
theorem Blk.other {w : World} {b q o : Nat} {cs : List Value} {u : Value} (h : Blk w b cs) (hq : q ≠ b) : Blk (w.setCell ⟨q, o, none⟩ u) b cs := fun j v hv => ⟨by rw [set_other (Or.inl hq)]; exact (h j v hv).1, by rw [frozen_set]; exact (h j v hv).2⟩
theorem Blk.alloc (w : World) (cs : List Value) (t : TypeId) : Blk (w.alloc (.cells cs.toArray t)) w.heap.size cs := by
  intro j v hv
  refine ⟨?_, by simp⟩
  rw [cell_of_row _ w.heap.size j cs.toArray t (0, 0) (heap_alloc_new w _)]
  simpa using hv
theorem Blk.lt {w : World} {b : Nat} {cs : List Value} (h : Blk w b cs) (hc : 0 < cs.length) : b < w.heap.size := World.block_lt_of_cell? w ⟨b, 0, none⟩ (h 0 cs[0] (by simp [hc])).1
theorem PoolAt.set_x {w : World} {v : Value} {L : List BK} {q i : Nat} {u : Value} {z : Int} (h : PoolAt w v L) (hq : w.cell? ⟨q, 0, none⟩ = some (.int .i64 z)) : PoolAt (w.setCell ⟨q, i, none⟩ u) v L := by
  rcases h with h | ⟨g, cap, hv, hn, hg, hc⟩
  · exact Or.inl h
  · refine Or.inr ⟨g, cap, hv, hn, by simpa using hg, fun j x hx => ?_⟩
    have hl : 0 < L.length := by
      rcases Nat.eq_zero_or_pos L.length with h0 | h0
      · rw [List.eq_nil_of_length_eq_zero h0] at hx; simp [pcells] at hx
      · exact h0
    have h0 := hc _ _ (pcells_get L 0 hl).1
    simp only [Nat.zero_mul] at h0
    have hne : q ≠ g := fun e => by subst e; rw [hq] at h0; cases h0
    rw [set_other (Or.inl hne)]; exact hc j x hx
theorem EntsAt.set_x {w : World} {v : Value} {L : List EN} {q i : Nat} {u : Value} {z : Int} (h : EntsAt w v L) (hq : w.cell? ⟨q, 0, none⟩ = some (.int .i64 z)) : EntsAt (w.setCell ⟨q, i, none⟩ u) v L := by
  rcases h with h | ⟨g, cap, hv, hn, hg, hc⟩
  · exact Or.inl h
  · refine Or.inr ⟨g, cap, hv, hn, by simpa using hg, fun j x hx => ?_⟩
    have hl : 0 < L.length := by
      rcases Nat.eq_zero_or_pos L.length with h0 | h0
      · rw [List.eq_nil_of_length_eq_zero h0] at hx; simp [ecells] at hx
      · exact h0
    have h0 := hc _ _ (ecells_get L 0 hl).1
    simp only [Nat.zero_mul] at h0
    have hne : q ≠ g := fun e => by subst e; rw [hq] at h0; cases h0
    rw [set_other (Or.inl hne)]; exact hc j x hx
theorem StateAt.of_blk {w : World} {p : Nat} {c : Cfg} {gen : Int} {vB vE : Value} {B : List BK} {E : List EN} (h : Blk w p [.int .i64 c.alg, .int .i64 c.slots, .int .i64 c.points, .int .i64 c.probes, .string c.key, .int .i64 c.formats, .int .i64 gen, vB, vE]) (hB : PoolAt w vB B) (hE : EntsAt w vE E) : StateAt w p c gen B E :=
  ⟨vB, vE, ⟨(h 0 _ rfl).1, (h 1 _ rfl).1, (h 2 _ rfl).1, (h 3 _ rfl).1, (h 4 _ rfl).1, (h 5 _ rfl).1⟩, (h 6 _ rfl).1, (h 7 _ rfl).1, (h 8 _ rfl).1, hB, hE⟩
/-- a generation in blocks that are new, from base on -/
def StateN (base : Nat) (w : World) (p : Nat) (c : Cfg) (gen : Int) (B : List BK) (E : List EN) : Prop := ∃ vB vE,
  ((w.cell? ⟨p, 0, none⟩ = some (.int .i64 c.alg) ∧ w.cell? ⟨p, 1, none⟩ = some (.int .i64 c.slots) ∧ w.cell? ⟨p, 2, none⟩ = some (.int .i64 c.points) ∧ w.cell? ⟨p, 3, none⟩ = some (.int .i64 c.probes) ∧ w.cell? ⟨p, 4, none⟩ = some (.string c.key) ∧ w.cell? ⟨p, 5, none⟩ = some (.int .i64 c.formats)) ∧
  w.cell? ⟨p, 6, none⟩ = some (.int .i64 gen) ∧ w.cell? ⟨p, 7, none⟩ = some vB ∧ w.cell? ⟨p, 8, none⟩ = some vE ∧ PoolAt w vB B ∧ EntsAt w vE E) ∧ base ≤ p ∧ (∀ g, vB.ownBlock = some g → base ≤ g) ∧ ∀ g, vE.ownBlock = some g → base ≤ g
theorem StateN.state {base : Nat} {w : World} {p : Nat} {c : Cfg} {gen : Int} {B : List BK} {E : List EN} (h : StateN base w p c gen B E) : StateAt w p c gen B E := by
  obtain ⟨vB, vE, h1, -⟩ := h
  exact ⟨vB, vE, h1⟩
theorem StateN.later {base : Nat} {a w : World} {p : Nat} {c : Cfg} {gen : Int} {B : List BK} {E : List EN} (h : StateN base a p c gen B E) (k : Bel a w) : StateN base w p c gen B E := by
  obtain ⟨vB, vE, ⟨⟨h0, h1, h2, h3, h4, h5⟩, h6, h7, h8, h9, h10⟩, r⟩ := h
  exact ⟨vB, vE, ⟨⟨k.cell h0, k.cell h1, k.cell h2, k.cell h3, k.cell h4, k.cell h5⟩, k.cell h6, k.cell h7, k.cell h8, h9.later k, h10.later k⟩, r⟩
theorem StateN.of_blk {base : Nat} {w : World} {p : Nat} {c : Cfg} {gen : Int} {vB vE : Value} {B : List BK} {E : List EN} (h : Blk w p [.int .i64 c.alg, .int .i64 c.slots, .int .i64 c.points, .int .i64 c.probes, .string c.key, .int .i64 c.formats, .int .i64 gen, vB, vE]) (hB : PoolAt w vB B) (hE : EntsAt w vE E) (hp : base ≤ p) (hb : ∀ g, vB.ownBlock = some g → base ≤ g) (he : ∀ g, vE.ownBlock = some g → base ≤ g) : StateN base w p c gen B E :=
  ⟨vB, vE, ⟨⟨(h 0 _ rfl).1, (h 1 _ rfl).1, (h 2 _ rfl).1, (h 3 _ rfl).1, (h 4 _ rfl).1, (h 5 _ rfl).1⟩, (h 6 _ rfl).1, (h 7 _ rfl).1, (h 8 _ rfl).1, hB, hE⟩, hp, hb, he⟩
def RRead (w : World) (e : Ending) (w' : World) : Prop := ∃ (v : Value) (f : Int) (ok : Bool), e = .returned (.tuple #[v, .int .i64 f, .bool ok]) ∧ Bel w w' ∧
  (ok = true → ∃ (p : Nat) (c : Cfg) (gen : Int) (B : List BK) (E : List EN), v = .pointer (some ⟨p, 0, none⟩) ∧ w.heap.size ≤ p ∧ StateN w.heap.size w' p c gen B E ∧ StateOK c gen B E ∧ (∀ x ∈ E, W32 x.2.1 ∧ W32 x.2.2) ∧ 1 ≤ gen ∧ gen ≤ 1073741824 ∧ c.formats = 3 ∧ E.length ≤ 65535)
theorem RRead.no {w w' : World} (h : Bel w w') (f : Int) : RRead w (.returned (.tuple #[.pointer none, .int .i64 f, .bool false])) w' := ⟨_, _, _, rfl, h, fun h => by cases h⟩

set_option maxRecDepth 100000 in
set_option maxHeartbeats 4000000 in
theorem read3_any (s : ByteArray) (w : World) (hs : s.size ≤ 1099511627776) :
    Calls Tryz.prog 42 #[.string s] w (RRead w) := by
  go_enter Tryz.func42, Tryz.ntmps42
  go_wp2_with fail
  refine (unsealed_any s _ hs).mono ?_
  rintro e w1 ⟨a, ok, rfl, hb1, ha, -⟩
  cases ok
  · go_wp2
    go_ret3
    exact RRead.no hb1 _
  · go_upto_region 5 with fail
    have hT0 : TextAt (w1.alloc (.cells #[.string a, .bool false] 118)) w1.heap.size a false := ⟨by simp, by simp, by simp, by simp⟩
    have hW0 : Bel w (w1.alloc (.cells #[.string a, .bool false] 118)) := hb1.step_alloc _
    have hpt0 : w.heap.size ≤ w1.heap.size := hb1.size
    have hptl : w1.heap.size < (w1.alloc (.cells #[.string a, .bool false] 118)).heap.size := by simp
    generalize w1.heap.size = pt at *
    generalize w1.alloc (.cells #[.string a, .bool false] 118) = W0 at *
    clear hb1
    go_wp2_with fail
    refine (take_any pt 2 a false _ (by decide) (by decide) (by unfold maxLen; omega) hT0).mono ?_
    rintro e W1 ⟨v1, s1, sh1, rfl, hu1, hT1, h, rfl, g1, -, -, -⟩
    have hW1 := hu1.bel hW0 hpt0
    go_wp2_with fail
    refine (tnumber_any pt 1 s1 sh1 _ (by decide) (by decide) (by unfold maxLen; omega) hT1).mono ?_
    rintro e W2 ⟨v2, s2, sh2, rfl, hu2, hT2, format, rfl, g2, f0, f1, -⟩
    have f1' : format < 256 := by simpa using f1
    clear f1
    have hW2 := hu2.bel hW1 hpt0
    have hptl2 : pt < W2.heap.size := Nat.lt_of_lt_of_le hptl (Nat.le_trans hu1.size hu2.size)
    clear hu1 hu2 hT0 hT1 hW0 hW1
    go_upto_region 8 with fail
    have hX2 : Blk (W2.alloc (.cells #[.int .i64 0, .int .i64 0, .int .i64 0, .int .i64 0, .string ⟨#[]⟩, .int .i64 0, .int .i64 0, .slice none 0 0, .slice none 0 0] 84)) W2.heap.size [.int .i64 0, .int .i64 0, .int .i64 0, .int .i64 0, .string ⟨#[]⟩, .int .i64 0, .int .i64 0, .slice none 0 0, .slice none 0 0] := Blk.alloc _ _ _
    replace hT2 := hT2.later (Bel.step_alloc (Bel.refl _) (.cells #[.int .i64 0, .int .i64 0, .int .i64 0, .int .i64 0, .string ⟨#[]⟩, .int .i64 0, .int .i64 0, .slice none 0 0, .slice none 0 0] 84))
    have hpx : w.heap.size ≤ W2.heap.size := hW2.size
    have hpxl : W2.heap.size < (W2.alloc (.cells #[.int .i64 0, .int .i64 0, .int .i64 0, .int .i64 0, .string ⟨#[]⟩, .int .i64 0, .int .i64 0, .slice none 0 0, .slice none 0 0] 84)).heap.size := by simp
    replace hW2 := hW2.step_alloc (.cells #[.int .i64 0, .int .i64 0, .int .i64 0, .int .i64 0, .string ⟨#[]⟩, .int .i64 0, .int .i64 0, .slice none 0 0, .slice none 0 0] 84)
    have hne : W2.heap.size ≠ pt := by omega
    generalize W2.heap.size = px at *
    generalize W2.alloc (.cells #[.int .i64 0, .int .i64 0, .int .i64 0, .int .i64 0, .string ⟨#[]⟩, .int .i64 0, .int .i64 0, .slice none 0 0, .slice none 0 0] 84) = X0 at *
    have hX := hX2
    have hT := hT2
    have hW := hW2
    have hlt := hpxl
    clear hX2 hT2 hW2 hpxl
    go_wp2_with fail
    refine (tnumber_any pt 1 s2 sh2 _ (by decide) (by decide) (by unfold maxLen; omega) hT).mono ?_
    rintro e X1 ⟨v, r1, q1, rfl, hu, hT', alg, rfl, z1, alg0, alg1, -⟩
    have alg2 : alg < 256 := by simpa using alg1
    clear alg1
    have hX' := hX.but hu hne
    have hc := (hX' 0 _ rfl).1
    have hf := (hX' 0 _ rfl).2
    have hW' := hu.bel hW hpt0
    have hlt' : px < X1.heap.size := Nat.lt_of_lt_of_le hlt hu.size
    clear hX hT hW hu hlt
    have hX : Blk (X1.setCell ⟨px, 0, none⟩ (.int .i64 alg)) px [.int .i64 alg, .int .i64 0, .int .i64 0, .int .i64 0, .string ⟨#[]⟩, .int .i64 0, .int .i64 0, .slice none 0 0, .slice none 0 0] := hX'.set 0 _
    have hT : TextAt (X1.setCell ⟨px, 0, none⟩ (.int .i64 alg)) pt r1 q1 := hT'.other hne
    have hW : Bel w (X1.setCell ⟨px, 0, none⟩ (.int .i64 alg)) := hW'.step_set (p := ⟨px, 0, none⟩) hpx _
    have hlt : px < (X1.setCell ⟨px, 0, none⟩ (.int .i64 alg)).heap.size := by simpa using hlt'
    go_upto_region 9 with fail
    clear hX' hT' hW' hlt' hc hf
    generalize X1.setCell ⟨px, 0, none⟩ (.int .i64 alg) = Y1 at *
    go_wp2_with fail
    refine (tnumber_any pt 4 r1 q1 _ (by decide) (by decide) (by unfold maxLen; omega) hT).mono ?_
    rintro e X2 ⟨v, r2, q2, rfl, hu, hT', gen, rfl, z2, gen0, gen1, -⟩
    have gen2 : gen < 4294967296 := by simpa using gen1
    clear gen1
    have hX' := hX.but hu hne
    have hc := (hX' 6 _ rfl).1
    have hf := (hX' 6 _ rfl).2
    have hW' := hu.bel hW hpt0
    have hlt' : px < X2.heap.size := Nat.lt_of_lt_of_le hlt hu.size
    clear hX hT hW hu hlt
    have hX : Blk (X2.setCell ⟨px, 6, none⟩ (.int .i64 gen)) px [.int .i64 alg, .int .i64 0, .int .i64 0, .int .i64 0, .string ⟨#[]⟩, .int .i64 0, .int .i64 gen, .slice none 0 0, .slice none 0 0] := hX'.set 6 _
    have hT : TextAt (X2.setCell ⟨px, 6, none⟩ (.int .i64 gen)) pt r2 q2 := hT'.other hne
    have hW : Bel w (X2.setCell ⟨px, 6, none⟩ (.int .i64 gen)) := hW'.step_set (p := ⟨px, 6, none⟩) hpx _
    have hlt : px < (X2.setCell ⟨px, 6, none⟩ (.int .i64 gen)).heap.size := by simpa using hlt'
    go_upto_region 10 with fail
    clear hX' hT' hW' hlt' hc hf
    generalize X2.setCell ⟨px, 6, none⟩ (.int .i64 gen) = Y2 at *
    go_wp2_with fail
    refine (tnumber_any pt 2 r2 q2 _ (by decide) (by decide) (by unfold maxLen; omega) hT).mono ?_
    rintro e X3 ⟨v, r3, q3, rfl, hu, hT', slots, rfl, z3, slots0, slots1, -⟩
    have slots2 : slots < 65536 := by simpa using slots1
    clear slots1
    have hX' := hX.but hu hne
    have hc := (hX' 1 _ rfl).1
    have hf := (hX' 1 _ rfl).2
    have hW' := hu.bel hW hpt0
    have hlt' : px < X3.heap.size := Nat.lt_of_lt_of_le hlt hu.size
    clear hX hT hW hu hlt
    have hX : Blk (X3.setCell ⟨px, 1, none⟩ (.int .i64 slots)) px [.int .i64 alg, .int .i64 slots, .int .i64 0, .int .i64 0, .string ⟨#[]⟩, .int .i64 0, .int .i64 gen, .slice none 0 0, .slice none 0 0] := hX'.set 1 _
    have hT : TextAt (X3.setCell ⟨px, 1, none⟩ (.int .i64 slots)) pt r3 q3 := hT'.other hne
    have hW : Bel w (X3.setCell ⟨px, 1, none⟩ (.int .i64 slots)) := hW'.step_set (p := ⟨px, 1, none⟩) hpx _
    have hlt : px < (X3.setCell ⟨px, 1, none⟩ (.int .i64 slots)).heap.size := by simpa using hlt'
    go_upto_region 11 with fail
    clear hX' hT' hW' hlt' hc hf
    generalize X3.setCell ⟨px, 1, none⟩ (.int .i64 slots) = Y3 at *
    go_wp2_with fail
    refine (tnumber_any pt 1 r3 q3 _ (by decide) (by decide) (by unfold maxLen; omega) hT).mono ?_
    rintro e X4 ⟨v, r4, q4, rfl, hu, hT', points, rfl, z4, points0, points1, -⟩
    have points2 : points < 256 := by simpa using points1
    clear points1
    have hX' := hX.but hu hne
    have hc := (hX' 2 _ rfl).1
    have hf := (hX' 2 _ rfl).2
    have hW' := hu.bel hW hpt0
    have hlt' : px < X4.heap.size := Nat.lt_of_lt_of_le hlt hu.size
    clear hX hT hW hu hlt
    have hX : Blk (X4.setCell ⟨px, 2, none⟩ (.int .i64 points)) px [.int .i64 alg, .int .i64 slots, .int .i64 points, .int .i64 0, .string ⟨#[]⟩, .int .i64 0, .int .i64 gen, .slice none 0 0, .slice none 0 0] := hX'.set 2 _
    have hT : TextAt (X4.setCell ⟨px, 2, none⟩ (.int .i64 points)) pt r4 q4 := hT'.other hne
    have hW : Bel w (X4.setCell ⟨px, 2, none⟩ (.int .i64 points)) := hW'.step_set (p := ⟨px, 2, none⟩) hpx _
    have hlt : px < (X4.setCell ⟨px, 2, none⟩ (.int .i64 points)).heap.size := by simpa using hlt'
    go_upto_region 12 with fail
    clear hX' hT' hW' hlt' hc hf
    generalize X4.setCell ⟨px, 2, none⟩ (.int .i64 points) = Y4 at *
    go_wp2_with fail
    refine (tnumber_any pt 1 r4 q4 _ (by decide) (by decide) (by unfold maxLen; omega) hT).mono ?_
    rintro e X5 ⟨v, r5, q5, rfl, hu, hT', probes, rfl, z5, probes0, probes1, -⟩
    have probes2 : probes < 256 := by simpa using probes1
    clear probes1
    have hX' := hX.but hu hne
    have hc := (hX' 3 _ rfl).1
    have hf := (hX' 3 _ rfl).2
    have hW' := hu.bel hW hpt0
    have hlt' : px < X5.heap.size := Nat.lt_of_lt_of_le hlt hu.size
    clear hX hT hW hu hlt
    have hX : Blk (X5.setCell ⟨px, 3, none⟩ (.int .i64 probes)) px [.int .i64 alg, .int .i64 slots, .int .i64 points, .int .i64 probes, .string ⟨#[]⟩, .int .i64 0, .int .i64 gen, .slice none 0 0, .slice none 0 0] := hX'.set 3 _
    have hT : TextAt (X5.setCell ⟨px, 3, none⟩ (.int .i64 probes)) pt r5 q5 := hT'.other hne
    have hW : Bel w (X5.setCell ⟨px, 3, none⟩ (.int .i64 probes)) := hW'.step_set (p := ⟨px, 3, none⟩) hpx _
    have hlt : px < (X5.setCell ⟨px, 3, none⟩ (.int .i64 probes)).heap.size := by simpa using hlt'
    go_upto_region 13 with fail
    clear hX' hT' hW' hlt' hc hf
    generalize X5.setCell ⟨px, 3, none⟩ (.int .i64 probes) = Y5 at *
    go_wp2_with fail
    refine (take_any pt 16 r5 q5 _ (by decide) (by decide) (by unfold maxLen; omega) hT).mono ?_
    rintro e X6 ⟨v, r6, q6, rfl, hu, hT', key, rfl, z6, key0, -, -⟩
    have hX' := hX.but hu hne
    have hc := (hX' 4 _ rfl).1
    have hf := (hX' 4 _ rfl).2
    have hW' := hu.bel hW hpt0
    have hlt' : px < X6.heap.size := Nat.lt_of_lt_of_le hlt hu.size
    clear hX hT hW hu hlt
    have hX : Blk (X6.setCell ⟨px, 4, none⟩ (.string key)) px [.int .i64 alg, .int .i64 slots, .int .i64 points, .int .i64 probes, .string key, .int .i64 0, .int .i64 gen, .slice none 0 0, .slice none 0 0] := hX'.set 4 _
    have hT : TextAt (X6.setCell ⟨px, 4, none⟩ (.string key)) pt r6 q6 := hT'.other hne
    have hW : Bel w (X6.setCell ⟨px, 4, none⟩ (.string key)) := hW'.step_set (p := ⟨px, 4, none⟩) hpx _
    have hlt : px < (X6.setCell ⟨px, 4, none⟩ (.string key)).heap.size := by simpa using hlt'
    go_upto_region 14 with fail
    clear hX' hT' hW' hlt' hc hf
    generalize X6.setCell ⟨px, 4, none⟩ (.string key) = Y6 at *
    have hc5 := (hX 5 _ rfl).1
    have hf5 := (hX 5 _ rfl).2
    go_wp2_with fail
    have hX5 : Blk (Y6.setCell ⟨px, 5, none⟩ (.int .i64 3)) px [.int .i64 alg, .int .i64 slots, .int .i64 points, .int .i64 probes, .string key, .int .i64 3, .int .i64 gen, .slice none 0 0, .slice none 0 0] := hX.set 5 _
    have hT5 : TextAt (Y6.setCell ⟨px, 5, none⟩ (.int .i64 3)) pt r6 q6 := hT.other hne
    have hW5 : Bel w (Y6.setCell ⟨px, 5, none⟩ (.int .i64 3)) := hW.step_set (p := ⟨px, 5, none⟩) hpx _
    have hl5 : px < (Y6.setCell ⟨px, 5, none⟩ (.int .i64 3)).heap.size := by simpa using hlt
    have hl5' : pt < (Y6.setCell ⟨px, 5, none⟩ (.int .i64 3)).heap.size := World.block_lt_of_cell? _ _ hT5.1
    clear hX hT hW hlt hc5 hf5
    generalize Y6.setCell ⟨px, 5, none⟩ (.int .i64 3) = Z0 at *
    refine (tpool_any pt r6 q6 _ (by unfold maxLen; omega) hT5 hl5').mono ?_
    rintro e Z1 ⟨vB, L, okb, s7, sh7, rfl, hu, hT6, hs7, hPB, hL8, hblk, hokb⟩
    have hX6 := hX5.but hu hne
    have hW6 := hu.bel hW5 hpt0
    have hBp : ∀ g, vB.ownBlock = some g → g ≠ pt := fun g hg => by have := hblk g hg; omega
    have HNB : Hid (∀ g, vB.ownBlock = some g → w.heap.size ≤ g) := fun g hg => Nat.le_trans hW5.size (hblk g hg)
    have hl6 : px < Z1.heap.size := Nat.lt_of_lt_of_le hl5 hu.size
    have hc7 := (hX6 7 _ rfl).1
    have hf7 := (hX6 7 _ rfl).2
    clear hX5 hT5 hW5 hu hblk hl5 hl5'
    have hX7 : Blk (Z1.setCell ⟨px, 7, none⟩ vB) px [.int .i64 alg, .int .i64 slots, .int .i64 points, .int .i64 probes, .string key, .int .i64 3, .int .i64 gen, vB, .slice none 0 0] := hX6.set 7 _
    have hT7 : TextAt (Z1.setCell ⟨px, 7, none⟩ vB) pt s7 sh7 := hT6.other hne
    have hW7 : Bel w (Z1.setCell ⟨px, 7, none⟩ vB) := hW6.step_set (p := ⟨px, 7, none⟩) hpx _
    have hl7 : px < (Z1.setCell ⟨px, 7, none⟩ vB).heap.size := by simpa using hl6
    have hPB7 : PoolAt (Z1.setCell ⟨px, 7, none⟩ vB) vB L := hPB.set_x (hX6 0 _ rfl).1
    obtain ⟨aoB, capB, hvB⟩ : ∃ ao cap, vB = .slice ao L.length cap := by
      rcases hPB.form with ⟨h1, h2⟩ | ⟨g, cap, h1, _⟩
      · subst h2; exact ⟨none, 0, h1⟩
      · exact ⟨_, _, h1⟩
    subst hvB
    go_upto_region 17 with fail
    clear hX6 hT6 hW6 hl6 hc7 hf7 hPB
    generalize Z1.setCell ⟨px, 7, none⟩ (.slice aoB L.length capB) = Z2 at *
    go_wp2_with fail
    refine (tnumber_any pt 2 s7 sh7 _ (by decide) (by decide) (by unfold maxLen; omega) hT7).mono ?_
    rintro e Z3 ⟨v, s8, sh8, rfl, hu, hT8, n, rfl, hs8, n0, n1, -⟩
    have n2 : n < 65536 := by simpa using n1
    clear n1
    have hX8 := hX7.but hu hne
    have hW8 := hu.bel hW7 hpt0
    have hPB8 := hPB7.but hu hBp
    have hl8 : px < Z3.heap.size := Nat.lt_of_lt_of_le hl7 hu.size
    clear hX7 hT7 hW7 hu hPB7 hl7
    obtain ⟨hT80, hT81, hT82, hT83⟩ := hT8
    cases okb
    · go_wp2
      go_ret3
      exact RRead.no hW8 _
    obtain ⟨hsh7, hPO⟩ := hokb rfl
    clear hokb
    cases sh8
    rotate_left
    · go_wp2
      go_ret3
      exact RRead.no hW8 _
    cases hCH : (h.toList == [67, 72])
    · go_wp2
      go_ret3
      exact RRead.no hW8 _
    by_cases hfm1 : format < 1
    · go_wp2
      go_ret3
      exact RRead.no hW8 _
    by_cases hfm2 : 2 < format
    · go_wp2
      go_ret3
      exact RRead.no hW8 _
    have hSt0 : StateAt Z3 px ⟨alg, slots, points, probes, key, 3⟩ gen L [] := StateAt.of_blk hX8 hPB8 (Or.inl ⟨rfl, rfl, rfl⟩)
    go_wp2_with fail
    refine (pointed_any px _ _ _ _ _ hSt0).mono ?_
    rintro e Z4 ⟨pb, rfl, hb4, -⟩
    have hT9 := TextAt.later ⟨hT80, hT81, hT82, hT83⟩ hb4
    have hX9 := hX8.later hb4
    have hPB9 := hPB8.later hb4
    have hW9 := hW8.trans hb4
    have hl9 : px < Z4.heap.size := Nat.lt_of_lt_of_le hl8 hb4.size
    have hl9' : pt < Z4.heap.size := World.block_lt_of_cell? _ _ hT9.1
    clear hT80 hT81 hT82 hT83 hX8 hPB8 hW8 hl8 hSt0 hb4
    obtain ⟨nn, rfl⟩ := Int.eq_ofNat_of_zero_le n0
    have HBp : Hid (∀ g, (Value.slice aoB L.length capB).ownBlock = some g → g ≠ pt) := hBp
    clear hBp hCH n0
    have n3 : nn ≤ 65535 := by omega
    clear n2
    have hW4 : Hid (Bel w Z4) := hW9
    go_upto_if 105 with fail
    go_cut [14, 6] (fun v14 v6 wc => ∃ (E2 : List EN) (ok2 : Bool), v6 = .bool ok2 ∧ EntsNew w.heap.size wc v14 E2 ∧ E2.length ≤ 65535 ∧ (∀ x ∈ E2, GoodE L x) ∧ Blk wc px [.int .i64 alg, .int .i64 slots, .int .i64 points, .int .i64 probes, .string key, .int .i64 3, .int .i64 gen, .slice aoB L.length capB, .slice none 0 0] ∧ PoolAt wc (.slice aoB L.length capB) L ∧ Bel w wc)
    case first =>
      by_cases hf1 : format = 1
      · subst hf1
        go_wp2_with fail
        refine (plains_any pt nn pb _ L s8 false _ (by unfold maxLen; omega) hT9 hl9' n3 hPB9 hL8 HBp.out).mono ?_
        rintro e Z5 ⟨vE, E2, ok2, s9, sh9, rfl, hu, hT10, hs9, hE2, hE2l, hgood⟩
        go_wp2_with fail
        go_meet
        case rel => exact ⟨E2, ok2, rfl, ⟨hE2.1, fun g hg => Nat.le_trans hW9.size (hE2.2 g hg)⟩, by omega, hgood, hX9.but hu hne, hPB9.but hu HBp.out, hu.bel hW9 hpt0⟩
      · have hf1' : (format == 1) = false := by simpa using hf1
        go_wp2_with fail
        refine (packeds_any pt nn pb _ L s8 false _ (by omega) hT9 hl9' n3 hPB9 hL8 HBp.out).mono ?_
        rintro e Z5 ⟨vE, E2, ok2, s9, sh9, rfl, hu, hT10, hs9, hE2, hE2l, hgood⟩
        go_wp2_with fail
        go_meet
        case rel => exact ⟨E2, ok2, rfl, ⟨hE2.1, fun g hg => Nat.le_trans hW9.size (hE2.2 g hg)⟩, by omega, hgood, hX9.but hu hne, hPB9.but hu HBp.out, hu.bel hW9 hpt0⟩
    case rest =>
      obtain ⟨E2, ok2, rfl, hE2, hE2l, hgood, hX10, hPB10, hW10⟩ := hcut
      clear hT9 hX9 hPB9 hW9 hl9 hl9' hW4
      obtain ⟨aoE, capE, hvE⟩ : ∃ ao cap, u14 = .slice ao E2.length cap := by
        obtain ⟨ao, cap, hv, _⟩ := hE2.1.off
        exact ⟨ao, cap, hv⟩
      subst hvE
      have hc8 := (hX10 8 _ rfl).1
      have hf8 := (hX10 8 _ rfl).2
      have hX11 : Blk (wc.setCell ⟨px, 8, none⟩ (.slice aoE E2.length capE)) px [.int .i64 alg, .int .i64 slots, .int .i64 points, .int .i64 probes, .string key, .int .i64 3, .int .i64 gen, .slice aoB L.length capB, .slice aoE E2.length capE] := hX10.set 8 _
      have hW11 : Bel w (wc.setCell ⟨px, 8, none⟩ (.slice aoE E2.length capE)) := hW10.step_set (p := ⟨px, 8, none⟩) hpx _
      have hPB11 : PoolAt (wc.setCell ⟨px, 8, none⟩ (.slice aoE E2.length capE)) (.slice aoB L.length capB) L := hPB10.set_x (hX10 0 _ rfl).1
      have hE11 : EntsAt (wc.setCell ⟨px, 8, none⟩ (.slice aoE E2.length capE)) (.slice aoE E2.length capE) E2 := hE2.1.set_x (hX10 0 _ rfl).1
      have hSt : StateAt (wc.setCell ⟨px, 8, none⟩ (.slice aoE E2.length capE)) px ⟨alg, slots, points, probes, key, 3⟩ gen L E2 := StateAt.of_blk hX11 hPB11 hE11
      have HStN : Hid (StateN w.heap.size (wc.setCell ⟨px, 8, none⟩ (.slice aoE E2.length capE)) px ⟨alg, slots, points, probes, key, 3⟩ gen L E2) := StateN.of_blk hX11 hPB11 hE11 hpx HNB.out hE2.2
      go_upto_region 26 with fail
      clear hX10 hPB10 hW10 hE2 hc8 hf8 hX11 hPB11 hE11
      generalize wc.setCell ⟨px, 8, none⟩ (.slice aoE E2.length capE) = V0 at *
      cases ok2
      · go_wp2
        go_ret3
        exact RRead.no hW11 _
      · go_wp2_with fail
        have hfit : Cfg.Fit ⟨alg, slots, points, probes, key, 3⟩ := ⟨⟨by simp only; omega, by simp only; omega⟩, ⟨by simp only; omega, by simp only; omega⟩, ⟨by simp only; omega, by simp only; omega⟩, ⟨by simp only; omega, by simp only; omega⟩, ⟨by simp only; omega, by simp only; omega⟩, by simp only; unfold maxLen; omega⟩
        refine (whole_any px _ _ _ _ _ hSt hfit hPO (by omega)).mono ?_
        rintro e V1 ⟨okw, rfl, hbv, hwh⟩
        have hW12 := hW11.trans hbv
        cases okw
        · go_wp2
          go_ret3
          exact RRead.no hW12 _
        · obtain ⟨hOK, hg1, hg2, hsl⟩ := hwh rfl
          clear hwh
          have hSO : StateOK ⟨alg, slots, points, probes, key, 3⟩ gen L E2 := ⟨hOK, ⟨by omega, by omega⟩, hPO, by omega, fun x hx => (hgood x hx).1, hsl⟩
          have hWW : ∀ x ∈ E2, W32 x.2.1 ∧ W32 x.2.2 := fun x hx => (hgood x hx).2
          have HSO : Hid (StateOK ⟨alg, slots, points, probes, key, 3⟩ gen L E2) := hSO
          clear hOK hsl hSO
          go_wp2_with fail
          refine (image_any px _ _ _ _ format _ (hSt.later hbv) HSO.out ⟨by omega, by omega⟩ (fun x hx => ⟨(hWW x hx).1.i64, (hWW x hx).2.i64⟩)).mono ?_
          rintro e V2 ⟨b, rfl, hbw, -⟩
          go_wp2
          go_ret3
          exact ⟨_, _, _, rfl, hW12.trans hbw, fun _ => ⟨px, _, gen, L, E2, rfl, hpx, (HStN.out.later hbv).later hbw, HSO.out, hWW, hg1, hg2, rfl, hE2l⟩⟩

end Go.Proofs.YtgfildmmcbjpnabGreat

namespace Go.Proofs.YtgfildmmcbjpnabGreat
open Go.RowKit

/-- a row of entries, and behind it a word's box -/
def Sc (w : World) (v : Value) (k : Nat) (L : List EN) (u : Value) (wx : World) : Prop := ∃ S : World, Bel w S ∧ S.ownsRow w.heap.size 131 3 v k (ecells L) ∧ Bel S wx ∧ BoxW S.heap.size wx u
theorem Sc.bel {w : World} {v : Value} {k : Nat} {L : List EN} {u : Value} {wx : World} (h : Sc w v k L u wx) : Bel w wx := by
  obtain ⟨S, h1, _, h3, _⟩ := h
  exact h1.trans h3
theorem Sc.later {w : World} {v : Value} {k : Nat} {L : List EN} {u : Value} {wx wy : World} (h : Sc w v k L u wx) (b : Bel wx wy) : Sc w v k L u wy := by
  obtain ⟨S, h1, h2, h3, h4⟩ := h
  exact ⟨S, h1, h2, h3.trans b, h4.later b⟩
theorem Sc.own {w : World} {v : Value} {k : Nat} {L : List EN} {u : Value} {wx : World} (h : Sc w v k L u wx) : wx.ownsRow w.heap.size 131 3 v k (ecells L) := by
  obtain ⟨S, _, h2, h3, _⟩ := h
  exact owns_later h2 h3
theorem Sc.open {w : World} {v : Value} {k : Nat} {L : List EN} {u : Value} {wx : World} (h : Sc w v k L u wx) : ∃ (p : Nat) (x y : Int), u = .pointer (some ⟨p, 0, none⟩) ∧ wx.cell? ⟨p, 0, none⟩ = some (.int .i64 x) ∧ wx.cell? ⟨p, 1, none⟩ = some (.int .i64 y) ∧ wx.frozen? ⟨p, 0, none⟩ = false ∧ wx.frozen? ⟨p, 1, none⟩ = false ∧ W32 x ∧ W32 y ∧
    ∀ (wy : World) (a b : Int), Bel wx wy → W32 a → W32 b → Sc w v k L u ((wy.setCell ⟨p, 0, none⟩ (.int .i64 a)).setCell ⟨p, 1, none⟩ (.int .i64 b)) := by
  obtain ⟨S, h1, h2, h3, h4⟩ := h
  have h4' := h4
  obtain ⟨p, x, y, hu, hp, c0, c1, f0, f1, hx, hy⟩ := h4
  refine ⟨p, x, y, hu, c0, c1, f0, f1, hx, hy, fun wy a b hb ha hb' => ⟨S, h1, h2, ?_, ?_⟩⟩
  · exact ((h3.trans hb).step_set (p := ⟨p, 0, none⟩) hp _).step_set (p := ⟨p, 1, none⟩) hp _
  · exact ((h4'.later hb).set _ ha).set _ hb'
def RTable (w : World) (c : Cfg) (B : List BK) (e : Ending) (w' : World) : Prop := ∃ (v : Value) (E : List EN), e = .returned v ∧ Bel w w' ∧ EntsNew w.heap.size w' v E ∧ E.length ≤ 140000 ∧ (∀ x ∈ E, GoodE B x) ∧ (¬ Pointed c → E = [] ∨ (E.length : Int) = c.slots)
/-- a best so far: none, or one of the pool -/
def Best (B : List BK) (s : ByteArray) : Prop := s.size = 0 ∨ ∃ b ∈ B, b.1 = s

end Go.Proofs.YtgfildmmcbjpnabGreat
