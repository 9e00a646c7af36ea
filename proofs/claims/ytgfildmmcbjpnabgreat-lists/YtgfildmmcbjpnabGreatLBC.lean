import Derived.Test.YtgfildmmcbjpnabGreatLBB
namespace Go.Proofs.YtgfildmmcbjpnabGreat
open Go.RowKit

theorem mask_grow (N M : List Nat) (w : World) (h : ∀ k ∈ N, w.heap.size ≤ k) : mask (N ++ M) w = mask M w := by
  unfold mask
  congr 1
  apply Array.ext
  · simp
  · intro i h1 h2
    have hi : i < w.heap.size := by simpa using h1
    have : i ∉ N := fun hn => by have := h i hn; omega
    simp [this]
theorem mask_row {M : List Nat} {base : Nat} {w : World} {e : TypeId} {s : Nat} {v : Value} {n : Nat} {xs : List Value} (h : w.ownsRow base e s v n xs) (hM : ∀ k ∈ M, k < base) : RowAt (mask M w) v n xs := by
  rcases RowAt.of_owns h with h1 | ⟨g, cap, hv, hn, hg, hc⟩
  · exact Or.inl h1
  · have hg2 := (h.lt g (by rw [hv]; rfl)).1
    exact Or.inr ⟨g, cap, hv, hn, by rw [mask_size]; exact hg, fun j u hu => mask_cell_new hM (by simp only; omega) (hc j u hu)⟩
theorem RowAt.unmask {M : List Nat} {w : World} {v : Value} {n : Nat} {xs : List Value} (h : RowAt (mask M w) v n xs) : RowAt w v n xs := by
  rcases h with h1 | ⟨g, cap, hv, hn, hg, hc⟩
  · exact Or.inl h1
  · exact Or.inr ⟨g, cap, hv, hn, by rw [mask_size] at hg; exact hg, fun j u hu => (mask_cell.1 (hc j u hu)).1⟩
theorem PoolAt.unmask {M : List Nat} {w : World} {v : Value} {B : List BK} (h : PoolAt (mask M w) v B) : PoolAt w v B := RowAt.unmask h
theorem EIAt.unmask {M : List Nat} {w : World} {v : Value} {B : List EI} (h : EIAt (mask M w) v B) : EIAt w v B := RowAt.unmask h
/-- a service's box: nine cells that may be written -/
def Frz9 (q : Nat) (w : World) : Prop := w.frozen? ⟨q, 0, none⟩ = false ∧ w.frozen? ⟨q, 1, none⟩ = false ∧ w.frozen? ⟨q, 2, none⟩ = false ∧ w.frozen? ⟨q, 3, none⟩ = false ∧ w.frozen? ⟨q, 4, none⟩ = false ∧ w.frozen? ⟨q, 5, none⟩ = false ∧ w.frozen? ⟨q, 6, none⟩ = false ∧ w.frozen? ⟨q, 7, none⟩ = false ∧ w.frozen? ⟨q, 8, none⟩ = false
/-- a service, in memory -/
def SvcAt (M : List Nat) (q : Nat) (c : Cfg) (B : List BK) (g : Int) (w : World) : Prop := q ∈ M ∧ ∃ vP vE, TabAt w q c vP vE ∧ w.cell? ⟨q, 8, none⟩ = some (.int .i64 g) ∧ Frz9 q w ∧ PoolAt (mask M w) vP B ∧ EIAt (mask M w) vE (mkF c B)
theorem Frz9.but {M' : List Nat} {q : Nat} {w w' : World} (h : Frz9 q w) (k : But M' w w') (hq : q ∉ M') (hlt : q < w.heap.size) : Frz9 q w' := by
  obtain ⟨h0, h1, h2, h3, h4, h5, h6, h7, h8⟩ := h
  have hf : ∀ o, w'.frozen? ⟨q, o, none⟩ = w.frozen? ⟨q, o, none⟩ := fun o => World.frozen?_of_block (w := w) (k.block q hlt hq)
  exact ⟨(hf 0).trans h0, (hf 1).trans h1, (hf 2).trans h2, (hf 3).trans h3, (hf 4).trans h4, (hf 5).trans h5, (hf 6).trans h6, (hf 7).trans h7, (hf 8).trans h8⟩
theorem TabAt.but {M' : List Nat} {q : Nat} {c : Cfg} {vP vE : Value} {w w' : World} (h : TabAt w q c vP vE) (k : But M' w w') (hq : q ∉ M') : TabAt w' q c vP vE := by
  obtain ⟨⟨h0, h1, h2, h3, h4, h5⟩, h6, h7⟩ := h
  exact ⟨⟨k.cell h0 hq, k.cell h1 hq, k.cell h2 hq, k.cell h3 hq, k.cell h4 hq, k.cell h5 hq⟩, k.cell h6 hq, k.cell h7 hq⟩
theorem SvcAt.lt {M : List Nat} {q : Nat} {c : Cfg} {B : List BK} {g : Int} {w : World} (h : SvcAt M q c B g w) : q < w.heap.size := by
  obtain ⟨_, _, _, _, h8, _⟩ := h
  exact World.block_lt_of_cell? w _ h8
theorem SvcAt.but {M M' : List Nat} {q : Nat} {c : Cfg} {B : List BK} {g : Int} {w w' : World} (h : SvcAt M q c B g w) (k : But M' w w') (hq : q ∉ M') (hs : ∀ j ∈ M', j ∈ M ∨ w.heap.size ≤ j) : SvcAt M q c B g w' := by
  have hlt := h.lt
  obtain ⟨hm, vP, vE, hT, h8, hF, hP, hE⟩ := h
  have hb : Bel (mask M w) (mask M w') := k.mono hs
  exact ⟨hm, vP, vE, hT.but k hq, k.cell h8 hq, hF.but k hq hlt, hP.later hb, hE.later hb⟩
theorem SvcAt.later {M : List Nat} {q : Nat} {c : Cfg} {B : List BK} {g : Int} {w w' : World} (h : SvcAt M q c B g w) (k : Bel w w') : SvcAt M q c B g w' := h.but (M' := []) (But.of_bel k) (by simp) (by simp)
theorem SvcAt.grow {M : List Nat} {q : Nat} {c : Cfg} {B : List BK} {g : Int} {w : World} (h : SvcAt M q c B g w) (N : List Nat) (hN : ∀ k ∈ N, w.heap.size ≤ k) : SvcAt (N ++ M) q c B g w := by
  obtain ⟨hm, vP, vE, hT, h8, hF, hP, hE⟩ := h
  rw [← mask_grow N M w hN] at hP hE
  exact ⟨List.mem_append_right _ hm, vP, vE, hT, h8, hF, hP, hE⟩
def RSvc0 (M : List Nat) (q : Nat) (c : Cfg) (B : List BK) (g : Int) (w : World) (e : Ending) (w' : World) : Prop := e = .returned (.tuple #[]) ∧ But [q] w w' ∧ SvcAt M q c B g w'
def RSvc (M : List Nat) (q : Nat) (c : Cfg) (B : List BK) (g : Int) (err : Int) (w : World) (e : Ending) (w' : World) : Prop := e = .returned (.int .i64 err) ∧ But [q] w w' ∧ SvcAt M q c B g w'

theorem set9 {w : World} {q : Nat} {u0 u1 u2 u3 u4 u5 u6 u7 u8 : Value} (v0 v1 v2 v3 v4 v5 v6 v7 v8 : Value) (h0 : w.cell? ⟨q, 0, none⟩ = some u0) (h1 : w.cell? ⟨q, 1, none⟩ = some u1) (h2 : w.cell? ⟨q, 2, none⟩ = some u2) (h3 : w.cell? ⟨q, 3, none⟩ = some u3) (h4 : w.cell? ⟨q, 4, none⟩ = some u4) (h5 : w.cell? ⟨q, 5, none⟩ = some u5) (h6 : w.cell? ⟨q, 6, none⟩ = some u6) (h7 : w.cell? ⟨q, 7, none⟩ = some u7) (h8 : w.cell? ⟨q, 8, none⟩ = some u8) :
    (((((((((w.setCell ⟨q, 0, none⟩ v0).setCell ⟨q, 1, none⟩ v1).setCell ⟨q, 2, none⟩ v2).setCell ⟨q, 3, none⟩ v3).setCell ⟨q, 4, none⟩ v4).setCell ⟨q, 5, none⟩ v5).setCell ⟨q, 6, none⟩ v6).setCell ⟨q, 7, none⟩ v7).setCell ⟨q, 8, none⟩ v8).cell? ⟨q, 0, none⟩ = some v0 ∧ (((((((((w.setCell ⟨q, 0, none⟩ v0).setCell ⟨q, 1, none⟩ v1).setCell ⟨q, 2, none⟩ v2).setCell ⟨q, 3, none⟩ v3).setCell ⟨q, 4, none⟩ v4).setCell ⟨q, 5, none⟩ v5).setCell ⟨q, 6, none⟩ v6).setCell ⟨q, 7, none⟩ v7).setCell ⟨q, 8, none⟩ v8).cell? ⟨q, 1, none⟩ = some v1 ∧ (((((((((w.setCell ⟨q, 0, none⟩ v0).setCell ⟨q, 1, none⟩ v1).setCell ⟨q, 2, none⟩ v2).setCell ⟨q, 3, none⟩ v3).setCell ⟨q, 4, none⟩ v4).setCell ⟨q, 5, none⟩ v5).setCell ⟨q, 6, none⟩ v6).setCell ⟨q, 7, none⟩ v7).setCell ⟨q, 8, none⟩ v8).cell? ⟨q, 2, none⟩ = some v2 ∧ (((((((((w.setCell ⟨q, 0, none⟩ v0).setCell ⟨q, 1, none⟩ v1).setCell ⟨q, 2, none⟩ v2).setCell ⟨q, 3, none⟩ v3).setCell ⟨q, 4, none⟩ v4).setCell ⟨q, 5, none⟩ v5).setCell ⟨q, 6, none⟩ v6).setCell ⟨q, 7, none⟩ v7).setCell ⟨q, 8, none⟩ v8).cell? ⟨q, 3, none⟩ = some v3 ∧ (((((((((w.setCell ⟨q, 0, none⟩ v0).setCell ⟨q, 1, none⟩ v1).setCell ⟨q, 2, none⟩ v2).setCell ⟨q, 3, none⟩ v3).setCell ⟨q, 4, none⟩ v4).setCell ⟨q, 5, none⟩ v5).setCell ⟨q, 6, none⟩ v6).setCell ⟨q, 7, none⟩ v7).setCell ⟨q, 8, none⟩ v8).cell? ⟨q, 4, none⟩ = some v4 ∧ (((((((((w.setCell ⟨q, 0, none⟩ v0).setCell ⟨q, 1, none⟩ v1).setCell ⟨q, 2, none⟩ v2).setCell ⟨q, 3, none⟩ v3).setCell ⟨q, 4, none⟩ v4).setCell ⟨q, 5, none⟩ v5).setCell ⟨q, 6, none⟩ v6).setCell ⟨q, 7, none⟩ v7).setCell ⟨q, 8, none⟩ v8).cell? ⟨q, 5, none⟩ = some v5 ∧ (((((((((w.setCell ⟨q, 0, none⟩ v0).setCell ⟨q, 1, none⟩ v1).setCell ⟨q, 2, none⟩ v2).setCell ⟨q, 3, none⟩ v3).setCell ⟨q, 4, none⟩ v4).setCell ⟨q, 5, none⟩ v5).setCell ⟨q, 6, none⟩ v6).setCell ⟨q, 7, none⟩ v7).setCell ⟨q, 8, none⟩ v8).cell? ⟨q, 6, none⟩ = some v6 ∧ (((((((((w.setCell ⟨q, 0, none⟩ v0).setCell ⟨q, 1, none⟩ v1).setCell ⟨q, 2, none⟩ v2).setCell ⟨q, 3, none⟩ v3).setCell ⟨q, 4, none⟩ v4).setCell ⟨q, 5, none⟩ v5).setCell ⟨q, 6, none⟩ v6).setCell ⟨q, 7, none⟩ v7).setCell ⟨q, 8, none⟩ v8).cell? ⟨q, 7, none⟩ = some v7 ∧ (((((((((w.setCell ⟨q, 0, none⟩ v0).setCell ⟨q, 1, none⟩ v1).setCell ⟨q, 2, none⟩ v2).setCell ⟨q, 3, none⟩ v3).setCell ⟨q, 4, none⟩ v4).setCell ⟨q, 5, none⟩ v5).setCell ⟨q, 6, none⟩ v6).setCell ⟨q, 7, none⟩ v7).setCell ⟨q, 8, none⟩ v8).cell? ⟨q, 8, none⟩ = some v8 := by
  exact ⟨by rw [set_other (by simp), set_other (by simp), set_other (by simp), set_other (by simp), set_other (by simp), set_other (by simp), set_other (by simp), set_other (by simp)]; exact set_same (v := u0) (by exact h0), by rw [set_other (by simp), set_other (by simp), set_other (by simp), set_other (by simp), set_other (by simp), set_other (by simp), set_other (by simp)]; exact set_same (v := u1) (by rw [set_other (by simp)]; exact h1), by rw [set_other (by simp), set_other (by simp), set_other (by simp), set_other (by simp), set_other (by simp), set_other (by simp)]; exact set_same (v := u2) (by rw [set_other (by simp), set_other (by simp)]; exact h2), by rw [set_other (by simp), set_other (by simp), set_other (by simp), set_other (by simp), set_other (by simp)]; exact set_same (v := u3) (by rw [set_other (by simp), set_other (by simp), set_other (by simp)]; exact h3), by rw [set_other (by simp), set_other (by simp), set_other (by simp), set_other (by simp)]; exact set_same (v := u4) (by rw [set_other (by simp), set_other (by simp), set_other (by simp), set_other (by simp)]; exact h4), by rw [set_other (by simp), set_other (by simp), set_other (by simp)]; exact set_same (v := u5) (by rw [set_other (by simp), set_other (by simp), set_other (by simp), set_other (by simp), set_other (by simp)]; exact h5), by rw [set_other (by simp), set_other (by simp)]; exact set_same (v := u6) (by rw [set_other (by simp), set_other (by simp), set_other (by simp), set_other (by simp), set_other (by simp), set_other (by simp)]; exact h6), by rw [set_other (by simp)]; exact set_same (v := u7) (by rw [set_other (by simp), set_other (by simp), set_other (by simp), set_other (by simp), set_other (by simp), set_other (by simp), set_other (by simp)]; exact h7), by exact set_same (v := u8) (by rw [set_other (by simp), set_other (by simp), set_other (by simp), set_other (by simp), set_other (by simp), set_other (by simp), set_other (by simp), set_other (by simp)]; exact h8)⟩
theorem frz9 {w : World} {q : Nat} (v0 v1 v2 v3 v4 v5 v6 v7 v8 : Value) (h : Frz9 q w) : Frz9 q (((((((((w.setCell ⟨q, 0, none⟩ v0).setCell ⟨q, 1, none⟩ v1).setCell ⟨q, 2, none⟩ v2).setCell ⟨q, 3, none⟩ v3).setCell ⟨q, 4, none⟩ v4).setCell ⟨q, 5, none⟩ v5).setCell ⟨q, 6, none⟩ v6).setCell ⟨q, 7, none⟩ v7).setCell ⟨q, 8, none⟩ v8) := by
  obtain ⟨h0, h1, h2, h3, h4, h5, h6, h7, h8⟩ := h
  exact ⟨by rw [frozen_set, frozen_set, frozen_set, frozen_set, frozen_set, frozen_set, frozen_set, frozen_set, frozen_set]; exact h0, by rw [frozen_set, frozen_set, frozen_set, frozen_set, frozen_set, frozen_set, frozen_set, frozen_set, frozen_set]; exact h1, by rw [frozen_set, frozen_set, frozen_set, frozen_set, frozen_set, frozen_set, frozen_set, frozen_set, frozen_set]; exact h2, by rw [frozen_set, frozen_set, frozen_set, frozen_set, frozen_set, frozen_set, frozen_set, frozen_set, frozen_set]; exact h3, by rw [frozen_set, frozen_set, frozen_set, frozen_set, frozen_set, frozen_set, frozen_set, frozen_set, frozen_set]; exact h4, by rw [frozen_set, frozen_set, frozen_set, frozen_set, frozen_set, frozen_set, frozen_set, frozen_set, frozen_set]; exact h5, by rw [frozen_set, frozen_set, frozen_set, frozen_set, frozen_set, frozen_set, frozen_set, frozen_set, frozen_set]; exact h6, by rw [frozen_set, frozen_set, frozen_set, frozen_set, frozen_set, frozen_set, frozen_set, frozen_set, frozen_set]; exact h7, by rw [frozen_set, frozen_set, frozen_set, frozen_set, frozen_set, frozen_set, frozen_set, frozen_set, frozen_set]; exact h8⟩

set_option maxRecDepth 100000 in
set_option maxHeartbeats 400000 in
theorem publish_is (M : List Nat) (q : Nat) (c : Cfg) (B B' : List BK) (g : Int) (v : Value) (w : World) (hS : SvcAt M q c B g w) (hM : ∀ k ∈ M, k < w.heap.size) (hc : c.OK) (hP : PoolAt w v B') (hB : PoolOK B') (hg0 : 0 ≤ g) (hg1 : g ≤ 4611686018427387904) :
    Calls Tryz.prog 19 #[.pointer (some ⟨q, 0, none⟩), v] w (RSvc0 M q c B' (g + 1) w) := by
  have hmk := make_is c B' v w hP hB hc
  obtain ⟨hm, vP0, vE0, ⟨⟨h0, h1, h2, h3, h4, h5⟩, h6, h7⟩, h8, ⟨f0, f1, f2, f3, f4, f5, f6, f7, f8⟩, -, -⟩ := hS
  have hq : q < w.heap.size := World.block_lt_of_cell? w _ h8
  unfold RSvc0 SvcAt
  obtain ⟨E, hE⟩ : ∃ E, E = mkF c B' := ⟨_, rfl⟩
  unfold RMake at hmk
  rw [← hE] at hmk ⊢
  clear hE hc
  unfold TabAt
  obtain ⟨alg, slots, points, probes, key, formats⟩ := c
  simp only [Cfg.cells, tabV] at *
  go_enter Tryz.func19, Tryz.ntmps19
  go_wp2_with fail
  refine hmk.mono ?_
  rintro e w1 ⟨vP, vE, rfl, hb1, hOP, hOE⟩
  obtain ⟨aP, capP, rfl⟩ := own_slice hOP
  obtain ⟨aE, capE, rfl⟩ := own_slice hOE
  have hPm : PoolAt (mask M w1) _ B' := mask_row hOP hM
  have hEm : EIAt (mask M w1) _ E := mask_row hOE hM
  clear hOP hOE hmk
  have HP := Hid.mk hPm
  have HE := Hid.mk hEm
  clear hPm hEm
  have k0 := hb1.cell h0
  have k1 := hb1.cell h1
  have k2 := hb1.cell h2
  have k3 := hb1.cell h3
  have k4 := hb1.cell h4
  have k5 := hb1.cell h5
  have k6 := hb1.cell h6
  have k7 := hb1.cell h7
  have k8 := hb1.cell h8
  have e0 := hb1.frozen h0 f0
  have e1 := hb1.frozen h1 f1
  have e2 := hb1.frozen h2 f2
  have e3 := hb1.frozen h3 f3
  have e4 := hb1.frozen h4 f4
  have e5 := hb1.frozen h5 f5
  have e6 := hb1.frozen h6 f6
  have e7 := hb1.frozen h7 f7
  have e8 := hb1.frozen h8 f8
  clear h0 h1 h2 h3 h4 h5 h6 h7 h8 f0 f1 f2 f3 f4 f5 f6 f7 f8
  go_wp2
  go_end0
  obtain ⟨y0, y1, y2, y3, y4, y5, y6, y7, y8⟩ := set9 (.int .i64 alg) (.int .i64 slots) (.int .i64 points) (.int .i64 probes) (.string key) (.int .i64 formats) (.slice aP B'.length capP) (.slice aE E.length capE) (.int .i64 (g + 1)) k0 k1 k2 k3 k4 k5 k6 k7 k8
  have yf := frz9 (w := w1) (q := q) (.int .i64 alg) (.int .i64 slots) (.int .i64 points) (.int .i64 probes) (.string key) (.int .i64 formats) (.slice aP B'.length capP) (.slice aE E.length capE) (.int .i64 (g + 1)) ⟨e0, e1, e2, e3, e4, e5, e6, e7, e8⟩
  have hbt : But [q] w1 _ := ((((((((((But.refl [q] w1).set (p := ⟨q, 0, none⟩) (by simp) (.int .i64 alg)).set (p := ⟨q, 1, none⟩) (by simp) (.int .i64 slots)).set (p := ⟨q, 2, none⟩) (by simp) (.int .i64 points)).set (p := ⟨q, 3, none⟩) (by simp) (.int .i64 probes)).set (p := ⟨q, 4, none⟩) (by simp) (.string key)).set (p := ⟨q, 5, none⟩) (by simp) (.int .i64 formats)).set (p := ⟨q, 6, none⟩) (by simp) (.slice aP B'.length capP)).set (p := ⟨q, 7, none⟩) (by simp) (.slice aE E.length capE)).set (p := ⟨q, 8, none⟩) (by simp) (.int .i64 (g + 1)))
  have hbM := hbt.mono (M' := M) (fun k hk => Or.inl (by simp at hk; subst hk; exact hm))
  exact ⟨rfl, (But.of_bel hb1).trans hbt, hm, _, _, ⟨⟨y0, y1, y2, y3, y4, y5⟩, y6, y7⟩, y8, yf, HP.out.later hbM, HE.out.later hbM⟩

end Go.Proofs.YtgfildmmcbjpnabGreat

namespace Go.Proofs.YtgfildmmcbjpnabGreat
open Go.RowKit

set_option maxHeartbeats 400000 in
theorem nameOK_is (id : ByteArray) (w : World) : Calls Tryz.prog 15 #[.string id] w fun e w' => e = .returned (.bool (decide (1 ≤ id.size ∧ id.size ≤ 8))) ∧ w = w' := by
  by_cases h : 1 ≤ (id.size : Int) ∧ (id.size : Int) ≤ 8
  · have hd : decide (1 ≤ id.size ∧ id.size ≤ 8) = true := decide_eq_true (by omega)
    rw [hd]
    go_enter Tryz.func15, Tryz.ntmps15
    go_wp2_with fail
    refine (within_yes _ _ _ _ h.1 h.2).mono ?_
    rintro e w' ⟨rfl, rfl⟩
    go_wp2
    go_ret
    exact ⟨rfl, rfl⟩
  · have hd : decide (1 ≤ id.size ∧ id.size ≤ 8) = false := decide_eq_false (by omega)
    rw [hd]
    go_enter Tryz.func15, Tryz.ntmps15
    go_wp2_with fail
    refine (within_no _ _ _ _ h).mono ?_
    rintro e w' ⟨rfl, rfl⟩
    go_wp2
    go_ret
    exact ⟨rfl, rfl⟩
set_option maxHeartbeats 400000 in
theorem weightOK_is (x : Int) (w : World) : Calls Tryz.prog 16 #[.int .i64 x] w fun e w' => e = .returned (.bool (decide (0 ≤ x ∧ x ≤ 6))) ∧ w = w' := by
  by_cases h : 0 ≤ x ∧ x ≤ 6
  · have hd : decide (0 ≤ x ∧ x ≤ 6) = true := decide_eq_true h
    rw [hd]
    go_enter Tryz.func16, Tryz.ntmps16
    go_wp2_with fail
    refine (within_yes _ _ _ _ h.1 h.2).mono ?_
    rintro e w' ⟨rfl, rfl⟩
    go_wp2
    go_ret
    exact ⟨rfl, rfl⟩
  · have hd : decide (0 ≤ x ∧ x ≤ 6) = false := decide_eq_false h
    rw [hd]
    go_enter Tryz.func16, Tryz.ntmps16
    go_wp2_with fail
    refine (within_no _ _ _ _ h).mono ?_
    rintro e w' ⟨rfl, rfl⟩
    go_wp2
    go_ret
    exact ⟨rfl, rfl⟩

theorem RSvc.same {M : List Nat} {q : Nat} {c : Cfg} {B : List BK} {g err : Int} {w w' : World} (hS : SvcAt M q c B g w) (hb : Bel w w') : RSvc M q c B g err w (.returned (.int .i64 err)) w' := ⟨rfl, But.of_bel hb, hS.later hb⟩

set_option maxRecDepth 100000 in
set_option maxHeartbeats 400000 in
theorem add_is (M : List Nat) (q : Nat) (c : Cfg) (B : List BK) (g : Int) (id : ByteArray) (n : Int) (w : World) (hS : SvcAt M q c B g w) (hM : ∀ k ∈ M, k < w.heap.size) (hc : c.OK) (hB : Good B) (hg0 : 0 ≤ g) (hg1 : g ≤ 4611686018427387904) :
    Calls Tryz.prog 10 #[.pointer (some ⟨q, 0, none⟩), .string id, .int .i64 n] w (RSvc M q c (addB B id n) (if addE B id n = 0 then g + 1 else g) (addE B id n) w) := by
  have hGood := hB.add id n
  have h8 := hB.1.1
  have hS' := hS
  obtain ⟨hm, vP, vE, ⟨⟨h0, h1, h2, h3, h4, h5⟩, h6, h7⟩, hg, hF, hPm, hEm⟩ := hS'
  have hP := hPm.unmask
  have hpl := place_is B vP id w hP (by omega)
  by_cases hn : id.size < 1 ∨ 8 < id.size
  · have he : addE B id n = 2 := by unfold addE; rw [if_pos hn]
    unfold addB
    rw [he]
    simp only [show ((2 : Int) = 0) = False from by simp, if_false]
    have hnm := nameOK_is id w
    rw [show decide (1 ≤ id.size ∧ id.size ≤ 8) = false from decide_eq_false (by omega)] at hnm
    go_enter Tryz.func10, Tryz.ntmps10
    go_wp2_with fail
    refine hnm.mono ?_
    rintro e w' ⟨rfl, rfl⟩
    go_wp2
    go_ret
    exact RSvc.same hS (Bel.refl _)
  have hnm := nameOK_is id w
  rw [show decide (1 ≤ id.size ∧ id.size ≤ 8) = true from decide_eq_true (by omega)] at hnm
  have hwt := weightOK_is n w
  by_cases hw : n < 0 ∨ 6 < n
  · have he : addE B id n = 5 := by unfold addE; rw [if_neg hn, if_pos hw]
    unfold addB
    rw [he]
    simp only [show ((5 : Int) = 0) = False from by simp, if_false]
    rw [show decide (0 ≤ n ∧ n ≤ 6) = false from decide_eq_false (by omega)] at hwt
    go_enter Tryz.func10, Tryz.ntmps10
    go_wp2_with fail
    refine hnm.mono ?_
    rintro e w' ⟨rfl, rfl⟩
    go_wp2_with fail
    refine hwt.mono ?_
    rintro e w' ⟨rfl, rfl⟩
    go_wp2
    go_ret
    exact RSvc.same hS (Bel.refl _)
  rw [show decide (0 ≤ n ∧ n ≤ 6) = true from decide_eq_true (by omega)] at hwt
  unfold RPlace placeF at hpl
  by_cases ht : atName id B < B.length
  · have he : addE B id n = 3 := by unfold addE; rw [if_neg hn, if_neg hw, if_pos ht]
    unfold addB
    rw [he]
    simp only [show ((3 : Int) = 0) = False from by simp, if_false]
    rw [if_pos ht] at hpl
    have HS := Hid.mk hS
    clear hS hGood hB hPm hEm hP hF
    generalize atName id B = p at *
    go_enter Tryz.func10, Tryz.ntmps10
    go_wp2_with fail
    refine hnm.mono ?_
    rintro e w' ⟨rfl, rfl⟩
    go_wp2_with fail
    refine hwt.mono ?_
    rintro e w' ⟨rfl, rfl⟩
    go_wp2_with fail
    refine hpl.mono ?_
    rintro e w1 ⟨rfl, hb1⟩
    go_wp2
    go_ret
    exact RSvc.same HS.out hb1
  rw [if_neg ht] at hpl
  obtain ⟨aP, capP, rfl, -⟩ := hP.open
  by_cases hl : 8 ≤ B.length
  · have he : addE B id n = 6 := by unfold addE; rw [if_neg hn, if_neg hw, if_neg ht, if_pos hl]
    unfold addB
    rw [he]
    simp only [show ((6 : Int) = 0) = False from by simp, if_false]
    have HS := Hid.mk hS
    clear hS hGood hB hPm hEm hP hF
    have hd : decide ((B.length : Int) ≥ 8) = true := decide_eq_true (by omega)
    go_enter Tryz.func10, Tryz.ntmps10
    go_wp2_with fail
    refine hnm.mono ?_
    rintro e w' ⟨rfl, rfl⟩
    go_wp2_with fail
    refine hwt.mono ?_
    rintro e w' ⟨rfl, rfl⟩
    go_wp2_with fail
    refine hpl.mono ?_
    rintro e w1 ⟨rfl, hb1⟩
    have k6 := hb1.cell h6
    go_wp2
    go_ret
    exact RSvc.same HS.out hb1
  have he : addE B id n = 0 := by unfold addE; rw [if_neg hn, if_neg hw, if_neg ht, if_neg hl]
  have hin : addB B id n = ins (id, n) B := by unfold addB; rw [if_pos he]
  rw [hin] at hGood ⊢
  rw [he]
  simp only [if_true]
  have hd : decide ((B.length : Int) ≥ 8) = false := decide_eq_false (by omega)
  have HS := Hid.mk hS
  have HP := Hid.mk hP
  have HG := Hid.mk hGood
  clear hS hGood hB hPm hEm hP hF he hin
  generalize hB' : ins (id, n) B = B' at *
  go_enter Tryz.func10, Tryz.ntmps10
  go_wp2_with fail
  refine hnm.mono ?_
  rintro e w' ⟨rfl, rfl⟩
  go_wp2_with fail
  refine hwt.mono ?_
  rintro e w' ⟨rfl, rfl⟩
  go_wp2_with fail
  refine hpl.mono ?_
  rintro e w1 ⟨rfl, hb1⟩
  have k6 := hb1.cell h6
  have hwi := with_is B (.slice aP B.length capP) (id, n) w1 (HP.out.later hb1) (by omega)
  rw [hB'] at hwi
  go_wp2_with fail
  refine hwi.mono ?_
  rintro e w2 ⟨v2, rfl, hb2, hO2⟩
  have hb12 := hb1.trans hb2
  have hpu := publish_is M q c B B' g v2 w2 (HS.out.later hb12) (fun k hk => Nat.lt_of_lt_of_le (hM k hk) hb12.size) hc hO2.pool HG.out.1 hg0 hg1
  clear hwi hO2
  go_wp2_with fail
  refine hpu.mono ?_
  rintro e w3 ⟨rfl, hbt, hS3⟩
  go_wp2
  go_ret
  exact ⟨rfl, (But.of_bel hb12).trans hbt, hS3⟩

set_option maxRecDepth 100000 in
set_option maxHeartbeats 400000 in
theorem remove_is (M : List Nat) (q : Nat) (c : Cfg) (B : List BK) (g : Int) (id : ByteArray) (w : World) (hS : SvcAt M q c B g w) (hM : ∀ k ∈ M, k < w.heap.size) (hc : c.OK) (hB : Good B) (hg0 : 0 ≤ g) (hg1 : g ≤ 4611686018427387904) :
    Calls Tryz.prog 49 #[.pointer (some ⟨q, 0, none⟩), .string id] w (RSvc M q c (remB B id) (if remE B id = 0 then g + 1 else g) (remE B id) w) := by
  have hGood := hB.rem id
  have h8 := hB.1.1
  have hS' := hS
  obtain ⟨hm, vP, vE, ⟨⟨h0, h1, h2, h3, h4, h5⟩, h6, h7⟩, hg, hF, hPm, hEm⟩ := hS'
  have hP := hPm.unmask
  have hpl := place_is B vP id w hP (by omega)
  unfold RPlace placeF at hpl
  by_cases ht : atName id B < B.length
  rotate_left
  · have he : remE B id = 4 := by unfold remE; rw [if_neg ht]
    unfold remB
    rw [he]
    simp only [show ((4 : Int) = 0) = False from by simp, if_false]
    rw [if_neg ht] at hpl
    have HS := Hid.mk hS
    clear hS hGood hB hPm hEm hP hF
    go_enter Tryz.func49, Tryz.ntmps49
    go_wp2_with fail
    refine hpl.mono ?_
    rintro e w1 ⟨rfl, hb1⟩
    go_wp2
    go_ret
    exact RSvc.same HS.out hb1
  have he : remE B id = 0 := by unfold remE; rw [if_pos ht]
  have hin : remB B id = B.eraseIdx (atName id B) := by unfold remB; rw [if_pos he]
  rw [hin] at hGood ⊢
  rw [he]
  simp only [if_true]
  rw [if_pos ht] at hpl
  have HS := Hid.mk hS
  have HP := Hid.mk hP
  have HG := Hid.mk hGood
  clear hS hGood hB hPm hEm hP hF he hin
  generalize atName id B = p at *
  generalize hB' : B.eraseIdx p = B' at *
  go_enter Tryz.func49, Tryz.ntmps49
  go_wp2_with fail
  refine hpl.mono ?_
  rintro e w1 ⟨rfl, hb1⟩
  have k6 := hb1.cell h6
  have hwi := without_is B vP p w1 (HP.out.later hb1) (by omega) ht
  rw [hB'] at hwi
  go_wp2_with fail
  refine hwi.mono ?_
  rintro e w2 ⟨v2, rfl, hb2, hO2⟩
  have hb12 := hb1.trans hb2
  have hpu := publish_is M q c B B' g v2 w2 (HS.out.later hb12) (fun k hk => Nat.lt_of_lt_of_le (hM k hk) hb12.size) hc hO2.pool HG.out.1 hg0 hg1
  clear hwi hO2
  go_wp2_with fail
  refine hpu.mono ?_
  rintro e w3 ⟨rfl, hbt, hS3⟩
  go_wp2
  go_ret
  exact ⟨rfl, (But.of_bel hb12).trans hbt, hS3⟩

set_option maxRecDepth 100000 in
set_option maxHeartbeats 400000 in
theorem set_is (M : List Nat) (q : Nat) (c : Cfg) (B : List BK) (g : Int) (id : ByteArray) (n : Int) (w : World) (hS : SvcAt M q c B g w) (hM : ∀ k ∈ M, k < w.heap.size) (hc : c.OK) (hB : Good B) (hg0 : 0 ≤ g) (hg1 : g ≤ 4611686018427387904) :
    Calls Tryz.prog 50 #[.pointer (some ⟨q, 0, none⟩), .string id, .int .i64 n] w (RSvc M q c (setB B id n) (if setE B id n = 0 then g + 1 else g) (setE B id n) w) := by
  have hGood := hB.set id n
  have h8 := hB.1.1
  have hS' := hS
  obtain ⟨hm, vP, vE, ⟨⟨h0, h1, h2, h3, h4, h5⟩, h6, h7⟩, hg, hF, hPm, hEm⟩ := hS'
  have hP := hPm.unmask
  have hpl := place_is B vP id w hP (by omega)
  unfold RPlace placeF at hpl
  have hwt := weightOK_is n w
  by_cases hw : n < 0 ∨ 6 < n
  · have he : setE B id n = 5 := by unfold setE; rw [if_pos hw]
    unfold setB
    rw [he]
    simp only [show ((5 : Int) = 0) = False from by simp, if_false]
    rw [show decide (0 ≤ n ∧ n ≤ 6) = false from decide_eq_false (by omega)] at hwt
    go_enter Tryz.func50, Tryz.ntmps50
    go_wp2_with fail
    refine hwt.mono ?_
    rintro e w' ⟨rfl, rfl⟩
    go_wp2
    go_ret
    exact RSvc.same hS (Bel.refl _)
  rw [show decide (0 ≤ n ∧ n ≤ 6) = true from decide_eq_true (by omega)] at hwt
  by_cases ht : atName id B < B.length
  rotate_left
  · have he : setE B id n = 4 := by unfold setE; rw [if_neg hw, if_neg ht]
    unfold setB
    rw [he]
    simp only [show ((4 : Int) = 0) = False from by simp, if_false]
    rw [if_neg ht] at hpl
    have HS := Hid.mk hS
    clear hS hGood hB hPm hEm hP hF
    go_enter Tryz.func50, Tryz.ntmps50
    go_wp2_with fail
    refine hwt.mono ?_
    rintro e w' ⟨rfl, rfl⟩
    go_wp2_with fail
    refine hpl.mono ?_
    rintro e w1 ⟨rfl, hb1⟩
    go_wp2
    go_ret
    exact RSvc.same HS.out hb1
  have he : setE B id n = 0 := by unfold setE; rw [if_neg hw, if_pos ht]
  have hin : setB B id n = B.set (atName id B) (B[atName id B].1, n) := by unfold setB; rw [if_pos he, atName_is ht]
  rw [hin] at hGood ⊢
  rw [he]
  simp only [if_true]
  rw [if_pos ht] at hpl
  have HS := Hid.mk hS
  have HP := Hid.mk hP
  have HG := Hid.mk hGood
  clear hS hGood hB hPm hEm hP hF he hin
  generalize atName id B = p at *
  generalize hB' : B.set p (B[p].1, n) = B' at *
  go_enter Tryz.func50, Tryz.ntmps50
  go_wp2_with fail
  refine hwt.mono ?_
  rintro e w' ⟨rfl, rfl⟩
  go_wp2_with fail
  refine hpl.mono ?_
  rintro e w1 ⟨rfl, hb1⟩
  have k6 := hb1.cell h6
  have hwi := weighed_is B vP p n w1 (HP.out.later hb1) (by omega) ht
  rw [hB'] at hwi
  go_wp2_with fail
  refine hwi.mono ?_
  rintro e w2 ⟨v2, rfl, hb2, hO2⟩
  have hb12 := hb1.trans hb2
  have hpu := publish_is M q c B B' g v2 w2 (HS.out.later hb12) (fun k hk => Nat.lt_of_lt_of_le (hM k hk) hb12.size) hc hO2.pool HG.out.1 hg0 hg1
  clear hwi hO2
  go_wp2_with fail
  refine hpu.mono ?_
  rintro e w3 ⟨rfl, hbt, hS3⟩
  go_wp2
  go_ret
  exact ⟨rfl, (But.of_bel hb12).trans hbt, hS3⟩

set_option maxRecDepth 100000 in
set_option maxHeartbeats 400000 in
theorem gen_is (M : List Nat) (q : Nat) (c : Cfg) (B : List BK) (g : Int) (w : World) (hS : SvcAt M q c B g w) :
    Calls Tryz.prog 55 #[.pointer (some ⟨q, 0, none⟩)] w fun e w' => e = .returned (.int .i64 g) ∧ w = w' := by
  obtain ⟨-, vP, vE, -, hg, -⟩ := hS
  go_enter Tryz.func55, Tryz.ntmps55
  go_wp2
  go_ret
  exact ⟨rfl, rfl⟩

set_option maxRecDepth 100000 in
set_option maxHeartbeats 400000 in
theorem slots_is (M : List Nat) (q : Nat) (c : Cfg) (B : List BK) (g : Int) (w : World) (hS : SvcAt M q c B g w) (hE : (mkF c B).length ≤ 65536) :
    Calls Tryz.prog 11 #[.pointer (some ⟨q, 0, none⟩)] w (RTexts w (namesF B (mkF c B))) := by
  obtain ⟨-, vP, vE, hT, hg, -, hPm, hEm⟩ := hS
  have hn := names_is q c vP vE B (mkF c B) w hT hPm.unmask hEm.unmask hE
  generalize namesF B (mkF c B) = NL at *
  clear hT hPm hEm
  go_enter Tryz.func11, Tryz.ntmps11
  go_wp2_with fail
  refine hn.mono ?_
  rintro e w1 ⟨v, rfl, hb, hO, hnil⟩
  go_wp2
  go_ret
  exact ⟨_, rfl, hb, hO, hnil⟩

/-- whose a key is at a service -/
def localF (c : Cfg) (B : List BK) (g : Int) (k : ByteArray) : ByteArray × Int := if g = 0 then (ByteArray.empty, 7) else ownerF c B k

set_option maxRecDepth 100000 in
set_option maxHeartbeats 400000 in
theorem local_is (M : List Nat) (q : Nat) (c : Cfg) (B : List BK) (g : Int) (k : ByteArray) (w : World) (hS : SvcAt M q c B g w) (hE : (mkF c B).length ≤ 65536) (hc : c.OK) (hk : k.size ≤ 4611686018427386000) :
    Calls Tryz.prog 57 #[.pointer (some ⟨q, 0, none⟩), .string k] w (RStrErr w (localF c B g k)) := by
  obtain ⟨-, vP, vE, hT, hg, -, hPm, hEm⟩ := hS
  have hn := owner_is q c vP vE B (mkF c B) k w hT hPm.unmask hEm.unmask hE hc hk
  rw [← ownerF_eq] at hn
  unfold localF
  generalize ownerF c B k = X at *
  obtain ⟨x1, x2⟩ := X
  clear hT hPm hEm
  by_cases hz : g = 0
  · subst hz
    rw [if_pos rfl]
    go_enter Tryz.func57, Tryz.ntmps57
    go_wp2
    go_ret2
    exact ⟨rfl, Bel.refl _⟩
  · have hzb : (g == 0) = false := by rw [beq_eq_false_iff_ne]; exact hz
    rw [if_neg hz]
    go_enter Tryz.func57, Tryz.ntmps57
    go_wp2_with fail
    refine hn.mono ?_
    rintro e w1 ⟨rfl, hb⟩
    go_wp2
    go_ret2
    exact ⟨rfl, hb⟩

end Go.Proofs.YtgfildmmcbjpnabGreat

namespace Go.Proofs.YtgfildmmcbjpnabGreat
open Go.RowKit

theorem mkF_nil (c : Cfg) : mkF c [] = [] := by rw [mkF, if_pos]; simp [wSum]
def RNew (c : Cfg) (w : World) (e : Ending) (w' : World) : Prop := ∃ q, e = .returned (.tuple #[.pointer (some ⟨q, 0, none⟩), .int .i64 0]) ∧ Bel w w' ∧ w.heap.size ≤ q ∧ q < w'.heap.size ∧ ∀ M : List Nat, q ∈ M → SvcAt M q c [] 0 w'

set_option maxRecDepth 100000 in
set_option maxHeartbeats 400000 in
theorem new_is (c : Cfg) (w : World) (hc : c.OK) :
    Calls Tryz.prog 9 #[.agg c.cells] w (RNew c w) := by
  have hcf := fun wx => config_any c wx
  unfold RNew
  have hmk := mkF_nil c
  have HC := Hid.mk hc
  unfold SvcAt
  rw [hmk]
  unfold TabAt
  obtain ⟨alg, slots, points, probes, key, formats⟩ := c
  simp only [Cfg.cells] at *
  clear hc hmk
  go_enter Tryz.func9, Tryz.ntmps9
  go_wp2_with fail
  refine (hcf _).mono ?_
  rintro e w1 ⟨x, rfl, hb1, hx⟩
  have hxt : x = true := hx.2 HC.out
  subst hxt
  have hb0 : Bel w w1 := (Bel.step_alloc (Bel.refl w) _).trans hb1
  have k0 : w1.cell? ⟨w.heap.size, 0, none⟩ = some (.int .i64 alg) := hb1.cell (by simp)
  have k1 : w1.cell? ⟨w.heap.size, 1, none⟩ = some (.int .i64 slots) := hb1.cell (by simp)
  have k2 : w1.cell? ⟨w.heap.size, 2, none⟩ = some (.int .i64 points) := hb1.cell (by simp)
  have k3 : w1.cell? ⟨w.heap.size, 3, none⟩ = some (.int .i64 probes) := hb1.cell (by simp)
  have k4 : w1.cell? ⟨w.heap.size, 4, none⟩ = some (.string key) := hb1.cell (by simp)
  have k5 : w1.cell? ⟨w.heap.size, 5, none⟩ = some (.int .i64 formats) := hb1.cell (by simp)
  clear hx hb1 hcf
  go_wp2
  go_ret2
  refine ⟨w1.heap.size, rfl, hb0.step_alloc _, hb0.size, by simp, fun M hM => ⟨hM, .slice none 0 0, .slice none 0 0, ⟨⟨by simp, by simp, by simp, by simp, by simp, by simp⟩, by simp, by simp⟩, by simp, ⟨by simp, by simp, by simp, by simp, by simp, by simp, by simp, by simp, by simp⟩, Or.inl ⟨rfl, rfl, rfl⟩, Or.inl ⟨rfl, rfl, rfl⟩⟩⟩

end Go.Proofs.YtgfildmmcbjpnabGreat
