import Derived.Test.YtgfildmmcbjpnabProg
import Derived.WalkKit
import Derived.WalkSpells
import Derived.WalkLawsBesides
import Derived.BigQuiet
import Derived.Deep.QuietTactic
import Derived.Laws.BitsAllLaws
import Derived.Deep.RegionWith
import Derived.Deep.DeepCutAuto
import Derived.Deep.LoopGhost
namespace Go.Proofs.Ytgfildmmcbjpnab
open Go.RowKit

/-- Nothing that was there has turned. -/
def Bel (w w' : World) : Prop := Below w.heap.size w w'
theorem Bel.refl (w : World) : Bel w w := Below.refl _ _
theorem Bel.below {a b : World} (h : Bel a b) : Below a.heap.size a b := h
theorem Bel.trans {a b c : World} (h : Bel a b) (k : Bel b c) : Bel a c := Below.trans h.below (k.below.mono h.below.size)
theorem Bel.step_alloc {a w : World} (h : Bel a w) (o : Obj) : Bel a (w.alloc o) := h.below.alloc h.below.size o
theorem Bel.step_drew {a w : World} (h : Bel a w) : Bel a w.drew := h.below.drew
theorem Bel.step_drewN {a w : World} (h : Bel a w) (n : Nat) : Bel a (w.drewN n) := below_drewN h.below n
theorem Bel.size {a w : World} (h : Bel a w) : a.heap.size ≤ w.heap.size := h.below.size
theorem Bel.block {a w : World} (h : Bel a w) : ∀ k, k < a.heap.size → w.heap[k]? = a.heap[k]? := h.below.block
theorem Bel.step_set {a w : World} (h : Bel a w) {p : Addr} (hp : a.heap.size ≤ p.block) (u : Value) : Bel a (w.setCell p u) := h.below.setCell hp u
theorem Bel.grown {a w w' : World} {row : Option Nat} (h : Bel a w) (hg : w.grownBy w' row) (hr : ∀ k, row = some k → a.heap.size ≤ k) : Bel a w' := h.below.grown hg h.below.size hr
theorem Bel.of_below {B : Nat} {a w : World} (h : Below B a w) (hB : a.heap.size ≤ B) : Bel a w := h.mono hB
/-- what a walk uses by itself behind a call: old cells, old marks. -/
theorem Bel.cells {a w : World} (h : Bel a w) : (∀ b o, b < a.heap.size → w.cell? ⟨b, o, none⟩ = a.cell? ⟨b, o, none⟩) ∧ (∀ b o, b < a.heap.size → w.frozen? ⟨b, o, none⟩ = a.frozen? ⟨b, o, none⟩) :=
  ⟨fun b o hb => h.below.cell (p := ⟨b, o, none⟩) hb, fun b o hb => h.below.frozen (p := ⟨b, o, none⟩) hb⟩
theorem Bel.cellsTo {a w : World} (h : Bel a w) (N : Nat) (hN : N ≤ a.heap.size) : (∀ b o, b < N → w.cell? ⟨b, o, none⟩ = a.cell? ⟨b, o, none⟩) ∧ (∀ b o, b < N → w.frozen? ⟨b, o, none⟩ = a.frozen? ⟨b, o, none⟩) :=
  ⟨fun b o hb => h.below.cell (p := ⟨b, o, none⟩) (Nat.lt_of_lt_of_le hb hN), fun b o hb => h.below.frozen (p := ⟨b, o, none⟩) (Nat.lt_of_lt_of_le hb hN)⟩
theorem Bel.cell {a w : World} (h : Bel a w) {p : Addr} {v : Value} (hc : a.cell? p = some v) : w.cell? p = some v := cell_later h.below hc
theorem ret_int {k : IntKind} {a b : Int} (h : a = b) : Ending.returned (.int k a) = .returned (.int k b) := by rw [h]

def I64 (x : Int) : Prop := -9223372036854775808 ≤ x ∧ x ≤ 9223372036854775807
/-- A word's halves. -/
def W32 (a : Int) : Prop := 0 ≤ a ∧ a < 4294967296
theorem W32.lo {a : Int} (h : W32 a) : 0 ≤ a := h.1
theorem W32.hi {a : Int} (h : W32 a) : a < 4294967296 := h.2

/-- What calls come to: one int, one bool, a text, a word; nothing old turned. -/
def RInt (w : World) (f : Int → Prop) (e : Ending) (w' : World) : Prop := ∃ x, e = .returned (.int .i64 x) ∧ Bel w w' ∧ f x
def RBool (w : World) (f : Bool → Prop) (e : Ending) (w' : World) : Prop := ∃ x, e = .returned (.bool x) ∧ Bel w w' ∧ f x
def RStr (w : World) (f : ByteArray → Prop) (e : Ending) (w' : World) : Prop := ∃ x, e = .returned (.string x) ∧ Bel w w' ∧ f x
def RWord (w : World) (f : Int → Int → Prop) (e : Ending) (w' : World) : Prop := ∃ x y, e = .returned (.agg #[.int .i64 x, .int .i64 y]) ∧ Bel w w' ∧ W32 x ∧ W32 y ∧ f x y
def RStrBool (w : World) (f : ByteArray → Bool → Prop) (e : Ending) (w' : World) : Prop := ∃ x y, e = .returned (.tuple #[.string x, .bool y]) ∧ Bel w w' ∧ f x y
def Any {α : Type} (_ : α) : Prop := True
def Any2 {α β : Type} (_ : α) (_ : β) : Prop := True
def Upto (n : Int) (x : Int) : Prop := 0 ≤ x ∧ x < n

/-- A local word's box, among what lies from base on. -/
def BoxW (base : Nat) (w : World) (v : Value) : Prop := ∃ (p : Nat) (x y : Int), v = .pointer (some ⟨p, 0, none⟩) ∧ base ≤ p ∧ w.cell? ⟨p, 0, none⟩ = some (.int .i64 x) ∧ w.cell? ⟨p, 1, none⟩ = some (.int .i64 y) ∧ w.frozen? ⟨p, 0, none⟩ = false ∧ w.frozen? ⟨p, 1, none⟩ = false ∧ W32 x ∧ W32 y
theorem Bel.frozen {a w : World} (h : Bel a w) {p : Addr} {v : Value} (hc : a.cell? p = some v) (hf : a.frozen? p = false) : w.frozen? p = false := by
  rw [h.below.frozen (World.block_lt_of_cell? a p hc)]; exact hf
theorem BoxW.later {B : Nat} {a w : World} {v : Value} (k : BoxW B a v) (h : Bel a w) : BoxW B w v := by
  obtain ⟨p, x, y, rfl, hp, c0, c1, f0, f1, hx, hy⟩ := k
  exact ⟨p, x, y, rfl, hp, h.cell c0, h.cell c1, h.frozen c0 f0, h.frozen c1 f1, hx, hy⟩
theorem cell_set {w : World} {a b : Addr} {v u : Value} (h : w.cell? a = some v) : (w.setCell b u).cell? a = some v ∨ (w.setCell b u).cell? a = some u := by
  obtain ⟨u', hu⟩ := cell?_setCell_some (w := w) (p := b) (x := u) (q := a) (v := v) h
  simp only [World.cell?, World.setCell] at h hu ⊢
  rw [Array.getElem?_modify] at hu ⊢
  by_cases hb : b.block = a.block
  · rw [if_pos hb] at hu ⊢
    cases hh : w.heap[a.block]? with
    | none => rw [hh] at h; cases h
    | some o =>
      rw [hh] at h
      cases o <;> simp at h ⊢
      rename_i c e f
      by_cases hs : b.spot.isSome
      · simp [hs]; exact Or.inl h
      · simp [hs, Array.getElem?_setIfInBounds]
        by_cases ho : b.off = a.off
        · have hlt : a.off < c.size := (Array.getElem?_eq_some_iff.1 h.2).1
          simp [ho, hlt, h.1]
        · simp [ho]; exact Or.inl h
  · rw [if_neg hb]; exact Or.inl h
theorem frozen_set (w : World) (a b : Addr) (u : Value) : (w.setCell b u).frozen? a = w.frozen? a := by simp
theorem set_same {w : World} {b o : Nat} {v u : Value} (h : w.cell? ⟨b, o, none⟩ = some v) : (w.setCell ⟨b, o, none⟩ u).cell? ⟨b, o, none⟩ = some u := by
  simp only [World.cell?, World.setCell] at h ⊢
  rw [Array.getElem?_modify, if_pos rfl]
  cases hh : w.heap[b]? with
  | none => rw [hh] at h; cases h
  | some x =>
    rw [hh] at h
    cases x <;> simp at h ⊢
    have hlt := (Array.getElem?_eq_some_iff.1 h).1
    simp [hlt]
theorem set_other {w : World} {a b : Addr} {u : Value} (h : b.block ≠ a.block ∨ b.off ≠ a.off) : (w.setCell b u).cell? a = w.cell? a := by
  simp only [World.cell?, World.setCell]
  rw [Array.getElem?_modify]
  by_cases hb : b.block = a.block
  · rw [if_pos hb]
    cases hh : w.heap[a.block]? with
    | none => rfl
    | some x =>
      cases x <;> simp
      rename_i c e f
      by_cases ha : a.spot.isSome
      · simp [ha]
      · by_cases hs : b.spot.isSome
        · simp [hs]
        · have hne : b.off ≠ a.off := by
            rcases h with h | h
            · exact absurd hb h
            · exact h
          simp [ha, hs, hne]
  · rw [if_neg hb]
theorem BoxW.stored {B : Nat} {w : World} {p : Nat} {u0 u1 : Value} (hp : B ≤ p) (h0 : w.cell? ⟨p, 0, none⟩ = some u0) (h1 : w.cell? ⟨p, 1, none⟩ = some u1) (f0 : w.frozen? ⟨p, 0, none⟩ = false) (f1 : w.frozen? ⟨p, 1, none⟩ = false) {x y : Int} (hx : W32 x) (hy : W32 y) :
    BoxW B ((w.setCell ⟨p, 0, none⟩ (.int .i64 x)).setCell ⟨p, 1, none⟩ (.int .i64 y)) (.pointer (some ⟨p, 0, none⟩)) := by
  refine ⟨p, x, y, rfl, hp, ?_, ?_, by rw [frozen_set, frozen_set]; exact f0, by rw [frozen_set, frozen_set]; exact f1, hx, hy⟩
  · rw [set_other (by simp)]; exact set_same h0
  · exact set_same (v := u1) (by rw [set_other (by simp)]; exact h1)
theorem BoxW.set {B : Nat} {w : World} {v : Value} (k : BoxW B w v) (a : Addr) {z : Int} (hz : W32 z) : BoxW B (w.setCell a (.int .i64 z)) v := by
  obtain ⟨p, x, y, rfl, hp, c0, c1, f0, f1, hx, hy⟩ := k
  rcases cell_set (b := a) (u := .int .i64 z) c0 with d0 | d0 <;> rcases cell_set (b := a) (u := .int .i64 z) c1 with d1 | d1
  · exact ⟨p, x, y, rfl, hp, d0, d1, by rw [frozen_set]; exact f0, by rw [frozen_set]; exact f1, hx, hy⟩
  · exact ⟨p, x, z, rfl, hp, d0, d1, by rw [frozen_set]; exact f0, by rw [frozen_set]; exact f1, hx, hz⟩
  · exact ⟨p, z, y, rfl, hp, d0, d1, by rw [frozen_set]; exact f0, by rw [frozen_set]; exact f1, hz, hy⟩
  · exact ⟨p, z, z, rfl, hp, d0, d1, by rw [frozen_set]; exact f0, by rw [frozen_set]; exact f1, hz, hz⟩

theorem i64_xor_nat (a b : Nat) (ha : a < 4294967296) (hb : b < 4294967296) : bits .xor .i64 (a : Int) (b : Int) = ((a ^^^ b : Nat) : Int) := by
  have hx : a ^^^ b < 2 ^ 32 := Nat.xor_lt_two_pow (by omega) (by omega)
  show IntKind.i64.wrap ((BitVec.ofInt 64 (a : Int) ^^^ BitVec.ofInt 64 (b : Int)).toNat : Int) = _
  rw [BitVec.toNat_xor, ofInt_u64 a (by omega), ofInt_u64 b (by omega), IntKind.wrap_i64]
  omega
theorem i64_xor (a b : Int) (h1 : W32 a) (h2 : W32 b) : bits .xor .i64 a b = ((a.toNat ^^^ b.toNat : Nat) : Int) := by
  obtain ⟨A, rfl⟩ := Int.eq_ofNat_of_zero_le h1.1
  obtain ⟨B, rfl⟩ := Int.eq_ofNat_of_zero_le h2.1
  have := h1.2
  have := h2.2
  simpa using i64_xor_nat A B (by omega) (by omega)
theorem W32.xor {a b : Int} (h1 : W32 a) (h2 : W32 b) : W32 (bits .xor .i64 a b) := by
  rw [i64_xor a b h1 h2]
  obtain ⟨A, rfl⟩ := Int.eq_ofNat_of_zero_le h1.1
  obtain ⟨B, rfl⟩ := Int.eq_ofNat_of_zero_le h2.1
  have h3 := h1.2
  have h4 := h2.2
  have hx : A ^^^ B < 2 ^ 32 := Nat.xor_lt_two_pow (by omega) (by omega)
  simp only [Int.toNat_natCast]
  exact ⟨by omega, by omega⟩
theorem i64_and_nat (a b : Nat) (ha : a < 9223372036854775808) (hb : b < 9223372036854775808) : bits .and .i64 (a : Int) (b : Int) = ((a &&& b : Nat) : Int) := by
  have hx : a &&& b < 2 ^ 63 := Nat.and_lt_two_pow _ (by omega)
  show IntKind.i64.wrap ((BitVec.ofInt 64 (a : Int) &&& BitVec.ofInt 64 (b : Int)).toNat : Int) = _
  rw [BitVec.toNat_and, ofInt_u64 a (by omega), ofInt_u64 b (by omega), IntKind.wrap_i64]
  omega

end Go.Proofs.Ytgfildmmcbjpnab

namespace Go.Proofs.Ytgfildmmcbjpnab
open Go.RowKit

/-- A slice from its block's head on, nil or with these cells. -/
def RowAt (w : World) (v : Value) (n : Nat) (cs : List Value) : Prop :=
  (v = .slice none 0 0 ∧ n = 0 ∧ cs = []) ∨ ∃ g cap, v = .slice (some ⟨g, 0, none⟩) n cap ∧ n ≤ cap ∧ g < w.heap.size ∧ ∀ j u, cs[j]? = some u → w.cell? ⟨g, j, none⟩ = some u
theorem RowAt.later {a w : World} {v : Value} {n : Nat} {cs : List Value} (h : RowAt a v n cs) (k : Bel a w) : RowAt w v n cs := by
  rcases h with h | ⟨g, cap, hv, hn, hg, hc⟩
  · exact Or.inl h
  · exact Or.inr ⟨g, cap, hv, hn, Nat.lt_of_lt_of_le hg k.size, fun j u hu => k.cell (hc j u hu)⟩
theorem RowAt.of_owns {w : World} {base : Nat} {e : TypeId} {size : Nat} {v : Value} {n : Nat} {xs : List Value} (h : w.ownsRow base e size v n xs) : RowAt w v n xs := by
  rcases h.2 with ⟨h1, h2⟩ | ⟨g, cap, cur, hv, hg, hh, r1, r2, r3, r4⟩
  · exact Or.inl ⟨h1, h2, by have := h.1; subst h2; simpa using this⟩
  · refine Or.inr ⟨g, cap, hv, r1, (Array.getElem?_eq_some_iff.1 hh).1, fun j u hu => ?_⟩
    have := h.cells (g := g) (by rw [hv]; rfl) j u hu
    have hadd : (⟨g, 0, none⟩ : Addr).add j = ⟨g, j, none⟩ := by unfold Addr.add; split <;> simp_all
    rwa [hadd] at this

abbrev BK := ByteArray × Int
/-- backends, as cells -/
def pcells (l : List BK) : List Value := l.flatMap fun b => [.string b.1, .int .i64 b.2]
theorem pcells_len (l : List BK) : (pcells l).length = l.length * 2 := by
  induction l with
  | nil => rfl
  | cons b l ih => simp only [pcells, List.flatMap_cons, List.length_append, List.length_cons, List.length_nil] at ih ⊢; omega
theorem pcells_get (l : List BK) (j : Nat) (h : j < l.length) : (pcells l)[j * 2]? = some (.string l[j].1) ∧ (pcells l)[j * 2 + 1]? = some (.int .i64 l[j].2) := by
  induction l generalizing j with
  | nil => simp at h
  | cons b l ih =>
    cases j with
    | zero => simp [pcells]
    | succ j =>
      obtain ⟨h1, h2⟩ := ih j (by simpa using h)
      have e1 : (j + 1) * 2 = j * 2 + 1 + 1 := by omega
      rw [e1]
      simp only [pcells, List.flatMap_cons, List.cons_append, List.nil_append, List.getElem?_cons_succ] at h1 h2 ⊢
      exact ⟨h1, h2⟩
/-- entries, as cells -/
abbrev EN := ByteArray × Int × Int
def ecells (l : List EN) : List Value := l.flatMap fun b => [.string b.1, .int .i64 b.2.1, .int .i64 b.2.2]
theorem ecells_len (l : List EN) : (ecells l).length = l.length * 3 := by
  induction l with
  | nil => rfl
  | cons b l ih => simp only [ecells, List.flatMap_cons, List.length_append, List.length_cons, List.length_nil] at ih ⊢; omega
theorem ecells_get (l : List EN) (j : Nat) (h : j < l.length) : (ecells l)[j * 3]? = some (.string l[j].1) ∧ (ecells l)[j * 3 + 1]? = some (.int .i64 l[j].2.1) ∧ (ecells l)[j * 3 + 2]? = some (.int .i64 l[j].2.2) := by
  induction l generalizing j with
  | nil => simp at h
  | cons b l ih =>
    cases j with
    | zero => simp [ecells]
    | succ j =>
      obtain ⟨h1, h2, h3⟩ := ih j (by simpa using h)
      have e1 : (j + 1) * 3 = j * 3 + 1 + 1 + 1 := by omega
      rw [e1]
      simp only [ecells, List.flatMap_cons, List.cons_append, List.nil_append, List.getElem?_cons_succ] at h1 h2 h3 ⊢
      exact ⟨h1, h2, h3⟩
def PoolAt (w : World) (v : Value) (l : List BK) : Prop := RowAt w v l.length (pcells l)
def EntsAt (w : World) (v : Value) (l : List EN) : Prop := RowAt w v l.length (ecells l)
theorem PoolAt.later {a w : World} {v : Value} {l : List BK} (h : PoolAt a v l) (k : Bel a w) : PoolAt w v l := RowAt.later h k
theorem EntsAt.later {a w : World} {v : Value} {l : List EN} (h : EntsAt a v l) (k : Bel a w) : EntsAt w v l := RowAt.later h k
theorem PoolAt.form {w : World} {v : Value} {l : List BK} (h : PoolAt w v l) : (v = .slice none 0 0 ∧ l = []) ∨ ∃ g cap, v = .slice (some ⟨g, 0, none⟩) l.length cap ∧ l.length ≤ cap ∧ g < w.heap.size ∧
    ∀ j (hj : j < l.length), w.cell? ⟨g, j * 2, none⟩ = some (.string l[j].1) ∧ w.cell? ⟨g, j * 2 + 1, none⟩ = some (.int .i64 l[j].2) := by
  rcases h with ⟨h1, h2, _⟩ | ⟨g, cap, hv, hn, hg, hc⟩
  · exact Or.inl ⟨h1, List.eq_nil_of_length_eq_zero h2⟩
  · exact Or.inr ⟨g, cap, hv, hn, hg, fun j hj => ⟨hc _ _ (pcells_get l j hj).1, hc _ _ (pcells_get l j hj).2⟩⟩
theorem EntsAt.form {w : World} {v : Value} {l : List EN} (h : EntsAt w v l) : (v = .slice none 0 0 ∧ l = []) ∨ ∃ g cap, v = .slice (some ⟨g, 0, none⟩) l.length cap ∧ l.length ≤ cap ∧ g < w.heap.size ∧
    ∀ j (hj : j < l.length), w.cell? ⟨g, j * 3, none⟩ = some (.string l[j].1) ∧ w.cell? ⟨g, j * 3 + 1, none⟩ = some (.int .i64 l[j].2.1) ∧ w.cell? ⟨g, j * 3 + 2, none⟩ = some (.int .i64 l[j].2.2) := by
  rcases h with ⟨h1, h2, _⟩ | ⟨g, cap, hv, hn, hg, hc⟩
  · exact Or.inl ⟨h1, List.eq_nil_of_length_eq_zero h2⟩
  · exact Or.inr ⟨g, cap, hv, hn, hg, fun j hj => ⟨hc _ _ (ecells_get l j hj).1, hc _ _ (ecells_get l j hj).2.1, hc _ _ (ecells_get l j hj).2.2⟩⟩

/-- a pool that can be -/
def PoolOK (l : List BK) : Prop := l.length ≤ 8 ∧ ∀ b ∈ l, 1 ≤ b.1.size ∧ b.1.size ≤ 8 ∧ 0 ≤ b.2 ∧ b.2 ≤ 6

/-- a configuration -/
structure Cfg where
  alg : Int
  slots : Int
  points : Int
  probes : Int
  key : ByteArray
  formats : Int
def Cfg.cells (c : Cfg) : Array Value := #[.int .i64 c.alg, .int .i64 c.slots, .int .i64 c.points, .int .i64 c.probes, .string c.key, .int .i64 c.formats]
/-- P3, but for the formats -/
def Cfg.OK (c : Cfg) : Prop := 1 ≤ c.alg ∧ c.alg ≤ 4 ∧ 3 ≤ c.slots ∧ c.slots ≤ 211 ∧ (∀ d : Nat, 2 ≤ d → (d : Int) < c.slots → c.slots % d ≠ 0) ∧ 1 ≤ c.points ∧ c.points ≤ 3 ∧ 1 ≤ c.probes ∧ c.probes ≤ 5 ∧ c.key.size = 16 ∧ 1 ≤ c.formats ∧ c.formats ≤ 3
/-- numbers that ints hold -/
def Cfg.Fit (c : Cfg) : Prop := I64 c.alg ∧ I64 c.slots ∧ I64 c.points ∧ I64 c.probes ∧ I64 c.formats ∧ c.key.size ≤ maxLen

def IsB (p : Prop) (x : Bool) : Prop := x = true ↔ p
theorem IsB.and {p q : Prop} {x y : Bool} (h : IsB p x) (k : IsB q y) : IsB (p ∧ q) (x && y) := by
  unfold IsB at *; simp [h, k]
theorem str_eq {a b : ByteArray} : (a.toList == b.toList) = true ↔ a = b := by
  rw [ByteArray.toList_eq, ByteArray.toList_eq]
  constructor
  · intro h; exact ByteArray.ext (Array.toList_inj.mp (by simpa using h))
  · intro h; subst h; simp
theorem str_ne {a b : ByteArray} (h : ¬ a = b) : (a.toList == b.toList) = false := by
  cases hh : a.toList == b.toList
  · rfl
  · exact absurd (str_eq.1 hh) h
/-- names, by their bytes -/
def less (a b : ByteArray) : Bool := Op.bytesLess a.toList b.toList
theorem bless_eq : ∀ (x y : List UInt8), Op.bytesLess x y = decide (x < y)
  | [], [] => by simp [Op.bytesLess]
  | _ :: _, [] => by simp [Op.bytesLess]
  | [], _ :: _ => by simp [Op.bytesLess]
  | a :: x, b :: y => by
    rw [Op.bytesLess, bless_eq x y]
    simp only [List.cons_lt_cons_iff]
    by_cases h1 : a < b
    · simp [h1]
    · by_cases h2 : a = b
      · simp [h2]
      · simp [h1, h2]
theorem less_iff {a b : ByteArray} : less a b = true ↔ a.toList < b.toList := by rw [less, bless_eq]; simp
theorem less_no {a b : ByteArray} : less a b = false ↔ ¬ a.toList < b.toList := by rw [less, bless_eq]; simp
theorem less_irrefl (a : ByteArray) : less a a = false := less_no.2 (List.lt_irrefl _)
theorem less_trans {a b c : ByteArray} (h : less a b = true) (k : less b c = true) : less a c = true := less_iff.2 (List.lt_trans (less_iff.1 h) (less_iff.1 k))
theorem less_asymm {a b : ByteArray} (h : less a b = true) : less b a = false := less_no.2 (fun k => List.lt_irrefl _ (List.lt_trans (less_iff.1 h) k))
theorem toList_inj {a b : ByteArray} (h : a.toList = b.toList) : a = b := by
  rw [ByteArray.toList_eq, ByteArray.toList_eq] at h
  exact ByteArray.ext (Array.toList_inj.mp h)
theorem less_total {a b : ByteArray} (h : less a b = false) (k : less b a = false) : a = b :=
  toList_inj (List.le_antisymm (List.not_lt.1 (less_no.1 k)) (List.not_lt.1 (less_no.1 h)))
/-- a pool by names, rising -/
def Srt (B : List BK) : Prop := B.Pairwise fun a b => less a.1 b.1 = true
/-- with one more -/
def ins (m : BK) : List BK → List BK
  | [] => [m]
  | b :: B => if less m.1 b.1 then m :: b :: B else b :: ins m B
theorem ins_len (m : BK) (B : List BK) : (ins m B).length = B.length + 1 := by
  induction B with
  | nil => rfl
  | cons b B ih => simp only [ins]; split <;> simp [ih]
theorem ins_mem {m x : BK} {B : List BK} : x ∈ ins m B ↔ x = m ∨ x ∈ B := by
  induction B with
  | nil => simp [ins]
  | cons b B ih =>
    simp only [ins]
    split
    · simp
    · simp only [List.mem_cons, ih]
      constructor
      · rintro (h | h | h)
        · exact Or.inr (Or.inl h)
        · exact Or.inl h
        · exact Or.inr (Or.inr h)
      · rintro (h | h | h)
        · exact Or.inr (Or.inl h)
        · exact Or.inl h
        · exact Or.inr (Or.inr h)
theorem ins_srt {m : BK} {B : List BK} (h : Srt B) (hn : ∀ b ∈ B, b.1 ≠ m.1) : Srt (ins m B) := by
  induction B with
  | nil => exact List.pairwise_singleton _ _
  | cons b B ih =>
    obtain ⟨h1, h2⟩ := List.pairwise_cons.1 h
    simp only [ins]
    cases hl : less m.1 b.1
    · simp only [Bool.false_eq_true, if_false]
      refine List.pairwise_cons.2 ⟨fun x hx => ?_, ih h2 (fun y hy => hn y (List.mem_cons_of_mem _ hy))⟩
      rcases ins_mem.1 hx with rfl | hx
      · cases hb : less b.1 x.1
        · exact absurd (less_total hb hl) (hn b List.mem_cons_self)
        · rfl
      · exact h1 x hx
    · simp only [if_true]
      refine List.pairwise_cons.2 ⟨fun x hx => ?_, h⟩
      rcases List.mem_cons.1 hx with rfl | hx
      · exact hl
      · exact less_trans hl (h1 x hx)
/-- what the law makes of a pool -/
def lawPool (id : ByteArray) (n : Int) : Bool → List BK → List BK
  | put, [] => if put then [] else [(id, n)]
  | put, b :: B => (if put = false ∧ less b.1 id = false then [(id, n)] else []) ++ (if b.1 ≠ id then [b] else []) ++ lawPool id n (if less b.1 id = false then true else put) B
theorem lawPool_true_none {id : ByteArray} {n : Int} {B : List BK} (hn : ∀ b ∈ B, b.1 ≠ id) : lawPool id n true B = B := by
  induction B with
  | nil => rfl
  | cons b B ih =>
    simp only [lawPool]
    rw [if_neg (by simp), if_pos (hn b List.mem_cons_self)]
    simp [ih (fun y hy => hn y (List.mem_cons_of_mem _ hy))]
theorem lawPool_ins {id : ByteArray} {n : Int} {B : List BK} (hn : ∀ b ∈ B, b.1 ≠ id) : lawPool id n false B = ins (id, n) B := by
  induction B with
  | nil => rfl
  | cons b B ih =>
    have hb := hn b List.mem_cons_self
    have hB := fun y hy => hn y (List.mem_cons_of_mem b hy)
    simp only [lawPool, ins]
    cases hl : less b.1 id
    · have : less id b.1 = true := by
        cases hx : less id b.1
        · exact absurd (less_total hl hx) hb
        · rfl
      simp [this, hb, lawPool_true_none hB]
    · have : less id b.1 = false := less_asymm hl
      simp [this, hb, ih hB]
theorem Srt.ne {B : List BK} (h : Srt B) {i j : Nat} (hi : i < B.length) (hj : j < B.length) (hij : i ≠ j) : B[i].1 ≠ B[j].1 := by
  intro e
  have hp := List.pairwise_iff_getElem.1 h
  rcases Nat.lt_or_gt_of_ne hij with hlt | hlt
  · have := hp i j hi hj hlt
    rw [e, less_irrefl] at this; cases this
  · have := hp j i hj hi hlt
    rw [e, less_irrefl] at this; cases this
theorem lawPool_set {id : ByteArray} {n : Int} {B : List BK} (h : Srt B) {p : Nat} (hp : p < B.length) (he : B[p].1 = id) : lawPool id n false B = B.set p (id, n) := by
  induction B generalizing p with
  | nil => simp at hp
  | cons b B ih =>
    obtain ⟨h1, h2⟩ := List.pairwise_cons.1 h
    cases p with
    | zero =>
      simp only [List.getElem_cons_zero] at he
      subst he
      have hB : ∀ y ∈ B, y.1 ≠ b.1 := fun y hy e => by have := h1 y hy; rw [e, less_irrefl] at this; cases this
      simp [lawPool, less_irrefl, lawPool_true_none hB]
    | succ p =>
      simp only [List.getElem_cons_succ] at he
      have hlt : less b.1 id = true := he ▸ h1 _ (List.getElem_mem (by simpa using hp))
      have hne : b.1 ≠ id := fun e => by rw [e, less_irrefl] at hlt; cases hlt
      simp [lawPool, hlt, hne, ih h2 (by simpa using hp) he]
theorem lawPool_erase {id : ByteArray} {n : Int} {B : List BK} (h : Srt B) {p : Nat} (hp : p < B.length) (he : B[p].1 = id) : lawPool id n true B = B.eraseIdx p := by
  induction B generalizing p with
  | nil => simp at hp
  | cons b B ih =>
    obtain ⟨h1, h2⟩ := List.pairwise_cons.1 h
    cases p with
    | zero =>
      simp only [List.getElem_cons_zero] at he
      subst he
      have hB : ∀ y ∈ B, y.1 ≠ b.1 := fun y hy e => by have := h1 y hy; rw [e, less_irrefl] at this; cases this
      simp [lawPool, less_irrefl, lawPool_true_none hB]
    | succ p =>
      simp only [List.getElem_cons_succ] at he
      have hlt : less b.1 id = true := he ▸ h1 _ (List.getElem_mem (by simpa using hp))
      have hne : b.1 ≠ id := fun e => by rw [e, less_irrefl] at hlt; cases hlt
      simp [lawPool, hlt, hne, ih h2 (by simpa using hp) he]
theorem erase_srt {B : List BK} (h : Srt B) (p : Nat) : Srt (B.eraseIdx p) := List.Pairwise.sublist (List.eraseIdx_sublist B p) h
theorem set_srt {B : List BK} (h : Srt B) {p : Nat} (hp : p < B.length) (n : Int) : Srt (B.set p (B[p].1, n)) := by
  rw [Srt, List.pairwise_iff_getElem] at h ⊢
  intro i j hi hj hij
  simp only [List.length_set] at hi hj
  have := h i j hi hj hij
  simp only [List.getElem_set]
  split <;> split <;> simp_all
/-- put in and taken out again -/
theorem ins_place (m : BK) (B : List BK) : ∃ p, p ≤ B.length ∧ (∃ h : p < (ins m B).length, (ins m B)[p] = m) ∧ (ins m B).eraseIdx p = B := by
  induction B with
  | nil => exact ⟨0, Nat.le_refl _, ⟨by simp [ins], rfl⟩, rfl⟩
  | cons b B ih =>
    cases hl : less m.1 b.1
    · obtain ⟨p, hp, ⟨h1, h2⟩, h3⟩ := ih
      have e : ins m (b :: B) = b :: ins m B := by simp [ins, hl]
      rw [e]
      exact ⟨p + 1, by simpa using hp, ⟨by simpa using h1, by simpa using h2⟩, by simp [h3]⟩
    · have e : ins m (b :: B) = m :: b :: B := by simp [ins, hl]
      rw [e]
      exact ⟨0, by simp, ⟨by simp, rfl⟩, rfl⟩
/-- added ahead of all -/
theorem ins_first {m : BK} {B : List BK} (h : ∀ b ∈ B, less m.1 b.1 = true) : ins m B = m :: B := by
  cases B with
  | nil => rfl
  | cons b B => simp [ins, h b List.mem_cons_self]
/-- where a name stands; behind the end: nowhere -/
def atName (id : ByteArray) (B : List BK) : Nat := B.findIdx fun b => b.1.toList == id.toList

end Go.Proofs.Ytgfildmmcbjpnab

namespace Go.Proofs.Ytgfildmmcbjpnab
open Go.RowKit

/-- the world with the blocks of M made unreadable: what is said of it stands, whatever is written into them -/
def mask (M : List Nat) (w : World) : World := { w with heap := w.heap.mapIdx fun i o => if i ∈ M then Obj.cells #[] 0 else o }
theorem mask_size (M : List Nat) (w : World) : (mask M w).heap.size = w.heap.size := by simp [mask]
theorem mask_block (M : List Nat) (w : World) (k : Nat) (h : k ∉ M) : (mask M w).heap[k]? = w.heap[k]? := by
  simp only [mask, Array.getElem?_mapIdx]
  cases w.heap[k]? <;> simp [h]
theorem mask_in (M : List Nat) (w : World) (k : Nat) (h : k ∈ M) (hk : k < w.heap.size) : (mask M w).heap[k]? = some (Obj.cells #[] 0) := by
  simp only [mask, Array.getElem?_mapIdx]
  rw [Array.getElem?_eq_getElem hk]
  simp [h]
theorem mask_cell {M : List Nat} {w : World} {a : Addr} {v : Value} : (mask M w).cell? a = some v ↔ w.cell? a = some v ∧ a.block ∉ M := by
  constructor
  · intro h
    by_cases hm : a.block ∈ M
    · exfalso
      have hlt := World.block_lt_of_cell? _ _ h
      rw [mask_size] at hlt
      simp only [World.cell?, mask_in M w _ hm hlt] at h
      split at h <;> simp at h
    · refine ⟨?_, hm⟩
      rw [← World.cell?_of_block (w := w) (mask_block M w a.block hm)]; exact h
  · intro ⟨h, hm⟩
    rw [World.cell?_of_block (w := w) (mask_block M w a.block hm)]; exact h
/-- nothing has turned that was there, but what lies in the blocks of M -/
def But (M : List Nat) (w w' : World) : Prop := Bel (mask M w) (mask M w')
theorem But.refl (M : List Nat) (w : World) : But M w w := Bel.refl _
theorem But.trans {M : List Nat} {a b c : World} (h : But M a b) (k : But M b c) : But M a c := Bel.trans h k
theorem But.mk {M : List Nat} {w w' : World} (h1 : w'.os = w.os) (h2 : w'.tape = w.tape) (h3 : w'.output = w.output) (h4 : w.heap.size ≤ w'.heap.size) (h5 : ∀ k, k < w.heap.size → k ∉ M → w'.heap[k]? = w.heap[k]?) : But M w w' := by
  refine ⟨h1, h2, h3, by rw [mask_size, mask_size]; exact h4, fun k hk => ?_⟩
  rw [mask_size] at hk
  by_cases hm : k ∈ M
  · rw [mask_in M w k hm hk, mask_in M w' k hm (by omega)]
  · rw [mask_block _ _ _ hm, mask_block _ _ _ hm]; exact h5 k hk hm
theorem But.os {M : List Nat} {w w' : World} (h : But M w w') : w'.os = w.os := h.below.os
theorem But.tape {M : List Nat} {w w' : World} (h : But M w w') : w'.tape = w.tape := h.below.tape
theorem But.output {M : List Nat} {w w' : World} (h : But M w w') : w'.output = w.output := h.below.output
theorem But.size {M : List Nat} {w w' : World} (h : But M w w') : w.heap.size ≤ w'.heap.size := by
  have := Bel.size h; rw [mask_size, mask_size] at this; exact this
theorem But.block {M : List Nat} {w w' : World} (h : But M w w') (k : Nat) (hk : k < w.heap.size) (hm : k ∉ M) : w'.heap[k]? = w.heap[k]? := by
  have := Bel.block h k (by rw [mask_size]; exact hk)
  rw [mask_block _ _ _ hm, mask_block _ _ _ hm] at this; exact this
theorem But.mono {M M' : List Nat} {w w' : World} (h : But M w w') (hm : ∀ k ∈ M, k ∈ M' ∨ w.heap.size ≤ k) : But M' w w' :=
  But.mk h.os h.tape h.output h.size (fun k hk hn => h.block k hk (fun hh => by rcases hm k hh with h1 | h1; exact hn h1; omega))
theorem But.of_bel {M : List Nat} {w w' : World} (h : Bel w w') : But M w w' :=
  But.mk h.below.os h.below.tape h.below.output h.size (fun k hk _ => h.block k hk)
theorem But.bel {M : List Nat} {w w' : World} (h : But M w w') (hm : ∀ k ∈ M, w.heap.size ≤ k) : Bel w w' :=
  ⟨h.os, h.tape, h.output, h.size, fun k hk => h.block k hk (fun hh => by have := hm k hh; omega)⟩
theorem But.belTo {M : List Nat} {a w w' : World} (k : Bel a w) (h : But M w w') (hm : ∀ j ∈ M, a.heap.size ≤ j) : Bel a w' :=
  ⟨h.os.trans k.below.os, h.tape.trans k.below.tape, h.output.trans k.below.output, Nat.le_trans k.size h.size, fun j hj =>
    (h.block j (by have := k.size; omega) (fun hh => by have := hm j hh; omega)).trans (k.block j hj)⟩
theorem But.cell {M : List Nat} {w w' : World} (h : But M w w') {p : Addr} {v : Value} (hc : w.cell? p = some v) (hp : p.block ∉ M) : w'.cell? p = some v :=
  (mask_cell.1 (Bel.cell h (mask_cell.2 ⟨hc, hp⟩))).1
theorem But.frozen {M : List Nat} {w w' : World} (h : But M w w') {p : Addr} {v : Value} (hc : w.cell? p = some v) (hp : p.block ∉ M) (hf : w.frozen? p = false) : w'.frozen? p = false := by
  rw [World.frozen?_of_block (w := w) (h.block p.block (World.block_lt_of_cell? w p hc) hp)]; exact hf
theorem But.set {M : List Nat} {a w : World} (h : But M a w) {p : Addr} (hp : p.block ∈ M) (u : Value) : But M a (w.setCell p u) :=
  h.trans (But.mk rfl rfl rfl (by simp [World.setCell]) (fun k _ hk => Below.heap_setCell _ _ _ _ (fun e => hk (e ▸ hp))))
theorem But.alloc {M : List Nat} {a w : World} (h : But M a w) (o : Obj) : But M a (w.alloc o) := h.trans (But.of_bel ((Bel.refl w).step_alloc o))
theorem But.drew {M : List Nat} {a w : World} (h : But M a w) : But M a w.drew := h.trans (But.of_bel (Bel.refl w).step_drew)
theorem But.drewN {M : List Nat} {a w : World} (h : But M a w) (n : Nat) : But M a (w.drewN n) := h.trans (But.of_bel ((Bel.refl w).step_drewN n))
theorem But.step {M : List Nat} {a w w' : World} (h : But M a w) (k : Bel w w') : But M a w' := h.trans (But.of_bel k)
/-- what lies behind 'base' lies outside M -/
theorem mask_cell_new {M : List Nat} {base : Nat} {w : World} (hM : ∀ k ∈ M, k < base) {a : Addr} {v : Value} (ha : base ≤ a.block) (h : w.cell? a = some v) : (mask M w).cell? a = some v :=
  mask_cell.2 ⟨h, fun hm => by have := hM _ hm; omega⟩

end Go.Proofs.Ytgfildmmcbjpnab

namespace Go.Proofs.Ytgfildmmcbjpnab
open Go.RowKit

/-! What the code's functions come to, as functions. -/
def rotF (x : Int) (n : Nat) : Int := bits .or .u64 (x * 2 ^ n % 18446744073709551616) (x / 2 ^ (64 - n))
structure S4 where
  a : Int
  b : Int
  c : Int
  d : Int
def S4.round (s : S4) : S4 :=
  let a1 := (s.a + s.b) % 18446744073709551616
  let b1 := bits .xor .u64 (rotF s.b 13) a1
  let a2 := rotF a1 32
  let c1 := (s.c + s.d) % 18446744073709551616
  let d1 := bits .xor .u64 (rotF s.d 16) c1
  let a3 := (a2 + d1) % 18446744073709551616
  let d2 := bits .xor .u64 (rotF d1 21) a3
  let c2 := (c1 + b1) % 18446744073709551616
  let b2 := bits .xor .u64 (rotF b1 17) c2
  ⟨a3, b2, rotF c2 32, d2⟩
def S4.take (s : S4) (m : Int) : S4 :=
  let s1 := S4.round (S4.round ⟨s.a, s.b, s.c, bits .xor .u64 s.d m⟩)
  ⟨bits .xor .u64 s1.a m, s1.b, s1.c, s1.d⟩
def byteAt (t : ByteArray) (i : Nat) : Int := if h : i < t.size then (t[i].toNat : Int) else 0
/-- the first n of a word's bytes are in it, the high one first -/
def wordTo (t : ByteArray) (f : Nat) : Nat → Int
  | 0 => 0
  | n + 1 => let v := wordTo t f n * 256 % 18446744073709551616
    if f + (7 - n) < t.size then bits .or .u64 v (byteAt t (f + (7 - n))) else v
def wordF (t : ByteArray) (f : Nat) : Int := wordTo t f 8
def sipBegin (k l : Int) : S4 := ⟨bits .xor .u64 k 8317987319222330741, bits .xor .u64 l 7237128888997146477, bits .xor .u64 k 7816392313619706465, bits .xor .u64 l 8387220255154660723⟩
def sipTo (t : ByteArray) (s : S4) : Nat → S4
  | 0 => s
  | n + 1 => (sipTo t s n).take (wordF t (8 * n))
def sipSum (key t : ByteArray) : Int :=
  let s := sipTo t (sipBegin (wordF key 0) (wordF key 8)) (t.size / 8)
  let s := s.take (bits .or .u64 (wordF t (8 * (t.size / 8))) ((t.size : Int) * 72057594037927936 % 18446744073709551616))
  let s : S4 := ⟨s.a, s.b, bits .xor .u64 s.c 255, s.d⟩
  let s := s.round.round.round.round
  bits .xor .u64 (bits .xor .u64 (bits .xor .u64 s.a s.b) s.c) s.d
/-- the letter and the numbers, as bytes -/
def headOf (letter : UInt8) (nums : List Nat) : List UInt8 := letter :: nums.flatMap fun n => [UInt8.ofNat (n / 256), UInt8.ofNat n]
def hsh (key : ByteArray) (letter : UInt8) (nums : List Nat) (t : ByteArray) : Int := sipSum key (ByteArray.mk (headOf letter nums).toArray ++ t)

def restF (h m : Int) : Int := if m < 1 then 0 else h % m
def wSum (B : List BK) : Int := (B.map (·.2)).sum
/-- Maglev -/
def wayOf (c : Cfg) (b : BK) : Int × Int := (restF (hsh c.key 111 [] b.1) c.slots, restF (hsh c.key 115 [] b.1) (c.slots - 1) + 1)
def stepOf (n : Nat) (w : Int × Int) (i : Nat) : Nat := ((w.1 + i * w.2) % n).toNat
def freeF (S : List Int) (w : Int × Int) : Option Nat := ((List.range S.length).map (stepOf S.length w)).find? fun s => S.getD s 0 < 0
/-- the place of the greatest, and it, among the first n -/
def bestTo (R : List Int) : Nat → Int × Int
  | 0 => (-1, -1)
  | n + 1 => if (bestTo R n).2 < R.getD n 0 then ((n : Int), R.getD n 0) else bestTo R n
def bestF (R : List Int) : Int := (bestTo R R.length).1
def giveF : Nat → List Int → List Int → List Int
  | 0, s, _ => s
  | n + 1, s, r => if bestF r < 0 then s else giveF n (s.set (bestF r).toNat (s.getD (bestF r).toNat 0 + 1)) (r.set (bestF r).toNat (-1))
def lowF (M : Int) (B : List BK) : List Int := B.map fun b => M * b.2 / wSum B
def remF (M : Int) (B : List BK) : List Int := B.map fun b => M * b.2 % wSum B
def sharesF (M : Int) (B : List BK) : List Int := if wSum B < 1 then [] else giveF (M - (lowF M B).sum).toNat (lowF M B) (remF M B)
def turnF (W : List (Int × Int)) (S : List Int) (i : Nat) : List Int := match freeF S (W.getD i (0, 0)) with
  | some k => S.set k i
  | none => S
/-- the first n have had their turn in round r -/
def roundTo (W : List (Int × Int)) (sh : List Int) (r : Nat) (S : List Int) : Nat → List Int
  | 0 => S
  | n + 1 => if sh.getD n 0 ≤ r then roundTo W sh r S n else turnF W (roundTo W sh r S n) n
def fillTo (W : List (Int × Int)) (sh : List Int) (S : List Int) : Nat → List Int
  | 0 => S
  | r + 1 => roundTo W sh r (fillTo W sh S r) sh.length
abbrev EI := Int × Int
def maglevF (c : Cfg) (B : List BK) : List Int := fillTo (B.map (wayOf c)) (sharesF c.slots B) (List.replicate c.slots.toNat (-1)) c.slots.toNat
/-- Rendezvous: the winner among those of the first backends, and of n copies of the next -/
def winTo (key : ByteArray) (s : Nat) (i : Nat) (id : ByteArray) (m : Int × Int) : Nat → Int × Int
  | 0 => m
  | k + 1 => let h := hsh key 104 [s, k] id
    let p := winTo key s i id m k
    if p.1 < 0 ∨ p.2 < h then ((i : Int), h) else p
def winnerTo (key : ByteArray) (s : Nat) (B : List BK) : Nat → Int × Int
  | 0 => (-1, 0)
  | i + 1 => match B[i]? with
    | some b => winTo key s i b.1 (winnerTo key s B i) b.2.toNat
    | none => winnerTo key s B i
def winnerF (key : ByteArray) (B : List BK) (s : Nat) : Int := (winnerTo key s B B.length).1
/-- points -/
def ptsOf (key : ByteArray) (letter : UInt8) (each : Int) (i : Nat) (b : BK) : List EI := (List.range (each * b.2).toNat).map fun k => (hsh key letter [k] b.1, (i : Int))
def ptsTo (key : ByteArray) (letter : UInt8) (each : Int) (B : List BK) : Nat → List EI
  | 0 => []
  | i + 1 => match B[i]? with
    | some b => ptsTo key letter each B i ++ ptsOf key letter each i b
    | none => ptsTo key letter each B i
/-- behind all that are not above it -/
def insE (e : EI) : List EI → List EI
  | [] => [e]
  | x :: l => if e.1 < x.1 then e :: x :: l else x :: insE e l
def sortTo (L : List EI) : Nat → List EI
  | 0 => []
  | n + 1 => match L[n]? with
    | some e => insE e (sortTo L n)
    | none => sortTo L n
def pointsF (key : ByteArray) (letter : UInt8) (each : Int) (B : List BK) : List EI := sortTo (ptsTo key letter each B B.length) (ptsTo key letter each B B.length).length
def mkF (c : Cfg) (B : List BK) : List EI :=
  if wSum B < 1 then []
  else if c.alg = 1 then (maglevF c B).map fun o => (0, o)
  else if c.alg = 2 then pointsF c.key 114 c.points B
  else if c.alg = 3 then (List.range c.slots.toNat).map fun s => (0, winnerF c.key B s)
  else if c.alg = 4 then pointsF c.key 109 1 B
  else []
def nameF (B : List BK) (i : Int) : ByteArray := if i < 0 then ByteArray.empty else ((B[i.toNat]?).map (·.1)).getD ByteArray.empty
def nextF (E : List EI) (h : Int) : Nat := if E.findIdx (fun e => h ≤ e.1) < E.length then E.findIdx (fun e => h ≤ e.1) else 0
/-- the best place and its distance, of the first n probes -/
def probeTo (c : Cfg) (E : List EI) (k : ByteArray) : Nat → Nat × Int
  | 0 => (0, 0)
  | n + 1 => let h := hsh c.key 112 [n] k
    let d := ((E.getD (nextF E h) (0, 0)).1 - h) % 18446744073709551616
    if n = 0 ∨ d < (probeTo c E k n).2 then (nextF E h, d) else probeTo c E k n
def findF (c : Cfg) (E : List EI) (k : ByteArray) : Nat :=
  if E.length = 0 then 0
  else if c.alg = 4 then (probeTo c E k c.probes.toNat).1
  else if c.alg = 2 then nextF E (hsh c.key 107 [] k)
  else (hsh c.key 107 [] k % E.length).toNat
/-- whose a key is, and the error -/
def ownerF (c : Cfg) (B : List BK) (k : ByteArray) : ByteArray × Int := match (mkF c B)[findF c (mkF c B) k]? with
  | some e => (nameF B e.2, 0)
  | none => (ByteArray.empty, 8)

end Go.Proofs.Ytgfildmmcbjpnab

namespace Go.Proofs.Ytgfildmmcbjpnab
open Go.RowKit

/-! The changes of a pool, as the code makes them. -/
theorem atName_lt {id : ByteArray} {B : List BK} (h : ∃ b ∈ B, b.1 = id) : atName id B < B.length := by
  unfold atName
  rw [List.findIdx_lt_length]
  obtain ⟨b, hb, e⟩ := h
  exact ⟨b, hb, str_eq.2 e⟩
theorem atName_is {id : ByteArray} {B : List BK} (h : atName id B < B.length) : (B[atName id B]).1 = id := by
  exact str_eq.1 (List.findIdx_getElem (p := fun b : BK => b.1.toList == id.toList) (w := h))
theorem atName_at {B : List BK} (hs : Srt B) {i : Nat} (hi : i < B.length) : atName B[i].1 B = i := by
  have hlt : atName B[i].1 B < B.length := atName_lt ⟨B[i], List.getElem_mem hi, rfl⟩
  have he := atName_is hlt
  by_cases h : atName B[i].1 B = i
  · exact h
  · exact absurd he (hs.ne hlt hi h)
def addE (B : List BK) (id : ByteArray) (n : Int) : Int :=
  if id.size < 1 ∨ 8 < id.size then 2 else if n < 0 ∨ 6 < n then 5 else if atName id B < B.length then 3 else if 8 ≤ B.length then 6 else 0
def addB (B : List BK) (id : ByteArray) (n : Int) : List BK := if addE B id n = 0 then ins (id, n) B else B
def remE (B : List BK) (id : ByteArray) : Int := if atName id B < B.length then 0 else 4
def remB (B : List BK) (id : ByteArray) : List BK := if remE B id = 0 then B.eraseIdx (atName id B) else B
def setE (B : List BK) (id : ByteArray) (n : Int) : Int := if n < 0 ∨ 6 < n then 5 else if atName id B < B.length then 0 else 4
def setB (B : List BK) (id : ByteArray) (n : Int) : List BK := if setE B id n = 0 then B.set (atName id B) (id, n) else B
/-- a pool that a service can have -/
def Good (B : List BK) : Prop := PoolOK B ∧ Srt B
theorem Good.nil : Good [] := ⟨⟨by simp, fun b hb => by cases hb⟩, List.Pairwise.nil⟩
theorem not_there {id : ByteArray} {B : List BK} (h : ¬ atName id B < B.length) : ∀ b ∈ B, b.1 ≠ id := fun b hb e => h (atName_lt ⟨b, hb, e⟩)
theorem Good.add {B : List BK} (h : Good B) (id : ByteArray) (n : Int) : Good (addB B id n) := by
  unfold addB
  split
  · rename_i he
    unfold addE at he
    split at he
    · cases he
    split at he
    · cases he
    split at he
    · cases he
    split at he
    · cases he
    rename_i h1 h2 h3 h4
    refine ⟨⟨by rw [ins_len]; omega, fun b hb => ?_⟩, ins_srt h.2 (not_there h3)⟩
    rcases ins_mem.1 hb with rfl | hb
    · exact ⟨by simp only; omega, by simp only; omega, by simp only; omega, by simp only; omega⟩
    · exact h.1.2 b hb
  · exact h
theorem Good.erase {B : List BK} (h : Good B) (p : Nat) : Good (B.eraseIdx p) :=
  ⟨⟨Nat.le_trans (List.length_eraseIdx_le _ _) h.1.1, fun b hb => h.1.2 b (List.mem_of_mem_eraseIdx hb)⟩, erase_srt h.2 p⟩
theorem Good.rem {B : List BK} (h : Good B) (id : ByteArray) : Good (remB B id) := by
  unfold remB
  split
  · exact h.erase _
  · exact h
theorem Good.set {B : List BK} (h : Good B) (id : ByteArray) (n : Int) : Good (setB B id n) := by
  unfold setB
  split
  · rename_i he
    unfold setE at he
    split at he
    · cases he
    split at he
    · rename_i h1 h2
      refine ⟨⟨by simpa using h.1.1, fun b hb => ?_⟩, ?_⟩
      · rcases List.mem_or_eq_of_mem_set hb with hb | rfl
        · exact h.1.2 b hb
        · have := h.1.2 _ (List.getElem_mem h2)
          rw [atName_is h2] at this
          exact ⟨this.1, this.2.1, by simp only; omega, by simp only; omega⟩
      · have := set_srt h.2 h2 n
        rw [atName_is h2] at this
        exact this
    · cases he
  · exact h
/-- Same: the names of a pool with other weights -/
def offW (b : BK) : BK := (b.1, (b.2 + 1) % 7)
theorem offW_len (B : List BK) (i : Nat) : ((B.drop i).map offW).length = B.length - i := by simp
theorem fresh_add {B : List BK} (h : Good B) {i : Nat} (hi : i < B.length) : addB ((B.drop (i + 1)).map offW) B[i].1 ((B[i].2 + 1) % 7) = (B.drop i).map offW := by
  obtain ⟨⟨h8, hall⟩, hs⟩ := h
  have hb := hall _ (List.getElem_mem hi)
  have hgt : ∀ b ∈ (B.drop (i + 1)).map offW, less B[i].1 b.1 = true := by
    intro b hb
    obtain ⟨x, hx, rfl⟩ := List.mem_map.1 hb
    obtain ⟨j, hj, rfl⟩ := List.getElem_of_mem hx
    simp only [List.length_drop] at hj
    rw [List.getElem_drop]
    exact List.pairwise_iff_getElem.1 hs i (i + 1 + j) hi (by omega) (by omega)
  have hno : ¬ atName B[i].1 ((B.drop (i + 1)).map offW) < ((B.drop (i + 1)).map offW).length := by
    intro hlt
    have h1 := atName_is hlt
    have h2 := hgt _ (List.getElem_mem hlt)
    rw [h1, less_irrefl] at h2
    cases h2
  have he : addE ((B.drop (i + 1)).map offW) B[i].1 ((B[i].2 + 1) % 7) = 0 := by
    unfold addE
    rw [if_neg (by omega), if_neg (by omega), if_neg hno, if_neg (by rw [offW_len]; omega)]
  rw [addB, if_pos he, ins_first (m := (B[i].1, (B[i].2 + 1) % 7)) hgt]
  rw [List.drop_eq_getElem_cons hi, List.map_cons]
  rfl
theorem there_in_out {B : List BK} (h : Srt B) (id : ByteArray) (n : Int) (ha : addE B id n = 0) : remB (addB B id n) id = B := by
  have hno : ¬ atName id B < B.length := by
    intro hlt
    unfold addE at ha
    split at ha
    · cases ha
    split at ha
    · cases ha
    first | (rw [if_pos hlt] at ha; cases ha) | cases ha
  have hsrt := ins_srt (m := (id, n)) h (not_there hno)
  obtain ⟨p, hp, ⟨h1, h2⟩, h3⟩ := ins_place (id, n) B
  have hat : atName id (ins (id, n) B) = p := by
    have := atName_at hsrt h1
    rw [h2] at this
    exact this
  rw [addB, if_pos ha, remB, remE, hat, if_pos (by rw [if_pos h1]), h3]
theorem fresh_set {B : List BK} (h : Good B) {i : Nat} (hi : i < B.length) :
    setE (B.take i ++ (B.drop i).map offW) B[i].1 B[i].2 = 0 ∧ setB (B.take i ++ (B.drop i).map offW) B[i].1 B[i].2 = B.take (i + 1) ++ (B.drop (i + 1)).map offW := by
  obtain ⟨⟨h8, hall⟩, hs⟩ := h
  have hb := hall _ (List.getElem_mem hi)
  have hnames : (B.take i ++ (B.drop i).map offW).map (·.1) = B.map (·.1) := by
    rw [List.map_append, List.map_map]
    have : (fun b : BK => b.1) ∘ offW = fun b : BK => b.1 := rfl
    rw [this, ← List.map_append, List.take_append_drop]
  have hat : ∀ (X Y : List BK) (id : ByteArray), X.map (·.1) = Y.map (·.1) → atName id X = atName id Y := by
    intro X Y id e
    have hf : ∀ Z : List BK, atName id Z = (Z.map (·.1)).findIdx (fun x => x.toList == id.toList) := fun Z => by
      unfold atName
      rw [List.findIdx_map]
      rfl
    rw [hf, hf, e]
  have ha : atName B[i].1 (B.take i ++ (B.drop i).map offW) = i := by rw [hat _ _ _ hnames]; exact atName_at hs hi
  have hlen : (B.take i ++ (B.drop i).map offW).length = B.length := by simp; omega
  have he : setE (B.take i ++ (B.drop i).map offW) B[i].1 B[i].2 = 0 := by
    unfold setE
    rw [if_neg (by omega), ha, if_pos (by omega)]
  refine ⟨he, ?_⟩
  rw [setB, if_pos he, ha, List.set_append_right _ _ (by simp; omega)]
  rw [List.drop_eq_getElem_cons hi, List.map_cons]
  have hz : i - (B.take i).length = 0 := by simp; omega
  rw [hz, List.set_cons_zero, List.take_succ_eq_append_getElem hi, List.append_assoc]
  rfl

end Go.Proofs.Ytgfildmmcbjpnab

namespace Go.Proofs.Ytgfildmmcbjpnab
open Go.RowKit

theorem Try.infoBK : (Try.prog.info? 64).map (fun i => (i.zero, i.size, i.bytes)) = some (some (.agg #[.string ByteArray.empty, .int .i64 0]), 2, 24) := by kernel_rfl
theorem Try.infoEI : (Try.prog.info? 78).map (fun i => (i.zero, i.size, i.bytes)) = some (some (.agg #[.int .u64 0, .int .i64 0]), 2, 16) := by kernel_rfl
theorem Try.infoWay : (Try.prog.info? 104).map (fun i => (i.zero, i.size, i.bytes)) = some (some (.agg #[.int .i64 0, .int .i64 0]), 2, 16) := by kernel_rfl
theorem Try.infoInt : (Try.prog.info? 3).map (fun i => (i.zero, i.size, i.bytes)) = some (some (.int .i64 0), 1, 8) := by kernel_rfl
theorem Try.infoStr : (Try.prog.info? 9).map (fun i => (i.zero, i.size, i.bytes)) = some (some (.string ByteArray.empty), 1, 16) := by kernel_rfl
theorem Try.infoByte : (Try.prog.info? 5).map (fun i => (i.zero, i.size, i.bytes)) = some (some (.int .u8 0), 1, 1) := by kernel_rfl

theorem two_new (w : World) (a b : Value) (t : TypeId) (n : Nat) (hn : n = w.heap.size) : ∀ j u, [a, b][j]? = some u → (w.alloc (.cells #[a, b] t)).cell? ((⟨n, 0, none⟩ : Addr).add j) = some u := by
  subst hn
  intro j u hu
  have hadd : (⟨w.heap.size, 0, none⟩ : Addr).add j = ⟨w.heap.size, j, none⟩ := by unfold Addr.add; split <;> simp_all
  rw [hadd]
  have hl : j < 2 := (List.getElem?_eq_some_iff.1 hu).1
  rcases (show j = 0 ∨ j = 1 by omega) with rfl | rfl
  · simp at hu; subst hu; simp
  · simp at hu; subst hu; simp
theorem one_new (w : World) (a : Value) (t : TypeId) (n : Nat) (hn : n = w.heap.size) : ∀ j u, [a][j]? = some u → (w.alloc (.cells #[a] t)).cell? ((⟨n, 0, none⟩ : Addr).add j) = some u := by
  subst hn
  intro j u hu
  have hadd : (⟨w.heap.size, 0, none⟩ : Addr).add j = ⟨w.heap.size, j, none⟩ := by unfold Addr.add; split <;> simp_all
  rw [hadd]
  have hl : j < 1 := (List.getElem?_eq_some_iff.1 hu).1
  rcases (show j = 0 by omega) with rfl
  simp at hu; subst hu; simp
theorem two_one {a b : Value} (ha : a.oneCell' = true) (hb : b.oneCell' = true) : ∀ u ∈ [a, b], u.oneCell' = true := by
  intro u hu; simp at hu; rcases hu with rfl | rfl
  · exact ha
  · exact hb
theorem pcells_snoc (L : List BK) (b : BK) : pcells (L ++ [b]) = pcells L ++ [.string b.1, .int .i64 b.2] := by simp [pcells]
theorem Hid.mk {p : Prop} (h : p) : Hid p := h
theorem PoolAt.open {w : World} {v : Value} {B : List BK} (h : PoolAt w v B) : ∃ ao cap, v = .slice ao B.length cap ∧ ∀ j (hj : j < B.length), ∃ g, ao = some ⟨g, 0, none⟩ ∧ w.cell? ⟨g, j * 2, none⟩ = some (.string B[j].1) ∧ w.cell? ⟨g, j * 2 + 1, none⟩ = some (.int .i64 B[j].2) := by
  rcases h.form with ⟨rfl, rfl⟩ | ⟨g, cap, rfl, _, _, hc⟩
  · exact ⟨_, _, rfl, fun j hj => by simp at hj⟩
  · exact ⟨_, _, rfl, fun j hj => ⟨g, rfl, hc j hj⟩⟩
/-- a pool in a row of its own, from base on -/
def OwnB (base : Nat) (w : World) (v : Value) (B : List BK) : Prop := w.ownsRow base 64 2 v B.length (pcells B)
def RPool (w : World) (B : List BK) (e : Ending) (w' : World) : Prop := ∃ v, e = .returned v ∧ Bel w w' ∧ OwnB w.heap.size w' v B
theorem OwnB.pool {base : Nat} {w : World} {v : Value} {B : List BK} (h : OwnB base w v B) : PoolAt w v B := RowAt.of_owns h
theorem OwnB.mono {b c : Nat} {w : World} {v : Value} {B : List BK} (h : OwnB b w v B) (hc : c ≤ b) : OwnB c w v B := by
  obtain ⟨h1, h2⟩ := h
  refine ⟨h1, ?_⟩
  rcases h2 with h2 | ⟨g, cap, cur, hv, hg, r⟩
  · exact Or.inl h2
  · exact Or.inr ⟨g, cap, cur, hv, Nat.le_trans hc hg, r⟩

end Go.Proofs.Ytgfildmmcbjpnab
