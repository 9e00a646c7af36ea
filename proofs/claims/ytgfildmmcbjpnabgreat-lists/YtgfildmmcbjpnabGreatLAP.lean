import Derived.Test.YtgfildmmcbjpnabGreatLAO
namespace Go.Proofs.YtgfildmmcbjpnabGreat
open Go.RowKit

def PrimeTo (s : Int) (k : Nat) : Prop := 1 < s ∧ ∀ d : Nat, 2 ≤ d → d < k → s % d ≠ 0
theorem PrimeTo.step {s : Int} {k : Nat} (h2 : 2 ≤ k) : PrimeTo s (k + 1) ↔ PrimeTo s k ∧ s % k ≠ 0 := by
  constructor
  · intro ⟨h, hd⟩
    exact ⟨⟨h, fun d h1 h2 => hd d h1 (by omega)⟩, hd k h2 (by omega)⟩
  · intro ⟨⟨h, hd⟩, hk⟩
    refine ⟨h, fun d h1 h2 => ?_⟩
    by_cases e : d = k
    · subst e; exact hk
    · exact hd d h1 (by omega)
/-- what is known of Slots behind the loop -/
def SlotsOK (s : Int) : Prop := 3 ≤ s ∧ s ≤ 211 ∧ ∀ d : Nat, 2 ≤ d → (d : Int) < s → s % d ≠ 0
def AOK (alg s : Int) : Prop := 1 ≤ alg ∧ alg ≤ 4 ∧ SlotsOK s
def BOK (p q : Int) : Prop := 1 ≤ p ∧ p ≤ 3 ∧ 1 ≤ q ∧ q ≤ 5
/-- the loop's bool serves -/
def PrimeB (s : Int) (x : Bool) : Prop := 3 ≤ s → s ≤ 211 → (x = true ↔ SlotsOK s)

set_option maxRecDepth 100000 in
set_option maxHeartbeats 1600000 in
theorem may_any (c : Cfg) (w : World) (hc : c.Fit) :
    Calls Tryz.prog 41 #[.agg c.cells] w (RBool w (IsB c.OK)) := by
  obtain ⟨alg, slots, points, probes, key, formats⟩ := c
  obtain ⟨⟨a1, a2⟩, ⟨s1, s2⟩, ⟨p1, p2⟩, ⟨q1, q2⟩, ⟨f1, f2⟩, hk⟩ := hc
  simp only at a1 a2 s1 s2 p1 p2 q1 q2 f1 f2 hk
  unfold maxLen at hk
  simp only [Cfg.cells]
  go_enter Tryz.func41, Tryz.ntmps41
  go_wp2
  go_loop [3, 4] (fun p d => ∃ (k : Nat) (x : Bool), 2 ≤ k ∧ k ≤ 301 ∧ d = .int .i64 k ∧ p = .bool x ∧ (k = 2 ∨ (k : Int) ≤ slots) ∧ IsB (PrimeTo slots k) x) (fun _ d => 301 - (intOf d).toNat)
  case atStart => exact ⟨2, _, by omega, by omega, rfl, rfl, Or.inl rfl, by unfold IsB PrimeTo; simp; intro _ d h1 h2; omega⟩
  case round =>
    obtain ⟨k, x, hk2, hk3, rfl, rfl, hks, hx⟩ := hrel
    by_cases hlt : (k : Int) < slots
    · by_cases h300 : (k : Int) > 300
      · clear hx
        cases x
        all_goals
          go_wp2
          all_goals
            go_ret
            refine ⟨_, rfl, by (repeat (first | exact Bel.refl _ | assumption | refine Bel.step_alloc ?_ _ | refine Bel.step_drew ?_ | refine Bel.step_drewN ?_ _ | refine Bel.step_set ?_ (by simp <;> omega) _ | refine Bel.trans ?_ (by assumption))), ?_⟩
            constructor
            · intro h
              first | (cases h; done) | (exfalso; omega)
            · intro h
              have := h.2.2.2.1
              simp only at this
              exfalso
              omega
      · have hst := PrimeTo.step (s := slots) hk2
        by_cases hd : slots % (k : Int) = 0
        · have hd' : (slots % (k : Int) != 0) = false := by rw [bne_eq_false_iff_eq]; exact hd
          have hF : IsB (PrimeTo slots (k + 1)) false := ⟨fun h => (by cases h), fun h => absurd hd (hst.1 h).2⟩
          clear hst hd
          cases x
          all_goals
            go_wp2
            go_round
            case rel => exact ⟨k + 1, false, by omega, by omega, by go_num, rfl, Or.inr (by omega), hF⟩
            case measure => simp [intOf]; omega
        · have hd' : (slots % (k : Int) != 0) = true := by rw [bne_iff_ne]; exact hd
          have hF : IsB (PrimeTo slots (k + 1)) x := ⟨fun h => hst.2 ⟨hx.1 h, hd⟩, fun h => hx.2 (hst.1 h).1⟩
          clear hst hd hx
          cases x
          all_goals
            go_wp2
            go_round
            case rel => exact ⟨k + 1, _, by omega, by omega, by go_num, rfl, Or.inr (by omega), hF⟩
            case measure => simp [intOf]; omega
    · have hP : x = true → ∀ d : Nat, 2 ≤ d → (d : Int) < slots → slots % d ≠ 0 := fun h d h1 h2 => (hx.1 h).2 d h1 (by omega)
      have hN : (∀ d : Nat, 2 ≤ d → (d : Int) < slots → slots % d ≠ 0) → 3 ≤ slots → slots ≤ 211 → x = true := fun h h3 h4 => hx.2 ⟨by omega, fun d h1 h2 => by
        exact h d h1 (by omega)⟩
      clear hx
      cases x
      · have hN' : Hid (¬ ((∀ d : Nat, 2 ≤ d → (d : Int) < slots → slots % d ≠ 0) ∧ 3 ≤ slots ∧ slots ≤ 211)) := fun h => by cases hN h.1 h.2.1 h.2.2
        clear hP hN
        go_wp2
        all_goals
          go_ret
          refine ⟨_, rfl, by (repeat (first | exact Bel.refl _ | assumption | refine Bel.step_alloc ?_ _ | refine Bel.step_drew ?_ | refine Bel.step_drewN ?_ _ | refine Bel.step_set ?_ (by simp <;> omega) _ | refine Bel.trans ?_ (by assumption))), ?_⟩
          constructor
          · intro h
            first | (cases h; done) | (simp at h; done)
          · intro h
            exact absurd ⟨h.2.2.2.2.1, h.2.2.1, h.2.2.2.1⟩ hN'.out
      · have hP' : Hid (∀ d : Nat, 2 ≤ d → (d : Int) < slots → slots % d ≠ 0) := hP rfl
        clear hP hN
        go_wp2
        all_goals
          go_ret
          refine ⟨_, rfl, by (repeat (first | exact Bel.refl _ | assumption | refine Bel.step_alloc ?_ _ | refine Bel.step_drew ?_ | refine Bel.step_drewN ?_ _ | refine Bel.step_set ?_ (by simp <;> omega) _ | refine Bel.trans ?_ (by assumption))), ?_⟩
          constructor
          · intro h
            first | (cases h; done) | (have h' := of_decide_eq_true h; refine ⟨?_, ?_, ?_, ?_, hP'.out, ?_, ?_, ?_, ?_, ?_, ?_, ?_⟩ <;> simp only <;> omega) | (refine ⟨?_, ?_, ?_, ?_, hP'.out, ?_, ?_, ?_, ?_, ?_, ?_, ?_⟩ <;> simp only <;> omega)
          · intro h
            obtain ⟨g1, g2, g3, g4, _, g6, g7, g8, g9, g10, g11, g12⟩ := h
            simp only at g1 g2 g3 g4 g6 g7 g8 g9 g10 g11 g12
            first | rfl | (exfalso; omega) | (simp; omega)

end Go.Proofs.YtgfildmmcbjpnabGreat

namespace Go.Proofs.YtgfildmmcbjpnabGreat
open Go.RowKit

/-- a text that is read: its box: what is left, whether it was short -/
def TextAt (w : World) (p : Nat) (s : ByteArray) (sh : Bool) : Prop := w.cell? ⟨p, 0, none⟩ = some (.string s) ∧ w.cell? ⟨p, 1, none⟩ = some (.bool sh) ∧ w.frozen? ⟨p, 0, none⟩ = false ∧ w.frozen? ⟨p, 1, none⟩ = false
/-- all but block p is as it was -/
structure ButP (p : Nat) (w w' : World) : Prop where
  os : w'.os = w.os
  tape : w'.tape = w.tape
  output : w'.output = w.output
  size : w.heap.size ≤ w'.heap.size
  block : ∀ k, k < w.heap.size → k ≠ p → w'.heap[k]? = w.heap[k]?
theorem ButP.refl (p : Nat) (w : World) : ButP p w w := ⟨rfl, rfl, rfl, Nat.le_refl _, fun _ _ _ => rfl⟩
theorem ButP.trans {p : Nat} {a b c : World} (h : ButP p a b) (k : ButP p b c) : ButP p a c :=
  ⟨k.os.trans h.os, k.tape.trans h.tape, k.output.trans h.output, Nat.le_trans h.size k.size, fun i hi hp => (k.block i (Nat.lt_of_lt_of_le hi h.size) hp).trans (h.block i hi hp)⟩
theorem ButP.of_bel {p : Nat} {a b : World} (h : Bel a b) : ButP p a b := ⟨h.below.os, h.below.tape, h.below.output, h.size, fun i hi _ => h.block i hi⟩
theorem ButP.cell {p : Nat} {a w : World} (h : ButP p a w) {q : Addr} {v : Value} (hc : a.cell? q = some v) (hq : q.block ≠ p) : w.cell? q = some v := (World.cell?_of_block (h.block q.block (World.block_lt_of_cell? a q hc) hq)).trans hc
theorem ButP.frozen {p : Nat} {a w : World} (h : ButP p a w) {q : Addr} {v : Value} (hc : a.cell? q = some v) (hf : a.frozen? q = false) (hq : q.block ≠ p) : w.frozen? q = false := (World.frozen?_of_block (h.block q.block (World.block_lt_of_cell? a q hc) hq)).trans hf
theorem ButP.alloc {p : Nat} {a w : World} (h : ButP p a w) (o : Obj) : ButP p a (w.alloc o) := h.trans (ButP.of_bel (Bel.step_alloc (Bel.refl _) _))
theorem ButP.step_new {p : Nat} {a w : World} (h : ButP p a w) {q : Addr} (hq : a.heap.size ≤ q.block) (u : Value) : ButP p a (w.setCell q u) :=
  ⟨h.os, h.tape, h.output, by simpa using h.size, fun k hk hp => (Below.heap_setCell _ _ _ _ (by omega)).trans (h.block k hk hp)⟩
theorem PoolAt.but {p : Nat} {a w : World} {v : Value} {l : List BK} (h : PoolAt a v l) (k : ButP p a w) (hp : ∀ g, v.ownBlock = some g → g ≠ p) : PoolAt w v l := by
  rcases h with h | ⟨g, cap, rfl, hn, hg, hc⟩
  · exact Or.inl h
  · exact Or.inr ⟨g, cap, rfl, hn, Nat.lt_of_lt_of_le hg k.size, fun j u hu => k.cell (hc j u hu) (hp g rfl)⟩
theorem ButP.set (p o : Nat) (w : World) (u : Value) : ButP p w (w.setCell ⟨p, o, none⟩ u) := ⟨rfl, rfl, rfl, by simp, fun k _ hp => Below.heap_setCell _ _ _ _ hp⟩
theorem ButP.step_set {p o : Nat} {a w : World} (h : ButP p a w) (u : Value) : ButP p a (w.setCell ⟨p, o, none⟩ u) := h.trans (ButP.set p o w u)
theorem ButP.bel {p : Nat} {z a b : World} (h : ButP p a b) (k : Bel z a) (hp : z.heap.size ≤ p) : Bel z b :=
  ⟨h.os.trans k.below.os, h.tape.trans k.below.tape, h.output.trans k.below.output, Nat.le_trans k.size h.size, fun i hi => (h.block i (Nat.lt_of_lt_of_le hi k.size) (by omega)).trans (k.block i hi)⟩

theorem TextAt.set0 {w : World} {p : Nat} {s : ByteArray} {sh : Bool} (h : TextAt w p s sh) (s' : ByteArray) : TextAt (w.setCell ⟨p, 0, none⟩ (.string s')) p s' sh :=
  ⟨set_same h.1, by rw [set_other (by simp)]; exact h.2.1, by rw [frozen_set]; exact h.2.2.1, by rw [frozen_set]; exact h.2.2.2⟩
theorem TextAt.set1 {w : World} {p : Nat} {s : ByteArray} {sh : Bool} (h : TextAt w p s sh) (sh' : Bool) : TextAt (w.setCell ⟨p, 1, none⟩ (.bool sh')) p s sh' :=
  ⟨by rw [set_other (by simp)]; exact h.1, set_same h.2.1, by rw [frozen_set]; exact h.2.2.1, by rw [frozen_set]; exact h.2.2.2⟩
theorem TextAt.later {a w : World} {p : Nat} {s : ByteArray} {sh : Bool} (h : TextAt a p s sh) (k : Bel a w) : TextAt w p s sh :=
  ⟨k.cell h.1, k.cell h.2.1, k.frozen h.1 h.2.2.1, k.frozen h.2.1 h.2.2.2⟩

def RTextS (w : World) (p : Nat) (f : Value → ByteArray → Bool → Prop) (e : Ending) (w' : World) : Prop := ∃ v s sh, e = .returned v ∧ ButP p w w' ∧ TextAt w' p s sh ∧ f v s sh

set_option maxRecDepth 100000 in
set_option maxHeartbeats 400000 in
theorem take_any (p : Nat) (n : Int) (s : ByteArray) (sh : Bool) (w : World) (hn : 0 ≤ n) (_hn2 : n ≤ 9223372036854775807) (_hs : s.size ≤ maxLen) (ht : TextAt w p s sh) :
    Calls Tryz.prog 77 #[.pointer (some ⟨p, 0, none⟩), .int .i64 n] w (RTextS w p fun v s' sh' => ∃ x : ByteArray, v = .string x ∧ s'.size ≤ s.size ∧ x.size ≤ n.toNat ∧ x.size + s'.size ≤ s.size ∧ (sh' = false → sh = false ∧ x.size = n.toNat)) := by
  obtain ⟨c0, c1, f0, f1⟩ := ht
  unfold maxLen at _hs
  obtain ⟨m, rfl⟩ := Int.eq_ofNat_of_zero_le hn
  simp only [Int.toNat_natCast]
  by_cases h : s.size < m
  · go_enter Tryz.func77, Tryz.ntmps77
    go_wp2
    go_ret
    refine ⟨_, ByteArray.empty, true, rfl, ?_, ?_, _, rfl, Nat.zero_le _, Nat.zero_le _, Nat.zero_le _, fun h => (by cases h)⟩
    · exact ((ButP.refl _ _).step_set _).step_set _ |>.step_set _
    · exact (TextAt.set0 (TextAt.set0 (TextAt.set1 ⟨c0, c1, f0, f1⟩ true) _) _)
  · go_enter Tryz.func77, Tryz.ntmps77
    go_wp2
    go_ret
    refine ⟨_, s.extract m s.size, sh, rfl, ?_, ?_, _, rfl, ?_, ?_, ?_, ?_⟩
    · exact (ButP.refl _ _).step_set _
    · exact TextAt.set0 ⟨c0, c1, f0, f1⟩ _
    · simp
    · simp; omega
    · simp; omega
    · exact fun h => ⟨h, by simp; omega⟩

theorem numOf_lt' (x : ByteArray) (n : Nat) (h : x.size ≤ n) : 0 ≤ numOf x.data.toList ∧ numOf x.data.toList < 256 ^ n := by
  have h1 := numOf_nonneg x.data.toList n
  have h2 := numOf_lt x.data.toList n
  rw [List.take_of_length_le (by simpa using h)] at h1 h2
  exact ⟨h1, h2⟩

set_option maxRecDepth 100000 in
set_option maxHeartbeats 400000 in
theorem tnumber_any (p : Nat) (n : Int) (s : ByteArray) (sh : Bool) (w : World) (hn : 0 ≤ n) (hn2 : n ≤ 4) (hs : s.size ≤ maxLen) (ht : TextAt w p s sh) :
    Calls Tryz.prog 78 #[.pointer (some ⟨p, 0, none⟩), .int .i64 n] w (RTextS w p fun v s' sh' => ∃ r : Int, v = .int .i64 r ∧ s'.size ≤ s.size ∧ 0 ≤ r ∧ r < 256 ^ n.toNat ∧ (sh' = false → sh = false)) := by
  go_enter Tryz.func78, Tryz.ntmps78
  go_wp2_with fail
  refine (take_any p n s sh _ hn (by omega) hs ht).mono ?_
  rintro e w1 ⟨v, s', sh', rfl, hb1, ht1, x, rfl, h1, h2, h3, h4⟩
  go_wp2_with fail
  refine (number_any _ _ (by omega)).mono ?_
  rintro e w2 ⟨rfl, rfl⟩
  have h5 := numOf_lt' x n.toNat h2
  go_wp2
  go_ret
  exact ⟨_, s', sh', rfl, hb1, ht1, _, rfl, h1, h5.1, h5.2, fun h => (h4 h).1⟩

end Go.Proofs.YtgfildmmcbjpnabGreat

namespace Go.Proofs.YtgfildmmcbjpnabGreat
open Go.RowKit

/-- entries, wherever in their block they begin -/
def EntsOff (w : World) (v : Value) (L : List EN) : Prop := ∃ ao cap, v = .slice ao L.length cap ∧ ∀ j (h : j < L.length), ∃ g off, ao = some ⟨g, off, none⟩ ∧ w.cell? ⟨g, off + j * 3, none⟩ = some (.string L[j].1) ∧ w.cell? ⟨g, off + j * 3 + 1, none⟩ = some (.int .i64 L[j].2.1) ∧ w.cell? ⟨g, off + j * 3 + 2, none⟩ = some (.int .i64 L[j].2.2)
theorem EntsOff.later {a w : World} {v : Value} {L : List EN} (h : EntsOff a v L) (k : Bel a w) : EntsOff w v L := by
  obtain ⟨ao, cap, hv, hc⟩ := h
  refine ⟨ao, cap, hv, fun j hj => ?_⟩
  obtain ⟨g, off, h1, h2, h3, h4⟩ := hc j hj
  exact ⟨g, off, h1, k.cell h2, k.cell h3, k.cell h4⟩
theorem EntsAt.off {w : World} {v : Value} {L : List EN} (h : EntsAt w v L) : EntsOff w v L := by
  rcases h.form with ⟨rfl, rfl⟩ | ⟨g, cap, rfl, _, _, hc⟩
  · exact ⟨none, 0, rfl, fun j hj => by simp at hj⟩
  · refine ⟨_, cap, rfl, fun j hj => ⟨g, 0, rfl, ?_⟩⟩
    simpa using hc j hj

/-- A generation, in memory. -/
def StateAt (w : World) (p : Nat) (c : Cfg) (gen : Int) (B : List BK) (E : List EN) : Prop := ∃ vB vE,
  (w.cell? ⟨p, 0, none⟩ = some (.int .i64 c.alg) ∧ w.cell? ⟨p, 1, none⟩ = some (.int .i64 c.slots) ∧ w.cell? ⟨p, 2, none⟩ = some (.int .i64 c.points) ∧ w.cell? ⟨p, 3, none⟩ = some (.int .i64 c.probes) ∧ w.cell? ⟨p, 4, none⟩ = some (.string c.key) ∧ w.cell? ⟨p, 5, none⟩ = some (.int .i64 c.formats)) ∧
  w.cell? ⟨p, 6, none⟩ = some (.int .i64 gen) ∧ w.cell? ⟨p, 7, none⟩ = some vB ∧ w.cell? ⟨p, 8, none⟩ = some vE ∧ PoolAt w vB B ∧ EntsAt w vE E
theorem StateAt.later {a w : World} {p : Nat} {c : Cfg} {gen : Int} {B : List BK} {E : List EN} (h : StateAt a p c gen B E) (k : Bel a w) : StateAt w p c gen B E := by
  obtain ⟨vB, vE, ⟨h0, h1, h2, h3, h4, h5⟩, h6, h7, h8, h9, h10⟩ := h
  exact ⟨vB, vE, ⟨k.cell h0, k.cell h1, k.cell h2, k.cell h3, k.cell h4, k.cell h5⟩, k.cell h6, k.cell h7, k.cell h8, h9.later k, h10.later k⟩
def Pointed (c : Cfg) : Prop := c.alg = 2 ∨ c.alg = 4
/-- a generation that can be -/
def StateOK (c : Cfg) (gen : Int) (B : List BK) (E : List EN) : Prop := c.OK ∧ I64 gen ∧ PoolOK B ∧ E.length ≤ 140000 ∧ (∀ x ∈ E, (∃ b ∈ B, b.1 = x.1)) ∧ (¬ Pointed c → E = [] ∨ (E.length : Int) = c.slots)

set_option maxRecDepth 100000 in
set_option maxHeartbeats 400000 in
theorem pointed_any (p : Nat) (c : Cfg) (gen : Int) (B : List BK) (E : List EN) (w : World) (h : StateAt w p c gen B E) :
    Calls Tryz.prog 80 #[.pointer (some ⟨p, 0, none⟩)] w (RBool w (IsB (Pointed c))) := by
  obtain ⟨vB, vE, ⟨h0, _⟩, _⟩ := h
  obtain ⟨alg, slots, points, probes, key, formats⟩ := c
  simp only at h0
  by_cases h2 : alg = 2
  · subst h2
    go_enter Tryz.func80, Tryz.ntmps80
    go_wp2
    go_ret
    exact ⟨_, rfl, by (repeat (first | exact Bel.refl _ | assumption | refine Bel.step_alloc ?_ _ | refine Bel.step_drew ?_ | refine Bel.step_drewN ?_ _ | refine Bel.step_set ?_ (by simp <;> omega) _ | refine Bel.trans ?_ (by assumption))), ⟨fun _ => Or.inl rfl, fun _ => rfl⟩⟩
  · have h2' : (alg == 2) = false := by simpa using h2
    go_enter Tryz.func80, Tryz.ntmps80
    go_wp2
    go_ret
    refine ⟨_, rfl, by (repeat (first | exact Bel.refl _ | assumption | refine Bel.step_alloc ?_ _ | refine Bel.step_drew ?_ | refine Bel.step_drewN ?_ _ | refine Bel.step_set ?_ (by simp <;> omega) _ | refine Bel.trans ?_ (by assumption))), ?_⟩
    constructor
    · intro h; exact Or.inr (by simpa using h)
    · intro h
      rcases h with h | h
      · exact absurd h h2
      · simpa using h

set_option maxRecDepth 100000 in
set_option maxHeartbeats 400000 in
theorem place_any (p : Nat) (c : Cfg) (gen : Int) (B : List BK) (E : List EN) (id : ByteArray) (w : World) (h : StateAt w p c gen B E) (hB : B.length ≤ 8) (hid : ∃ b ∈ B, b.1 = id) :
    Calls Tryz.prog 105 #[.pointer (some ⟨p, 0, none⟩), .string id] w (RInt w (Upto B.length)) := by
  obtain ⟨vB, vE, _, _, h7, _, hp, _⟩ := h
  obtain ⟨b, hb, rfl⟩ := hid
  obtain ⟨m, hm, rfl⟩ := List.getElem_of_mem hb
  rcases hp.form with ⟨_, rfl⟩ | ⟨g, cap, rfl, _, hg, hc⟩
  · exact absurd hm (by simp)
  · go_enter Tryz.func105, Tryz.ntmps105
    go_wp2
    go_loopg [5] m (fun r k wr => w = wr ∧ ∃ q : Nat, q ≤ m ∧ r = m - q ∧ k = .int .i64 q)
    case atStart => exact ⟨rfl, 0, by omega, by omega, rfl⟩
    case round =>
      obtain ⟨rfl, q, hq, hr, rfl⟩ := hrel
      have hq' : q < B.length := by omega
      have hcell := (hc q hq').1
      by_cases he : B[q].1 = B[m].1
      · rw [he] at hcell
        generalize B[m].1 = id at *
        clear hc
        go_wp2
        go_ret
        exact ⟨_, rfl, by (repeat (first | exact Bel.refl _ | assumption | refine Bel.step_alloc ?_ _ | refine Bel.step_drew ?_ | refine Bel.step_drewN ?_ _ | refine Bel.step_set ?_ (by simp <;> omega) _ | refine Bel.trans ?_ (by assumption))), by omega, by omega⟩
      · have he' := str_ne he
        have hlt : q < m := by
          rcases Nat.lt_or_ge q m with h | h
          · exact h
          · have : q = m := by omega
            subst this; exact absurd rfl he
        generalize B[m].1 = id at *
        generalize B[q].1 = idq at *
        clear hc
        go_wp2
        go_roundg (m - (q + 1))
        case measure => omega
        case rel => exact ⟨rfl, q + 1, by omega, rfl, by go_num⟩

theorem keep2 {w w' : World} {a0 a1 : Addr} {v0 v1 : Value} (h : Bel w w') (c0 : w.cell? a0 = some v0) (c1 : w.cell? a1 = some v1) : Bel w w' ∧ w'.cell? a0 = some v0 ∧ w'.cell? a1 = some v1 := ⟨h, h.cell c0, h.cell c1⟩
theorem digits_of (l : List UInt8) (h : (l.all fun c => decide (48 ≤ c.toNat ∧ c.toNat ≤ 57)) = true) : Digits ⟨l.toArray⟩ := by
  intro i hi
  have hi' : i < l.length := by simpa [ByteArray.size] using hi
  have := List.all_eq_true.1 h (l[i]) (List.getElem_mem hi')
  simpa [ByteArray.getElem_eq_getElem_data] using this
theorem digits441 : Digits ⟨#[52, 52, 49]⟩ := digits_of [52, 52, 49] (by decide)
theorem I64.three {a b c : Int} (ha : I64 a) (hb : I64 b) (hc : I64 c) : ∀ t, I64 ([a, b, c].getD t 0) := by
  intro t
  match t with
  | 0 => exact ha
  | 1 => exact hb
  | 2 => exact hc
  | _ + 3 => exact (show I64 0 from ⟨by decide, by decide⟩)

set_option maxRecDepth 100000 in
set_option maxHeartbeats 1600000 in
theorem plain_any (p : Nat) (c : Cfg) (gen : Int) (B : List BK) (E L : List EN) (v : Value) (w : World) (h : StateAt w p c gen B E) (hB : B.length ≤ 8) (hv : EntsOff w v L) (hL : L.length ≤ 140000) (hid : ∀ x ∈ L, (∃ b ∈ B, b.1 = x.1) ∧ I64 x.2.1 ∧ I64 x.2.2) :
    Calls Tryz.prog 85 #[.pointer (some ⟨p, 0, none⟩), v] w (RStr w fun s => s.size ≤ 27 * L.length) := by
  obtain ⟨ao, cap, rfl, hc⟩ := hv
  go_enter Tryz.func85, Tryz.ntmps85
  go_wp2_with fail
  refine (pointed_any p c gen B E _ h).mono ?_
  rintro e w1 ⟨pb, rfl, hb1, -⟩
  go_wp2_with fail
  go_loopg [5, 7] L.length (fun r t i wr => ∃ (x : ByteArray) (k : Nat), k ≤ L.length ∧ r = L.length - k ∧ t = .string x ∧ i = .int .i64 k ∧ x.size ≤ 27 * k ∧ Bel w wr)
  case atStart => exact ⟨_, 0, by omega, by omega, rfl, rfl, Nat.zero_le _, hb1⟩
  case round =>
    obtain ⟨x, k, hk, hr, rfl, rfl, hx, hb⟩ := hrel
    by_cases hlt : k < L.length
    · obtain ⟨g, off, rfl, q0, q1, q2⟩ := hc k hlt
      have r0 := hb.cell q0
      have r1 := hb.cell q1
      have r2 := hb.cell q2
      obtain ⟨hidk, ⟨b1, b2⟩, ⟨b3, b4⟩⟩ := hid _ (List.getElem_mem hlt)
      clear hc hid q0 q1 q2
      generalize L[k] = en at *
      obtain ⟨id, ehi, elo⟩ := en
      simp only at r0 r1 r2 hidk b1 b2 b3 b4
      have hx2 : x.size ≤ 9000000 := by omega
      go_wp2_with fail
      refine (place_any p c gen B E id _ (h.later hb) hB hidk).mono ?_
      rintro e w2 ⟨m, rfl, hb2, hm1, hm2⟩
      have s1 := hb2.cell r1
      have s2 := hb2.cell r2
      go_wp2_with fail
      refine (ones_any _ _ _ (by omega) (by omega) (by decide) (by decide)).mono ?_
      rintro e w3 ⟨y, rfl, hb3, hy⟩
      have hy2 : y.size = 2 := by simpa using hy
      clear hy
      have t1 := hb3.cell s1
      have t2 := hb3.cell s2
      cases pb
      · go_wp2_with fail
        go_roundg (L.length - (k + 1))
        case measure => omega
        case rel => exact ⟨_, k + 1, by omega, rfl, rfl, by go_num, by simp; omega, by (repeat (first | exact Bel.refl _ | assumption | refine Bel.step_alloc ?_ _ | refine Bel.step_drew ?_ | refine Bel.step_drewN ?_ _ | refine Bel.step_set ?_ (by simp <;> omega) _ | refine Bel.trans ?_ (by assumption)))⟩
      · go_upto_region 9 with fail
        go_cut [9] (fun a wc => ∃ z : ByteArray, a = .string z ∧ z.size ≤ 27 ∧ Bel w3 wc)
        case first =>
          go_region_held3 (fun w' => Bel w3 w' ∧ w'.cell? ⟨g, off + k * 3 + 1, none⟩ = some (.int .i64 ehi) ∧ w'.cell? ⟨g, off + k * 3 + 2, none⟩ = some (.int .i64 elo)) ((refine keep2 ?_ t1 t2; (repeat (first | exact Bel.refl _ | assumption | refine Bel.step_alloc ?_ _ | refine Bel.step_drew ?_ | refine Bel.step_drewN ?_ _ | refine Bel.step_set ?_ (by simp <;> omega) _ | refine Bel.trans ?_ (by assumption))))) ((go_at_call 62; refine (fields_any _ 3 _ _ [ehi, elo, m] _ rfl (by decide) digits441 (by intro t ht; match t, ht with | 0, _ => simp | 1, _ => simp | 2, _ => simp) (I64.three ⟨b1, b2⟩ ⟨b3, b4⟩ ⟨by omega, by omega⟩)).mono ?_; rintro e w4 ⟨z, rfl, hb4, hz⟩))
          all_goals
            go_wp2_with fail
            go_meet
            case rel => exact ⟨z, rfl, by omega, by (repeat (first | exact Bel.refl _ | assumption | refine Bel.step_alloc ?_ _ | refine Bel.step_drew ?_ | refine Bel.step_drewN ?_ _ | refine Bel.step_set ?_ (by simp <;> omega) _ | refine Bel.trans ?_ (by assumption)))⟩
        case rest =>
          obtain ⟨z, rfl, hz, hbc⟩ := hcut
          go_wp2_with fail
          go_roundg (L.length - (k + 1))
          case measure => omega
          case rel => exact ⟨_, k + 1, by omega, rfl, rfl, by go_num, by simp; omega, by (repeat (first | exact Bel.refl _ | assumption | refine Bel.step_alloc ?_ _ | refine Bel.step_drew ?_ | refine Bel.step_drewN ?_ _ | refine Bel.step_set ?_ (by simp <;> omega) _ | refine Bel.trans ?_ (by assumption)))⟩
    · go_wp2
      go_ret
      exact ⟨_, rfl, hb, by omega⟩

end Go.Proofs.YtgfildmmcbjpnabGreat
