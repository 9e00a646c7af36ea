import Derived.Test.YtgfildmmcbjpnabKR
namespace Go.Proofs.Ytgfildmmcbjpnab
open Go.RowKit

theorem held_is (v d : Value) (w : World) : Calls Try.prog 19 #[v, d] w fun e w' => e = .returned (.tuple #[.int .i64 0, .int .i64 0]) ∧ w = w' := by
  go_enter Try.func19, Try.ntmps19
  go_wp2
  go_ret2
  exact ⟨rfl, rfl⟩
theorem lookup_is (v d x : Value) (w : World) : Calls Try.prog 20 #[v, d, x] w fun e w' => e = .returned (.tuple #[.string ByteArray.empty, .int .i64 0]) ∧ w = w' := by
  go_enter Try.func20, Try.ntmps20
  go_wp2
  go_ret2
  exact ⟨rfl, rfl⟩
theorem tick_is (v d : Value) (w : World) : Calls Try.prog 16 #[v, d] w fun e w' => e = .returned (.tuple #[.string ByteArray.empty, .int .i64 0]) ∧ w = w' := by
  go_enter Try.func16, Try.ntmps16
  go_wp2
  go_ret2
  exact ⟨rfl, rfl⟩
theorem serve_is (v d : Value) (w : World) : Calls Try.prog 17 #[v, d] w fun e w' => e = .returned (.string ByteArray.empty) ∧ w = w' := by
  go_enter Try.func17, Try.ntmps17
  go_wp2
  go_ret
  exact ⟨rfl, rfl⟩
theorem receive_is (v d x : Value) (w : World) : Calls Try.prog 18 #[v, d, x] w fun e w' => e = .returned (.int .i64 0) ∧ w = w' := by
  go_enter Try.func18, Try.ntmps18
  go_wp2
  go_ret
  exact ⟨rfl, rfl⟩
theorem restart_is (v d : Value) (w : World) : Calls Try.prog 41 #[v, d] w fun e w' => e = .returned (.int .i64 0) ∧ w = w' := by
  go_enter Try.func41, Try.ntmps41
  go_wp2
  go_ret
  exact ⟨rfl, rfl⟩

set_option maxRecDepth 100000 in
set_option maxHeartbeats 400000 in
theorem stands_is (p q gh ch n capw : Nat) (aw : Option Addr) (w : World) (c7 : w.cell? ⟨p, 7, none⟩ = some (.pointer (some ⟨q, 0, none⟩))) (c15 : w.cell? ⟨p, 15, none⟩ = some (.slice aw n capw)) (c17 : w.cell? ⟨p, 17, none⟩ = some (.slice (some ⟨gh, 0, none⟩) 1 ch))
    (cg : w.cell? ⟨gh, 0, none⟩ = some (.int .i64 0)) (fg : w.frozen? ⟨gh, 0, none⟩ = false) (hn : n ≤ 100000) (hne : gh ≠ p) :
    Calls Try.prog 43 #[.pointer (some ⟨p, 0, none⟩), .int .i64 0] w fun e w' => e = .returned (.bool false) ∧ But [gh] w w' := by
  go_enter Try.func43, Try.ntmps43
  go_wp2_with fail
  refine (held_is _ _ _).mono ?_
  rintro e w2 ⟨rfl, rfl⟩
  by_cases hn0 : n = 0
  · subst hn0
    go_wp2
    go_ret
    exact ⟨rfl, by (repeat (first | exact But.refl _ _ | assumption | refine But.drew ?_ | refine But.drewN ?_ _ | refine But.alloc ?_ _ | refine But.set ?_ (by simp) _ | refine But.trans ?_ (by assumption) | refine But.step ?_ (by assumption)))⟩
  have hlen : decide ((n : Int) ≤ 0) = false := decide_eq_false (by omega)
  have hlen2 : decide ((0 : Int) ≥ (n : Int)) = false := decide_eq_false (by omega)
  go_wp2
  go_loopg [7] 12 (fun r nk wr => r = 12 ∧ nk = .int .i64 0 ∧ wr = w.setCell ⟨gh, 0, none⟩ (.int .i64 0))
  case atStart => exact ⟨rfl, rfl, rfl⟩
  case round =>
    obtain ⟨rfl, rfl, rfl⟩ := hrel
    have hkey := fun wx => key_is 0 wx (by omega)
    have x7 : (w.setCell ⟨gh, 0, none⟩ (.int .i64 0)).cell? ⟨p, 7, none⟩ = some (.pointer (some ⟨q, 0, none⟩)) := by rw [set_other (by simp [hne])]; exact c7
    go_wp2_with fail
    refine (hkey _).mono ?_
    rintro e w2 ⟨rfl, hb2⟩
    have x7b := hb2.cell x7
    have hbt : But [gh] w w2 := ((But.refl _ w).set (by simp) _).step hb2
    go_wp2_with fail
    refine (lookup_is _ _ _ _).mono ?_
    rintro e w3 ⟨rfl, rfl⟩
    go_wp2
    go_ret
    exact ⟨rfl, hbt⟩

end Go.Proofs.Ytgfildmmcbjpnab

namespace Go.Proofs.Ytgfildmmcbjpnab
open Go.RowKit

theorem own_first {base : Nat} {w : World} {g c : Nat} {x : Int} (h : OwnI base w (sl g 1 c) [x]) : w.cell? ⟨g, 0, none⟩ = some (.int .i64 x) ∧ w.frozen? ⟨g, 0, none⟩ = false := by
  exact ⟨(World.ownsRow.cellAt h 0 (by simp)).trans rfl, World.ownsRow.frozenAt h 0⟩
theorem old_is (p : Nat) (d b : Int) (w : World) (c18 : w.cell? ⟨p, 18, none⟩ = some (.slice none 0 0)) : Calls Try.prog 39 #[.pointer (some ⟨p, 0, none⟩), .int .i64 d, .int .i64 b] w fun e w' => e = .returned (.tuple #[]) ∧ w = w' := by
  go_enter Try.func39, Try.ntmps39
  go_wp2
  (try simp only [Exit.inBlock, Exit.then]); refine bodyPost_ret (results_none rfl _ _ _) rfl ?_
  exact ⟨rfl, rfl⟩
theorem burst_is (p : Nat) (d b c : Int) (S : ByteArray) (w : World) (c18 : w.cell? ⟨p, 18, none⟩ = some (.slice none 0 0)) : Calls Try.prog 40 #[.pointer (some ⟨p, 0, none⟩), .int .i64 d, .int .i64 b, .int .i64 c, .string S] w fun e w' => e = .returned (.bool true) ∧ w = w' := by
  go_enter Try.func40, Try.ntmps40
  go_wp2
  go_ret
  exact ⟨rfl, rfl⟩

set_option maxRecDepth 100000 in
set_option maxHeartbeats 400000 in
theorem step_else (W0 : World) (p s : Nat) (k : KI) (kd a b c : Int) (S : ByteArray) (w : World) (h : KInv W0 p s k w) (hs : s ≤ 65600) (gh ch : Nat) (hvh : k.vh = sl gh 1 ch)
    (hoh : OwnI W0.heap.size w (sl gh 1 ch) [0]) (n3 : gh ≠ p) (ha : I64 a) (hkd : kd < 1 ∨ 13 < kd) :
    Calls Try.prog 23 #[.pointer (some ⟨p, 0, none⟩), opV kd a b c S] w (RStep W0 p (s + 1) FS) := by
  have hpk := fun wx => pick_is a 1 wx ha (by omega) (by omega)
  obtain ⟨h1, h2⟩ := pickF_range a 1 (by omega)
  have hp1 : pickF a 1 = 0 := by omega
  rw [hp1] at hpk
  obtain ⟨nw, xw, hrow, hnw, hgw⟩ := h.2.2.2.2.2.2.2.2.2.2.1
  obtain ⟨aw, capw, hvw⟩ := own_slice hrow
  have c7 := h.1.1 7 _ rfl
  have c15 : w.cell? ⟨p, 15, none⟩ = some (.slice aw nw capw) := by rw [← hvw]; exact h.1.1 15 _ rfl
  have c17 : w.cell? ⟨p, 17, none⟩ = some (.slice (some ⟨gh, 0, none⟩) 1 ch) := (by rw [← hvh]; exact h.1.1 17 _ rfl : w.cell? ⟨p, 17, none⟩ = some (sl gh 1 ch))
  have c18 : w.cell? ⟨p, 18, none⟩ = some (.slice none 0 0) := h.1.1 18 _ rfl
  obtain ⟨cg, fg⟩ := own_first hoh
  have hst := fun wx (b' : Bel w wx) => stands_is p k.q gh ch nw capw aw wx (b'.cell c7) (b'.cell c15) (b'.cell c17) (b'.cell cg) (b'.frozen cg fg) (by omega) n3
  have hplt := h.1.lt (by rw [wl_len]; decide)
  have hp0 := (h.2.2.1 p h.2.1.1).1
  have hB0 := h.2.2.2.1
  have hhl := World.ownsRow.lt hoh gh rfl
  have HW := Hid.mk h.1
  clear h hoh hvh hrow hgw hp1 h1 h2
  have e1 : (kd == 1) = false := by rw [beq_eq_false_iff_ne]; omega
  have e2 : (kd == 2) = false := by rw [beq_eq_false_iff_ne]; omega
  have e3 : (kd == 3) = false := by rw [beq_eq_false_iff_ne]; omega
  have e4 : (kd == 4) = false := by rw [beq_eq_false_iff_ne]; omega
  have e5 : (kd == 5) = false := by rw [beq_eq_false_iff_ne]; omega
  have e6 : (kd == 6) = false := by rw [beq_eq_false_iff_ne]; omega
  have e7 : (kd == 7) = false := by rw [beq_eq_false_iff_ne]; omega
  have e8 : (kd == 8) = false := by rw [beq_eq_false_iff_ne]; omega
  have e9 : (kd == 9) = false := by rw [beq_eq_false_iff_ne]; omega
  have e10 : (kd == 10) = false := by rw [beq_eq_false_iff_ne]; omega
  have e11 : (kd == 11) = false := by rw [beq_eq_false_iff_ne]; omega
  have e12 : (kd == 12) = false := by rw [beq_eq_false_iff_ne]; omega
  have e13 : (kd == 13) = false := by rw [beq_eq_false_iff_ne]; omega
  unfold opV
  go_enter Try.func23, Try.ntmps23
  go_wp2_with fail
  go_region_held3 (fun w' => Bel w w' ∧ w'.cell? ⟨p, 17, none⟩ = some (.slice (some ⟨gh, 0, none⟩) 1 ch) ∧ w'.cell? ⟨w.heap.size, 1, none⟩ = some (.int .i64 a)) ((exact ⟨by (repeat (first | exact Bel.refl _ | assumption | refine Bel.step_alloc ?_ _ | refine Bel.step_drew ?_ | refine Bel.step_drewN ?_ _ | refine Bel.step_set ?_ (by simp <;> omega) _ | refine Bel.trans ?_ (by assumption))), Bel.cell (a := w) (by (repeat (first | exact Bel.refl _ | assumption | refine Bel.step_alloc ?_ _ | refine Bel.step_drew ?_ | refine Bel.step_drewN ?_ _ | refine Bel.step_set ?_ (by simp <;> omega) _ | refine Bel.trans ?_ (by assumption)))) c17, by simp⟩)) ((go_at_call 32; refine (hpk _).mono ?_; rintro e w2 ⟨rfl, rfl⟩))
  all_goals clear hpk
  go_wp2_with fail
  refine (hst _ (by (repeat (first | exact Bel.refl _ | assumption | refine Bel.step_alloc ?_ _ | refine Bel.step_drew ?_ | refine Bel.step_drewN ?_ _ | refine Bel.step_set ?_ (by simp <;> omega) _ | refine Bel.trans ?_ (by assumption))))).mono ?_
  rintro e w3 ⟨rfl, hb3⟩
  have b3 : But [gh] w w3 := (But.of_bel (by (repeat (first | exact Bel.refl _ | assumption | refine Bel.step_alloc ?_ _ | refine Bel.step_drew ?_ | refine Bel.step_drewN ?_ _ | refine Bel.step_set ?_ (by simp <;> omega) _ | refine Bel.trans ?_ (by assumption))))).trans hb3
  have hW3 := HW.out.but b3 (by simpa using n3.symm)
  have hB3 : Bel W0 w3 := But.belTo hB0 b3 (by intro j hj; simp at hj; subst hj; exact hhl.1)
  have hfa := fails_is p _ 2 w3 hW3 (by rw [wl_len]; decide)
  have HW3 := Hid.mk hW3
  clear hst hW3 hb3 b3
  go_wp2_with fail
  refine hfa.mono ?_
  rintro e w4 ⟨rfl, rfl⟩
  clear hfa
  go_wp2
  go_ret
  exact Or.inr ⟨rfl, hB3.step_set hp0 _, 2, Or.inr (by simp), set_same (HW3.out.1 0 _ rfl)⟩

set_option maxRecDepth 100000 in
set_option maxHeartbeats 400000 in
theorem step_old (W0 : World) (p s : Nat) (k : KI) (a b c : Int) (S : ByteArray) (w : World) (h : KInv W0 p s k w) (hs : s ≤ 65600) (gh ch : Nat) (hvh : k.vh = sl gh 1 ch)
    (hoh : OwnI W0.heap.size w (sl gh 1 ch) [0]) (n3 : gh ≠ p) (ha : I64 a) :
    Calls Try.prog 23 #[.pointer (some ⟨p, 0, none⟩), opV 8 a b c S] w (RStep W0 p (s + 1) FS) := by
  have hpk := fun wx => pick_is a 1 wx ha (by omega) (by omega)
  obtain ⟨h1, h2⟩ := pickF_range a 1 (by omega)
  have hp1 : pickF a 1 = 0 := by omega
  rw [hp1] at hpk
  obtain ⟨nw, xw, hrow, hnw, hgw⟩ := h.2.2.2.2.2.2.2.2.2.2.1
  obtain ⟨aw, capw, hvw⟩ := own_slice hrow
  have c7 := h.1.1 7 _ rfl
  have c15 : w.cell? ⟨p, 15, none⟩ = some (.slice aw nw capw) := by rw [← hvw]; exact h.1.1 15 _ rfl
  have c17 : w.cell? ⟨p, 17, none⟩ = some (.slice (some ⟨gh, 0, none⟩) 1 ch) := (by rw [← hvh]; exact h.1.1 17 _ rfl : w.cell? ⟨p, 17, none⟩ = some (sl gh 1 ch))
  have c18 : w.cell? ⟨p, 18, none⟩ = some (.slice none 0 0) := h.1.1 18 _ rfl
  obtain ⟨cg, fg⟩ := own_first hoh
  have hst := fun wx (b' : Bel w wx) => stands_is p k.q gh ch nw capw aw wx (b'.cell c7) (b'.cell c15) (b'.cell c17) (b'.cell cg) (b'.frozen cg fg) (by omega) n3
  have hplt := h.1.lt (by rw [wl_len]; decide)
  have hp0 := (h.2.2.1 p h.2.1.1).1
  have hB0 := h.2.2.2.1
  have hhl := World.ownsRow.lt hoh gh rfl
  have HW := Hid.mk h.1
  clear h hoh hvh hrow hgw hp1 h1 h2
  unfold opV
  go_enter Try.func23, Try.ntmps23
  go_wp2_with fail
  go_region_held3 (fun w' => Bel w w' ∧ w'.cell? ⟨p, 17, none⟩ = some (.slice (some ⟨gh, 0, none⟩) 1 ch) ∧ w'.cell? ⟨w.heap.size, 1, none⟩ = some (.int .i64 a)) ((exact ⟨by (repeat (first | exact Bel.refl _ | assumption | refine Bel.step_alloc ?_ _ | refine Bel.step_drew ?_ | refine Bel.step_drewN ?_ _ | refine Bel.step_set ?_ (by simp <;> omega) _ | refine Bel.trans ?_ (by assumption))), Bel.cell (a := w) (by (repeat (first | exact Bel.refl _ | assumption | refine Bel.step_alloc ?_ _ | refine Bel.step_drew ?_ | refine Bel.step_drewN ?_ _ | refine Bel.step_set ?_ (by simp <;> omega) _ | refine Bel.trans ?_ (by assumption)))) c17, by simp⟩)) ((go_at_call 32; refine (hpk _).mono ?_; rintro e w2 ⟨rfl, rfl⟩))
  all_goals clear hpk
  have hol := fun wx (b' : Bel w wx) => old_is p 0 b wx (b'.cell c18)
  go_wp2_with fail
  refine (hol _ (by (repeat (first | exact Bel.refl _ | assumption | refine Bel.step_alloc ?_ _ | refine Bel.step_drew ?_ | refine Bel.step_drewN ?_ _ | refine Bel.step_set ?_ (by simp <;> omega) _ | refine Bel.trans ?_ (by assumption))))).mono ?_
  rintro e w2 ⟨rfl, rfl⟩
  clear hol
  go_wp2_with fail
  refine (hst _ (by (repeat (first | exact Bel.refl _ | assumption | refine Bel.step_alloc ?_ _ | refine Bel.step_drew ?_ | refine Bel.step_drewN ?_ _ | refine Bel.step_set ?_ (by simp <;> omega) _ | refine Bel.trans ?_ (by assumption))))).mono ?_
  rintro e w3 ⟨rfl, hb3⟩
  have b3 : But [gh] w w3 := (But.of_bel (by (repeat (first | exact Bel.refl _ | assumption | refine Bel.step_alloc ?_ _ | refine Bel.step_drew ?_ | refine Bel.step_drewN ?_ _ | refine Bel.step_set ?_ (by simp <;> omega) _ | refine Bel.trans ?_ (by assumption))))).trans hb3
  have hW3 := HW.out.but b3 (by simpa using n3.symm)
  have hB3 : Bel W0 w3 := But.belTo hB0 b3 (by intro j hj; simp at hj; subst hj; exact hhl.1)
  have hfa := fails_is p _ 2 w3 hW3 (by rw [wl_len]; decide)
  have HW3 := Hid.mk hW3
  clear hst hW3 hb3 b3
  go_wp2_with fail
  refine hfa.mono ?_
  rintro e w4 ⟨rfl, rfl⟩
  clear hfa
  go_wp2
  go_ret
  exact Or.inr ⟨rfl, hB3.step_set hp0 _, 2, Or.inr (by simp), set_same (HW3.out.1 0 _ rfl)⟩

set_option maxRecDepth 100000 in
set_option maxHeartbeats 400000 in
theorem step_burst (W0 : World) (p s : Nat) (k : KI) (a b c : Int) (S : ByteArray) (w : World) (h : KInv W0 p s k w) (hs : s ≤ 65600) (gh ch : Nat) (hvh : k.vh = sl gh 1 ch)
    (hoh : OwnI W0.heap.size w (sl gh 1 ch) [0]) (n3 : gh ≠ p) (ha : I64 a) :
    Calls Try.prog 23 #[.pointer (some ⟨p, 0, none⟩), opV 9 a b c S] w (RStep W0 p (s + 1) FS) := by
  have hpk := fun wx => pick_is a 1 wx ha (by omega) (by omega)
  obtain ⟨h1, h2⟩ := pickF_range a 1 (by omega)
  have hp1 : pickF a 1 = 0 := by omega
  rw [hp1] at hpk
  obtain ⟨nw, xw, hrow, hnw, hgw⟩ := h.2.2.2.2.2.2.2.2.2.2.1
  obtain ⟨aw, capw, hvw⟩ := own_slice hrow
  have c7 := h.1.1 7 _ rfl
  have c15 : w.cell? ⟨p, 15, none⟩ = some (.slice aw nw capw) := by rw [← hvw]; exact h.1.1 15 _ rfl
  have c17 : w.cell? ⟨p, 17, none⟩ = some (.slice (some ⟨gh, 0, none⟩) 1 ch) := (by rw [← hvh]; exact h.1.1 17 _ rfl : w.cell? ⟨p, 17, none⟩ = some (sl gh 1 ch))
  have c18 : w.cell? ⟨p, 18, none⟩ = some (.slice none 0 0) := h.1.1 18 _ rfl
  obtain ⟨cg, fg⟩ := own_first hoh
  have hst := fun wx (b' : Bel w wx) => stands_is p k.q gh ch nw capw aw wx (b'.cell c7) (b'.cell c15) (b'.cell c17) (b'.cell cg) (b'.frozen cg fg) (by omega) n3
  have hplt := h.1.lt (by rw [wl_len]; decide)
  have hp0 := (h.2.2.1 p h.2.1.1).1
  have hB0 := h.2.2.2.1
  have hhl := World.ownsRow.lt hoh gh rfl
  have HW := Hid.mk h.1
  clear h hoh hvh hrow hgw hp1 h1 h2
  unfold opV
  go_enter Try.func23, Try.ntmps23
  go_wp2_with fail
  go_region_held3 (fun w' => Bel w w' ∧ w'.cell? ⟨p, 17, none⟩ = some (.slice (some ⟨gh, 0, none⟩) 1 ch) ∧ w'.cell? ⟨w.heap.size, 1, none⟩ = some (.int .i64 a)) ((exact ⟨by (repeat (first | exact Bel.refl _ | assumption | refine Bel.step_alloc ?_ _ | refine Bel.step_drew ?_ | refine Bel.step_drewN ?_ _ | refine Bel.step_set ?_ (by simp <;> omega) _ | refine Bel.trans ?_ (by assumption))), Bel.cell (a := w) (by (repeat (first | exact Bel.refl _ | assumption | refine Bel.step_alloc ?_ _ | refine Bel.step_drew ?_ | refine Bel.step_drewN ?_ _ | refine Bel.step_set ?_ (by simp <;> omega) _ | refine Bel.trans ?_ (by assumption)))) c17, by simp⟩)) ((go_at_call 32; refine (hpk _).mono ?_; rintro e w2 ⟨rfl, rfl⟩))
  all_goals clear hpk
  have hol := fun wx (b' : Bel w wx) => burst_is p 0 b c S wx (b'.cell c18)
  go_wp2_with fail
  refine (hol _ (by (repeat (first | exact Bel.refl _ | assumption | refine Bel.step_alloc ?_ _ | refine Bel.step_drew ?_ | refine Bel.step_drewN ?_ _ | refine Bel.step_set ?_ (by simp <;> omega) _ | refine Bel.trans ?_ (by assumption))))).mono ?_
  rintro e w2 ⟨rfl, rfl⟩
  clear hol
  go_wp2_with fail
  refine (hst _ (by (repeat (first | exact Bel.refl _ | assumption | refine Bel.step_alloc ?_ _ | refine Bel.step_drew ?_ | refine Bel.step_drewN ?_ _ | refine Bel.step_set ?_ (by simp <;> omega) _ | refine Bel.trans ?_ (by assumption))))).mono ?_
  rintro e w3 ⟨rfl, hb3⟩
  have b3 : But [gh] w w3 := (But.of_bel (by (repeat (first | exact Bel.refl _ | assumption | refine Bel.step_alloc ?_ _ | refine Bel.step_drew ?_ | refine Bel.step_drewN ?_ _ | refine Bel.step_set ?_ (by simp <;> omega) _ | refine Bel.trans ?_ (by assumption))))).trans hb3
  have hW3 := HW.out.but b3 (by simpa using n3.symm)
  have hB3 : Bel W0 w3 := But.belTo hB0 b3 (by intro j hj; simp at hj; subst hj; exact hhl.1)
  have hfa := fails_is p _ 2 w3 hW3 (by rw [wl_len]; decide)
  have HW3 := Hid.mk hW3
  clear hst hW3 hb3 b3
  go_wp2_with fail
  refine hfa.mono ?_
  rintro e w4 ⟨rfl, rfl⟩
  clear hfa
  go_wp2
  go_ret
  exact Or.inr ⟨rfl, hB3.step_set hp0 _, 2, Or.inr (by simp), set_same (HW3.out.1 0 _ rfl)⟩

end Go.Proofs.Ytgfildmmcbjpnab
