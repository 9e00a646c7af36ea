import Derived.Test.YtgfildmmcbjpnabKS
namespace Go.Proofs.Ytgfildmmcbjpnab
open Go.RowKit

set_option maxRecDepth 100000 in
set_option maxHeartbeats 400000 in
theorem step_restart (W0 : World) (p s : Nat) (k : KI) (a b c : Int) (S : ByteArray) (w : World) (h : KInv W0 p s k w) (hs : s ≤ 65600) (gh ch : Nat) (hvh : k.vh = sl gh 1 ch)
    (hoh : OwnI W0.heap.size w (sl gh 1 ch) [0]) (n3 : gh ≠ p) (ha : I64 a) :
    Calls Try.prog 23 #[.pointer (some ⟨p, 0, none⟩), opV 10 a b c S] w (RStep W0 p (s + 1) FS) := by
  have hpk := fun wx => pick_is a 1 wx ha (by omega) (by omega)
  obtain ⟨h1, h2⟩ := pickF_range a 1 (by omega)
  have hp1 : pickF a 1 = 0 := by omega
  rw [hp1] at hpk
  obtain ⟨nw, xw, hrow, hnw, hgw⟩ := h.2.2.2.2.2.2.2.2.2.2.1
  obtain ⟨aw, capw, hvw⟩ := own_slice hrow
  have c7 := h.1.1 7 _ rfl
  have c15 : w.cell? ⟨p, 15, none⟩ = some (.slice aw nw capw) := by rw [← hvw]; exact h.1.1 15 _ rfl
  have c17 : w.cell? ⟨p, 17, none⟩ = some (.slice (some ⟨gh, 0, none⟩) 1 ch) := (by rw [← hvh]; exact h.1.1 17 _ rfl : w.cell? ⟨p, 17, none⟩ = some (sl gh 1 ch))
  have c18 : w.cell? ⟨p, 18, none⟩ = some (.slice none 0 0) := h.1.1 18 _ rfl
  obtain ⟨cg, fg⟩ := own_first hoh
  have d7 : (w.setCell ⟨gh, 0, none⟩ (.int .i64 0)).cell? ⟨p, 7, none⟩ = _ := (set_other (by simp [n3])).trans c7
  have d15 : (w.setCell ⟨gh, 0, none⟩ (.int .i64 0)).cell? ⟨p, 15, none⟩ = _ := (set_other (by simp [n3])).trans c15
  have d17 : (w.setCell ⟨gh, 0, none⟩ (.int .i64 0)).cell? ⟨p, 17, none⟩ = _ := (set_other (by simp [n3])).trans c17
  have dg : (w.setCell ⟨gh, 0, none⟩ (.int .i64 0)).cell? ⟨gh, 0, none⟩ = some (.int .i64 0) := set_same cg
  have dgf : (w.setCell ⟨gh, 0, none⟩ (.int .i64 0)).frozen? ⟨gh, 0, none⟩ = false := (by rw [frozen_set]; exact fg)
  have hst := fun wx (b' : Bel (w.setCell ⟨gh, 0, none⟩ (.int .i64 0)) wx) => stands_is p k.q gh ch nw capw aw wx (b'.cell d7) (b'.cell d15) (b'.cell d17) (b'.cell dg) (b'.frozen dg dgf) (by omega) n3
  clear d7 d15 d17 dg dgf
  have hplt := h.1.lt (by rw [wl_len]; decide)
  have hp0 := (h.2.2.1 p h.2.1.1).1
  have hB0 := h.2.2.2.1
  have hhl := World.ownsRow.lt hoh gh rfl
  have HW := Hid.mk h.1
  clear h hoh hvh hrow hgw hp1 h1 h2
  unfold opV
  go_enter Try.func23, Try.ntmps23
  go_wp2_with fail
  go_region_held3 (fun w' => Bel w w' ∧ w'.cell? ⟨p, 17, none⟩ = some (.slice (some ⟨gh, 0, none⟩) 1 ch) ∧ w'.cell? ⟨w.heap.size, 1, none⟩ = some (.int .i64 a)) ((exact ⟨by (repeat (first | exact Bel.refl _ | assumption | refine Bel.step_alloc ?_ _ | refine Bel.step_drew ?_ | refine Bel.step_drewN ?_ _ | refine Bel.step_set ?_ (by simp <;> omega) _ | refine Bel.trans ?_ (by assumption))), Bel.cell (a := w) (by (repeat (first | exact Bel.refl _ | assumption | refine Bel.step_alloc ?_ _ | refine Bel.step_drew ?_ | refine Bel.step_drewN ?_ _ | refine Bel.step_set ?_ (by simp <;> omega) _ | refine Bel.trans ?_ (by assumption)))) c17, by simp⟩)) ((go_at_call 32; refine (hpk _).mono ?_; rintro e w2 ⟨rfl, rfl⟩))
  all_goals clear hpk
  go_wp2_with fail
  refine (restart_is _ _ _).mono ?_
  rintro e w2 ⟨rfl, rfl⟩
  go_wp2_with fail
  refine (hst _ (by (repeat (first | exact Bel.refl _ | assumption | refine Bel.step_alloc ?_ _ | refine Bel.step_drew ?_ | refine Bel.step_drewN ?_ _ | refine Bel.step_set ?_ (by simp <;> omega) _ | refine Bel.trans ?_ (by assumption))))).mono ?_
  rintro e w3 ⟨rfl, hb3⟩
  have b3 : But [gh] w w3 := (((But.refl _ w).set (by simp) _).step (by (repeat (first | exact Bel.refl _ | assumption | refine Bel.step_alloc ?_ _ | refine Bel.step_drew ?_ | refine Bel.step_drewN ?_ _ | refine Bel.step_set ?_ (by simp <;> omega) _ | refine Bel.trans ?_ (by assumption))) : Bel (w.setCell ⟨gh, 0, none⟩ (.int .i64 0)) _)).trans hb3
  have hW3 := HW.out.but b3 (by simpa using n3.symm)
  have hB3 : Bel W0 w3 := But.belTo hB0 b3 (by intro j hj; simp at hj; subst hj; exact hhl.1)
  have hfa := fails_is p _ 2 w3 hW3 (by rw [wl_len]; decide)
  have HW3 := Hid.mk hW3
  clear hst hW3 hb3 b3
  go_wp2_with fail
  refine hfa.mono ?_
  rintro e w4 ⟨rfl, rfl⟩
  clear hfa
  go_wp2
  go_ret
  exact Or.inr ⟨rfl, hB3.step_set hp0 _, 2, Or.inr (by simp), set_same (HW3.out.1 0 _ rfl)⟩

end Go.Proofs.Ytgfildmmcbjpnab

namespace Go.Proofs.Ytgfildmmcbjpnab
open Go.RowKit

set_option maxRecDepth 100000 in
set_option maxHeartbeats 400000 in
/-- an old frame more -/
theorem kkeep_is (base p n : Nat) (vf : Value) (xs : List Value) (S : ByteArray) (w : World) (c18 : w.cell? ⟨p, 18, none⟩ = some vf) (f18 : w.frozen? ⟨p, 18, none⟩ = false) (hrow : w.ownsRow base 9 1 vf n xs) (hn : n ≤ 100) (hb : base ≤ w.heap.size) (hvp : vf.ownBlock ≠ some p) :
    Calls Try.prog 62 #[.pointer (some ⟨p, 0, none⟩), .string S] w fun e w' => e = .returned (.tuple #[]) ∧ ∃ g cap w1, But vf.ownBlock.toList w w1 ∧ w' = w1.setCell ⟨p, 18, none⟩ (sl g (n + 1) cap) ∧ w1.ownsRow base 9 1 (sl g (n + 1) cap) (n + 1) (xs ++ [.string S]) ∧ (vf.ownBlock = some g ∨ w.heap.size ≤ g) := by
  obtain ⟨i0, hi, hz0, hz1, hz2⟩ := info_parts Try.infoStr
  have HR := Hid.mk hrow
  have hplt := World.block_lt_of_cell? w _ c18
  clear hrow
  go_enter Try.func62, Try.ntmps62
  go_wp2_with (first | (at_builtin; refine wpList_append_lies _ rfl _ _ 36 rfl base 9 i0 (.string ByteArray.empty) 1 16 Try.underlying36 hi hz0 hz1 hz2 rfl (by decide) _ n xs rfl ?p1 ⟨w.heap.size, 0, none⟩ 1 1 [.string S] rfl rfl ?d1 ?d2 (by decide) ?d3 ?d4 ?d5 _ rfl ?_))
  case p1 => exact World.ownsRow.alloc HR.out _
  try (case d1 => exact one_new _ _ _ _ (by simp))
  case d2 => first | rfl | (intro u hu; simp at hu; subst hu; rfl)
  case d3 => unfold maxLen; omega
  case d4 => omega
  case d5 => first | omega | (simp; omega)
  intro g cap w3 hown3 hgrow3 hat3 hlt3
  have b3 : But vf.ownBlock.toList w w3 := (But.of_bel (Bel.step_alloc (Bel.refl w) _)).trans (grown_but hgrow3)
  have hpn : p ∉ vf.ownBlock.toList := fun h => hvp (by simpa using h)
  have x18 := b3.cell c18 hpn
  have y18 := b3.frozen c18 hpn f18
  have HO := Hid.mk hown3
  have hg : Hid (vf.ownBlock = some g ∨ w.heap.size ≤ g) := hat3.imp id (fun e => by first | omega | (rw [e]; simp))
  clear hown3 hgrow3 hat3
  go_wp2
  go_end0
  exact ⟨rfl, g, cap, w3, b3, rfl, HO.out, hg.out⟩

def RKeep (base p n : Nat) (vf : Value) (xs : List Value) (w : World) (e : Ending) (w' : World) : Prop := e = .returned (.tuple #[]) ∧ ∃ g cap w1, But vf.ownBlock.toList w w1 ∧ w' = w1.setCell ⟨p, 18, none⟩ (sl g (n + 1) cap) ∧ w1.ownsRow base 9 1 (sl g (n + 1) cap) (n + 1) (xs ++ [.string ByteArray.empty]) ∧ (vf.ownBlock = some g ∨ w.heap.size ≤ g)

set_option maxRecDepth 100000 in
set_option maxHeartbeats 400000 in
theorem kround_is (base p q n : Nat) (d how : Int) (vf : Value) (xs : List Value) (w : World) (c7 : w.cell? ⟨p, 7, none⟩ = some (.pointer (some ⟨q, 0, none⟩))) (c18 : w.cell? ⟨p, 18, none⟩ = some vf) (f18 : w.frozen? ⟨p, 18, none⟩ = false) (hrow : w.ownsRow base 9 1 vf n xs) (hn : n ≤ 100) (hb : base ≤ w.heap.size) (hvp : vf.ownBlock ≠ some p) :
    Calls Try.prog 38 #[.pointer (some ⟨p, 0, none⟩), .int .i64 d, .int .i64 how] w (RKeep base p n vf xs w) := by
  have hkp := kkeep_is base p n vf xs ByteArray.empty w c18 f18 hrow hn hb hvp
  have hpn : p ∉ vf.ownBlock.toList := fun h => hvp (by simpa using h)
  clear hrow
  go_enter Try.func38, Try.ntmps38
  go_wp2_with fail
  refine (tick_is _ _ _).mono ?_
  rintro e w2 ⟨rfl, rfl⟩
  go_wp2_with fail
  refine hkp.mono ?_
  rintro e w2 ⟨rfl, g, cap, w1, hbt, rfl, hown, hg⟩
  have HR : Hid (RKeep base p n vf xs w (.returned (.tuple #[])) (w1.setCell ⟨p, 18, none⟩ (sl g (n + 1) cap))) := ⟨rfl, g, cap, w1, hbt, rfl, hown, hg⟩
  have x7 := hbt.cell c7 hpn
  clear hkp hown hg c18 f18
  go_wp2_with fail
  · (try simp only [Exit.inBlock, Exit.then]); refine bodyPost_ret (results_none rfl _ _ _) rfl ?_
    exact HR.out
  · refine (serve_is _ _ _).mono ?_
    rintro e w2 ⟨rfl, rfl⟩
    go_wp2
    (try simp only [Exit.inBlock, Exit.then]); refine bodyPost_ret (results_none rfl _ _ _) rfl ?_
    exact HR.out

end Go.Proofs.Ytgfildmmcbjpnab

namespace Go.Proofs.Ytgfildmmcbjpnab
open Go.RowKit

set_option maxRecDepth 100000 in
set_option maxHeartbeats 400000 in
theorem step_round (W0 : World) (p s : Nat) (k : KI) (a b c : Int) (S : ByteArray) (w : World) (h : KInv W0 p s k w) (hs : s ≤ 65600) (gh ch : Nat) (hvh : k.vh = sl gh 1 ch)
    (hoh : OwnI W0.heap.size w (sl gh 1 ch) [0]) (n3 : gh ≠ p) (ha : I64 a) :
    Calls Try.prog 23 #[.pointer (some ⟨p, 0, none⟩), opV 7 a b c S] w (RStep W0 p (s + 1) FS) := by
  have hpk := fun wx => pick_is a 1 wx ha (by omega) (by omega)
  obtain ⟨h1, h2⟩ := pickF_range a 1 (by omega)
  have hp1 : pickF a 1 = 0 := by omega
  rw [hp1] at hpk
  obtain ⟨nw, xw, hrow, hnw, hgw⟩ := h.2.2.2.2.2.2.2.2.2.2.1
  obtain ⟨aw, capw, hvw⟩ := own_slice hrow
  have c7 := h.1.1 7 _ rfl
  have c15 : w.cell? ⟨p, 15, none⟩ = some (.slice aw nw capw) := by rw [← hvw]; exact h.1.1 15 _ rfl
  have c17 : w.cell? ⟨p, 17, none⟩ = some (.slice (some ⟨gh, 0, none⟩) 1 ch) := (by rw [← hvh]; exact h.1.1 17 _ rfl : w.cell? ⟨p, 17, none⟩ = some (sl gh 1 ch))
  have c18 : w.cell? ⟨p, 18, none⟩ = some (.slice none 0 0) := h.1.1 18 _ rfl
  obtain ⟨cg, fg⟩ := own_first hoh
  have f18 := h.1.2 18 (by rw [wl_len]; decide)
  have hst := fun wx (b' : Bel w wx) (v : Value) => stands_is p k.q gh ch nw capw aw (wx.setCell ⟨p, 18, none⟩ v) ((set_other (by simp)).trans (b'.cell c7)) ((set_other (by simp)).trans (b'.cell c15)) ((set_other (by simp)).trans (b'.cell c17)) ((set_other (by simp [n3.symm])).trans (b'.cell cg)) (by rw [frozen_set]; exact b'.frozen cg fg) (by omega) n3
  have hrd := fun wx (b' : Bel w wx) => kround_is W0.heap.size p k.q 0 0 b (.slice none 0 0) [] wx (b'.cell c7) (b'.cell c18) (b'.frozen c18 f18) (World.ownsRow_nil _ _ _ _) (by omega) (Nat.le_trans h.2.2.2.1.size b'.size) (by simp [Value.ownBlock])
  have hplt := h.1.lt (by rw [wl_len]; decide)
  have hp0 := (h.2.2.1 p h.2.1.1).1
  have hB0 := h.2.2.2.1
  have hhl := World.ownsRow.lt hoh gh rfl
  have HW := Hid.mk h.1
  clear h hoh hvh hrow hgw hp1 h1 h2
  unfold opV
  go_enter Try.func23, Try.ntmps23
  go_wp2_with fail
  go_region_held3 (fun w' => Bel w w' ∧ w'.cell? ⟨p, 17, none⟩ = some (.slice (some ⟨gh, 0, none⟩) 1 ch) ∧ w'.cell? ⟨w.heap.size, 1, none⟩ = some (.int .i64 a)) ((exact ⟨by (repeat (first | exact Bel.refl _ | assumption | refine Bel.step_alloc ?_ _ | refine Bel.step_drew ?_ | refine Bel.step_drewN ?_ _ | refine Bel.step_set ?_ (by simp <;> omega) _ | refine Bel.trans ?_ (by assumption))), Bel.cell (a := w) (by (repeat (first | exact Bel.refl _ | assumption | refine Bel.step_alloc ?_ _ | refine Bel.step_drew ?_ | refine Bel.step_drewN ?_ _ | refine Bel.step_set ?_ (by simp <;> omega) _ | refine Bel.trans ?_ (by assumption)))) c17, by simp⟩)) ((go_at_call 32; refine (hpk _).mono ?_; rintro e w2 ⟨rfl, rfl⟩))
  all_goals clear hpk
  go_wp2_with fail
  refine (hrd _ (by (repeat (first | exact Bel.refl _ | assumption | refine Bel.step_alloc ?_ _ | refine Bel.step_drew ?_ | refine Bel.step_drewN ?_ _ | refine Bel.step_set ?_ (by simp <;> omega) _ | refine Bel.trans ?_ (by assumption))))).mono ?_
  rintro e w2 ⟨rfl, g1, cap1, w1, hbt1, rfl, -, -⟩
  have hbw : Bel w w1 := Bel.trans (by (repeat (first | exact Bel.refl _ | assumption | refine Bel.step_alloc ?_ _ | refine Bel.step_drew ?_ | refine Bel.step_drewN ?_ _ | refine Bel.step_set ?_ (by simp <;> omega) _ | refine Bel.trans ?_ (by assumption)))) (But.bel hbt1 (by simp [Value.ownBlock]))
  have x7 := hbw.cell c7
  have x17 := hbw.cell c17
  have hs1 := hbw.size
  have hst := hst w1 hbw (sl g1 (0 + 1) cap1)
  clear hrd hbt1
  go_wp2_with fail
  refine hst.mono ?_
  rintro e w3 ⟨rfl, hb3⟩
  have hW3 := ((HW.out.later hbw).set 18 _).but hb3 (by simpa using n3.symm)
  have hB3 : Bel W0 w3 := But.belTo ((hB0.trans hbw).step_set hp0 _) hb3 (by intro j hj; simp at hj; subst hj; exact hhl.1)
  have hfa := fails_is p _ 2 w3 hW3 (by simp [wl_len])
  have HW3 := Hid.mk hW3
  clear hst hW3 hb3
  go_wp2_with fail
  refine hfa.mono ?_
  rintro e w4 ⟨rfl, rfl⟩
  clear hfa
  go_wp2
  go_ret
  exact Or.inr ⟨rfl, hB3.step_set hp0 _, 2, Or.inr (by simp), set_same (HW3.out.1 0 _ rfl)⟩

end Go.Proofs.Ytgfildmmcbjpnab

namespace Go.Proofs.Ytgfildmmcbjpnab
open Go.RowKit

theorem most_is (a b : Int) (w : World) : Calls Try.prog 63 #[.int .i64 a, .int .i64 b] w fun e w' => e = .returned (.int .i64 (if b < a then a else b)) ∧ w = w' := by
  by_cases h : b < a
  · have h1 : decide (a > b) = true := decide_eq_true h
    go_enter Try.func63, Try.ntmps63
    go_wp2
    go_ret
    exact ⟨rfl, rfl⟩
  · have h1 : decide (a > b) = false := decide_eq_false h
    go_enter Try.func63, Try.ntmps63
    go_wp2
    go_ret
    exact ⟨rfl, rfl⟩

theorem half_range {b : Int} (h : I64 b) : I64 (b.tdiv 2) := by
  unfold I64 at *
  rcases Int.le_total 0 b with h1 | h1
  · rw [Int.tdiv_eq_ediv_of_nonneg h1]; omega
  · have : b.tdiv 2 = -((-b).tdiv 2) := by rw [Int.neg_tdiv]; omega
    rw [this, Int.tdiv_eq_ediv_of_nonneg (by omega)]; omega

end Go.Proofs.Ytgfildmmcbjpnab
