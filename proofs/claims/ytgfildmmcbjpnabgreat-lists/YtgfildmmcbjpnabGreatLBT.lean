import Derived.Test.YtgfildmmcbjpnabGreatLBN
import Derived.Test.YtgfildmmcbjpnabGreatLBR
import Derived.Test.YtgfildmmcbjpnabGreatLBS
namespace Go.Proofs.YtgfildmmcbjpnabGreat
open Go.RowKit
set_option linter.unusedVariables false

theorem ldrop_is (v : Value) (w : World) : Calls Tryz.prog 26 #[v] w fun e w' => e = .returned (.tuple #[]) ∧ w = w' := by
  go_enter Tryz.func26, Tryz.ntmps26
  go_wp2
  go_end0
  exact ⟨rfl, rfl⟩
/-- the kinds whose answers are held -/
def HeldK (k : Int) : Prop := k = 3 ∨ k = 4 ∨ k = 5 ∨ k = 6 ∨ k = 9 ∨ k = 10
/-- a step was taken -/
def RStep (W0 : Base) (p s : Nat) (k : Int) (e : Ending) (w' : World) : Prop := ∃ b : Bool, e = .returned (.bool b) ∧ (HeldK k → b = true) ∧ ∃ x, WInv W0 s x w' ∧ x.p = p
theorem RYes.step {W0 : Base} {p s : Nat} {k : Int} {e : Ending} {w' : World} (h : RYes W0 p s e w') : RStep W0 p s k e w' := ⟨true, h.1, fun _ => rfl, h.2⟩
theorem RGo.step {W0 : Base} {p s : Nat} {k : Int} {e : Ending} {w' : World} (h : RGo W0 p s e w') (hk : ¬ HeldK k) : RStep W0 p s k e w' := by
  obtain ⟨b, h1, h2⟩ := h
  exact ⟨b, h1, fun e => absurd e hk, h2⟩
theorem RDelta.step {W0 : Base} {s : Nat} {k : Int} {x : WG} {w wx : World} (h : WInv W0 s x w) (b : Bel w wx) (hs : s ≤ 69999) (j : Nat) (hj : j < x.prs.length) {e : Ending} {w' : World} (hr : RDelta W0.heap.size x.M x.prs[j] wx e w') : RStep W0 x.p (s + 1) k e w' :=
  ⟨true, hr.1, fun _ => rfl, (h.later b).rpr j hj (hr.rpr ((h.later b).dpre j hj hs))⟩
theorem RPrB.step {W0 : Base} {s : Nat} {k : Int} {x : WG} {w wx : World} (h : WInv W0 s x w) (b : Bel w wx) (j : Nat) (hj : j < x.prs.length) (hk : ¬ HeldK k) {e : Ending} {w' : World} (hr : RPrB W0.heap.size x.M x.prs[j] wx e w') : RStep W0 x.p (s + 1) k e w' := by
  obtain ⟨b1, h1, h2⟩ := hr
  exact ⟨b1, h1, fun e => absurd e hk, (h.later b).rpr j hj h2⟩

set_option maxRecDepth 100000 in
set_option maxHeartbeats 1000000 in
theorem step_own (W0 : Base) (s : Nat) (x : WG) (k A B C : Int) (S : ByteArray) (w : World) (h : WInv W0 s x w) (hs : s ≤ 69999) (hA : I64 A) (hB : I64 B) (hC : I64 C) (hS : S.size ≤ 65536) (hk : k = 1 ∨ k = 2 ∨ k = 18 ∨ k = 19 ∨ k = 20 ∨ k = 21 ∨ k = 25) :
    Calls Tryz.prog 12 #[.pointer (some ⟨x.p, 0, none⟩), opv k A B C S] w (RStep W0 x.p (s + 1) k) := by
  have how := fun wx (b : Bel w wx) => lowner_is W0 s x k A B C S wx (h.later b) (by omega) hA hB hC (by omega) hk
  generalize x.p = p at *
  clear h hk
  unfold opv at *
  go_enter Tryz.func12, Tryz.ntmps12
  go_wp2_with fail
  refine (how _ (by (repeat (first | exact Bel.refl _ | assumption | refine Bel.step_alloc ?_ _ | refine Bel.step_drew ?_ | refine Bel.step_drewN ?_ _ | refine Bel.step_set ?_ (by simp <;> omega) _ | refine Bel.trans ?_ (by assumption))))).mono ?_
  rintro e w1 ⟨rfl, hx⟩
  have HX := Hid.mk hx
  clear hx how
  go_wp2
  go_ret
  exact ⟨true, rfl, fun _ => rfl, HX.out⟩

set_option maxRecDepth 100000 in
set_option maxHeartbeats 1000000 in
theorem step_new (W0 : Base) (s : Nat) (x : WG) (A B C : Int) (S : ByteArray) (w : World) (h : WInv W0 s x w) (hs : s ≤ 69999) (hA : I64 A) (hB : I64 B) (hC : I64 C) (hS : S.size ≤ 65536) :
    Calls Tryz.prog 12 #[.pointer (some ⟨x.p, 0, none⟩), opv 3 A B C S] w (RStep W0 x.p (s + 1) 3) := by
  have hno := fun wx => owner_not x.p 3 A B C S wx (by simp)
  have hmd := fun wx (b : Bel w wx) => (wmade_is W0 s x wx (h.later b) (by omega)).mono (fun e w' hr => (show RStep W0 x.p (s + 1) 3 e w' from ⟨true, hr.1, fun _ => rfl, hr.2⟩))
  generalize x.p = p at *
  clear h
  unfold opv at *
  go_enter Tryz.func12, Tryz.ntmps12
  go_wp2_with fail
  obtain ⟨wo, hwo, hbo, o0, o1, o2, o3, o4⟩ := op_box w (.int .i64 3) (.int .i64 A) (.int .i64 B) (.int .i64 C) (.string S) 28
  rw [hwo]
  clear hwo
  generalize w.heap.size = po at o0 o1 o2 o3 o4 ⊢
  refine (hno _).mono ?_
  rintro e w1 ⟨rfl, hb1⟩
  have j0 := hb1.cell o0
  have hbw1 := hbo.trans hb1
  clear hno hbo hb1 o0 o1 o2 o3 o4
  go_wp2_with fail
  refine (hmd _ hbw1).mono ?_
  rintro e w2 ⟨b, rfl, hbt, hx⟩
  have HX := Hid.mk hx
  have HB := Hid.mk hbt
  clear hx hbt hmd
  go_wp2
  go_ret
  exact ⟨b, rfl, HB.out, HX.out⟩

set_option maxRecDepth 100000 in
set_option maxHeartbeats 1000000 in
theorem step_decode (W0 : Base) (s : Nat) (x : WG) (A B C : Int) (S : ByteArray) (w : World) (h : WInv W0 s x w) (hs : s ≤ 69999) (hA : I64 A) (hB : I64 B) (hC : I64 C) (hS : S.size ≤ 65536) :
    Calls Tryz.prog 12 #[.pointer (some ⟨x.p, 0, none⟩), opv 22 A B C S] w (RStep W0 x.p (s + 1) 22) := by
  have hno := fun wx => owner_not x.p 22 A B C S wx (by simp)
  have him := fun wx (b : Bel w wx) => (images_decode W0 s x A B C S wx (h.later b) (by omega) hA hB).mono (fun e w' hr => (show RStep W0 x.p (s + 1) 22 e w' from hr.step (by simp [HeldK])))
  generalize x.p = p at *
  clear h
  unfold opv at *
  go_enter Tryz.func12, Tryz.ntmps12
  go_wp2_with fail
  obtain ⟨wo, hwo, hbo, o0, o1, o2, o3, o4⟩ := op_box w (.int .i64 22) (.int .i64 A) (.int .i64 B) (.int .i64 C) (.string S) 28
  rw [hwo]
  clear hwo
  generalize w.heap.size = po at o0 o1 o2 o3 o4 ⊢
  refine (hno _).mono ?_
  rintro e w1 ⟨rfl, hb1⟩
  have j0 := hb1.cell o0
  have j1 := hb1.cell o1
  have j2 := hb1.cell o2
  have j3 := hb1.cell o3
  have j4 := hb1.cell o4
  have hbw1 := hbo.trans hb1
  clear hno hbo hb1 o0 o1 o2 o3 o4
  go_wp2_with fail
  refine (him _ hbw1).mono ?_
  rintro e w2 ⟨b, rfl, hbt, hx⟩
  have HX := Hid.mk hx
  have HB := Hid.mk hbt
  clear hx hbt him
  go_wp2
  go_ret
  exact ⟨b, rfl, HB.out, HX.out⟩

set_option maxRecDepth 100000 in
set_option maxHeartbeats 1000000 in
theorem step_patch (W0 : Base) (s : Nat) (x : WG) (A B C : Int) (S : ByteArray) (w : World) (h : WInv W0 s x w) (hs : s ≤ 69999) (hA : I64 A) (hB : I64 B) (hC : I64 C) (hS : S.size ≤ 65536) :
    Calls Tryz.prog 12 #[.pointer (some ⟨x.p, 0, none⟩), opv 23 A B C S] w (RStep W0 x.p (s + 1) 23) := by
  have hno := fun wx => owner_not x.p 23 A B C S wx (by simp)
  have him := fun wx (b : Bel w wx) => (images_patch W0 s x A B C S wx (h.later b) (by omega) hA hB).mono (fun e w' hr => (show RStep W0 x.p (s + 1) 23 e w' from hr.step (by simp [HeldK])))
  generalize x.p = p at *
  clear h
  unfold opv at *
  go_enter Tryz.func12, Tryz.ntmps12
  go_wp2_with fail
  obtain ⟨wo, hwo, hbo, o0, o1, o2, o3, o4⟩ := op_box w (.int .i64 23) (.int .i64 A) (.int .i64 B) (.int .i64 C) (.string S) 28
  rw [hwo]
  clear hwo
  generalize w.heap.size = po at o0 o1 o2 o3 o4 ⊢
  refine (hno _).mono ?_
  rintro e w1 ⟨rfl, hb1⟩
  have j0 := hb1.cell o0
  have j1 := hb1.cell o1
  have j2 := hb1.cell o2
  have j3 := hb1.cell o3
  have j4 := hb1.cell o4
  have hbw1 := hbo.trans hb1
  clear hno hbo hb1 o0 o1 o2 o3 o4
  go_wp2_with fail
  refine (him _ hbw1).mono ?_
  rintro e w2 ⟨b, rfl, hbt, hx⟩
  have HX := Hid.mk hx
  have HB := Hid.mk hbt
  clear hx hbt him
  go_wp2
  go_ret
  exact ⟨b, rfl, HB.out, HX.out⟩

set_option maxRecDepth 100000 in
set_option maxHeartbeats 1000000 in
theorem step_apply (W0 : Base) (s : Nat) (x : WG) (A B C : Int) (S : ByteArray) (w : World) (h : WInv W0 s x w) (hs : s ≤ 69999) (hA : I64 A) (hB : I64 B) (hC : I64 C) (hS : S.size ≤ 65536) :
    Calls Tryz.prog 12 #[.pointer (some ⟨x.p, 0, none⟩), opv 24 A B C S] w (RStep W0 x.p (s + 1) 24) := by
  have hno := fun wx => owner_not x.p 24 A B C S wx (by simp)
  have him := fun wx (b : Bel w wx) => (images_apply W0 s x A B C S wx (h.later b) (by omega) hA hB).mono (fun e w' hr => (show RStep W0 x.p (s + 1) 24 e w' from hr.step (by simp [HeldK])))
  generalize x.p = p at *
  clear h
  unfold opv at *
  go_enter Tryz.func12, Tryz.ntmps12
  go_wp2_with fail
  obtain ⟨wo, hwo, hbo, o0, o1, o2, o3, o4⟩ := op_box w (.int .i64 24) (.int .i64 A) (.int .i64 B) (.int .i64 C) (.string S) 28
  rw [hwo]
  clear hwo
  generalize w.heap.size = po at o0 o1 o2 o3 o4 ⊢
  refine (hno _).mono ?_
  rintro e w1 ⟨rfl, hb1⟩
  have j0 := hb1.cell o0
  have j1 := hb1.cell o1
  have j2 := hb1.cell o2
  have j3 := hb1.cell o3
  have j4 := hb1.cell o4
  have hbw1 := hbo.trans hb1
  clear hno hbo hb1 o0 o1 o2 o3 o4
  go_wp2_with fail
  refine (him _ hbw1).mono ?_
  rintro e w2 ⟨b, rfl, hbt, hx⟩
  have HX := Hid.mk hx
  have HB := Hid.mk hbt
  clear hx hbt him
  go_wp2
  go_ret
  exact ⟨b, rfl, HB.out, HX.out⟩

set_option maxRecDepth 100000 in
set_option maxHeartbeats 1000000 in
theorem step_add (W0 : Base) (s : Nat) (x : WG) (A B C : Int) (S : ByteArray) (w : World) (h : WInv W0 s x w) (hs : s ≤ 69999) (hA : I64 A) (hB : I64 B) (hC : I64 C) (hS : S.size ≤ 65536) :
    Calls Tryz.prog 12 #[.pointer (some ⟨x.p, 0, none⟩), opv 4 A B C S] w (RStep W0 x.p (s + 1) 4) := by
  have hno := fun wx => owner_not x.p 4 A B C S wx (by simp)
  have hend : Hid (∀ wx (b : Bool), Bel w wx → (HeldK 4 → b = true) → RStep W0 x.p (s + 1) 4 (.returned (.bool b)) wx) := fun wx b hb hk => ⟨b, rfl, hk, x, (h.later hb).up (by omega), rfl⟩
  have c6 := h.1.1 6 _ rfl
  by_cases hn0 : x.prs.length = 0
  · obtain ⟨ao, cap, hv⟩ := own_slice h.2.2.2.2.2.2.1
    rw [hv, hn0] at c6
    generalize x.p = p at *
    clear h
    unfold opv at *
    go_enter Tryz.func12, Tryz.ntmps12
    go_wp2_with fail
    obtain ⟨wo, hwo, hbo, o0, o1, o2, o3, o4⟩ := op_box w (.int .i64 4) (.int .i64 A) (.int .i64 B) (.int .i64 C) (.string S) 28
    rw [hwo]
    clear hwo
    generalize w.heap.size = po at o0 o1 o2 o3 o4 ⊢
    have k6 := hbo.cell c6
    refine (hno _).mono ?_
    rintro e w1 ⟨rfl, hb1⟩
    have j0 := hb1.cell o0
    have j6 := hb1.cell k6
    have hbw1 := hbo.trans hb1
    clear hno hbo hb1 o0 o1 o2 o3 o4 k6 c6
    go_wp2
    go_ret
    exact hend.out _ _ (by (repeat (first | exact Bel.refl _ | assumption | refine Bel.step_alloc ?_ _ | refine Bel.step_drew ?_ | refine Bel.step_drewN ?_ _ | refine Bel.step_set ?_ (by simp <;> omega) _ | refine Bel.trans ?_ (by assumption)))) (fun _ => rfl)
  · have hnb : ((x.prs.length : Int) == 0) = false := by rw [beq_eq_false_iff_ne]; omega
    obtain ⟨g, cap, hv, hcell⟩ := h.pick (by omega)
    have hpl := h.2.2.2.2.2.2.2.2.2.2.2.1.1
    have hpk := fun wx => lpick_is A x.prs.length wx hA (by omega) (by omega)
    obtain ⟨r1, r2⟩ := lpickF_range A x.prs.length (by omega)
    obtain ⟨m, hm⟩ := Int.eq_ofNat_of_zero_le r1
    rw [hm] at hpk
    have hml : m < x.prs.length := by omega
    have cm := hcell m hml
    rw [hv] at c6
    have hact := fun wx (b : Bel w wx) => (deltas_add W0.heap.size x.M x.prs[m] A B C S wx ((h.later b).dpre m hml hs) (by unfold maxLen; omega)).mono (fun e w' hr => RDelta.step (k := 4) h b hs m hml hr)
    clear h hcell r1 r2 hm
    generalize x.prs[m] = y at *
    generalize x.M = M0 at *
    generalize x.p = p at *
    generalize x.prs.length = n at *
    unfold opv at *
    go_enter Tryz.func12, Tryz.ntmps12
    go_wp2_with fail
    obtain ⟨wo, hwo, hbo, o0, o1, o2, o3, o4⟩ := op_box w (.int .i64 4) (.int .i64 A) (.int .i64 B) (.int .i64 C) (.string S) 28
    rw [hwo]
    clear hwo
    generalize w.heap.size = po at o0 o1 o2 o3 o4 ⊢
    have k6 := hbo.cell c6
    have km := hbo.cell cm
    refine (hno _).mono ?_
    rintro e w1 ⟨rfl, hb1⟩
    have j0 := hb1.cell o0
    have j1 := hb1.cell o1
    have j2 := hb1.cell o2
    have j3 := hb1.cell o3
    have j4 := hb1.cell o4
    have j6 := hb1.cell k6
    have jm := hb1.cell km
    have hbw1 := hbo.trans hb1
    clear hno hbo hb1 o0 o1 o2 o3 o4 k6 c6 km cm
    go_wp2_with fail
    go_quiet ((go_at_call 24; refine Calls.quiet_of_same ((hpk _).mono fun e w2 h => ⟨h.1, h.2.symm⟩)))
    go_wp2_with fail
    refine (hact _ (by (repeat (first | exact Bel.refl _ | assumption | refine Bel.step_alloc ?_ _ | refine Bel.step_drew ?_ | refine Bel.step_drewN ?_ _ | refine Bel.step_set ?_ (by simp <;> omega) _ | refine Bel.trans ?_ (by assumption))))).mono ?_
    rintro e w2 ⟨b, rfl, hbt, hx⟩
    have HX := Hid.mk hx
    have HB := Hid.mk hbt
    clear hx hbt hact
    go_wp2
    go_ret
    exact ⟨b, rfl, HB.out, HX.out⟩

set_option maxRecDepth 100000 in
set_option maxHeartbeats 1000000 in
theorem step_rem (W0 : Base) (s : Nat) (x : WG) (A B C : Int) (S : ByteArray) (w : World) (h : WInv W0 s x w) (hs : s ≤ 69999) (hA : I64 A) (hB : I64 B) (hC : I64 C) (hS : S.size ≤ 65536) :
    Calls Tryz.prog 12 #[.pointer (some ⟨x.p, 0, none⟩), opv 5 A B C S] w (RStep W0 x.p (s + 1) 5) := by
  have hno := fun wx => owner_not x.p 5 A B C S wx (by simp)
  have hend : Hid (∀ wx (b : Bool), Bel w wx → (HeldK 5 → b = true) → RStep W0 x.p (s + 1) 5 (.returned (.bool b)) wx) := fun wx b hb hk => ⟨b, rfl, hk, x, (h.later hb).up (by omega), rfl⟩
  have c6 := h.1.1 6 _ rfl
  by_cases hn0 : x.prs.length = 0
  · obtain ⟨ao, cap, hv⟩ := own_slice h.2.2.2.2.2.2.1
    rw [hv, hn0] at c6
    generalize x.p = p at *
    clear h
    unfold opv at *
    go_enter Tryz.func12, Tryz.ntmps12
    go_wp2_with fail
    obtain ⟨wo, hwo, hbo, o0, o1, o2, o3, o4⟩ := op_box w (.int .i64 5) (.int .i64 A) (.int .i64 B) (.int .i64 C) (.string S) 28
    rw [hwo]
    clear hwo
    generalize w.heap.size = po at o0 o1 o2 o3 o4 ⊢
    have k6 := hbo.cell c6
    refine (hno _).mono ?_
    rintro e w1 ⟨rfl, hb1⟩
    have j0 := hb1.cell o0
    have j6 := hb1.cell k6
    have hbw1 := hbo.trans hb1
    clear hno hbo hb1 o0 o1 o2 o3 o4 k6 c6
    go_wp2
    go_ret
    exact hend.out _ _ (by (repeat (first | exact Bel.refl _ | assumption | refine Bel.step_alloc ?_ _ | refine Bel.step_drew ?_ | refine Bel.step_drewN ?_ _ | refine Bel.step_set ?_ (by simp <;> omega) _ | refine Bel.trans ?_ (by assumption)))) (fun _ => rfl)
  · have hnb : ((x.prs.length : Int) == 0) = false := by rw [beq_eq_false_iff_ne]; omega
    obtain ⟨g, cap, hv, hcell⟩ := h.pick (by omega)
    have hpl := h.2.2.2.2.2.2.2.2.2.2.2.1.1
    have hpk := fun wx => lpick_is A x.prs.length wx hA (by omega) (by omega)
    obtain ⟨r1, r2⟩ := lpickF_range A x.prs.length (by omega)
    obtain ⟨m, hm⟩ := Int.eq_ofNat_of_zero_le r1
    rw [hm] at hpk
    have hml : m < x.prs.length := by omega
    have cm := hcell m hml
    rw [hv] at c6
    have hact := fun wx (b : Bel w wx) => (deltas_rem W0.heap.size x.M x.prs[m] A B C S wx ((h.later b).dpre m hml hs) (by unfold maxLen; omega)).mono (fun e w' hr => RDelta.step (k := 5) h b hs m hml hr)
    clear h hcell r1 r2 hm
    generalize x.prs[m] = y at *
    generalize x.M = M0 at *
    generalize x.p = p at *
    generalize x.prs.length = n at *
    unfold opv at *
    go_enter Tryz.func12, Tryz.ntmps12
    go_wp2_with fail
    obtain ⟨wo, hwo, hbo, o0, o1, o2, o3, o4⟩ := op_box w (.int .i64 5) (.int .i64 A) (.int .i64 B) (.int .i64 C) (.string S) 28
    rw [hwo]
    clear hwo
    generalize w.heap.size = po at o0 o1 o2 o3 o4 ⊢
    have k6 := hbo.cell c6
    have km := hbo.cell cm
    refine (hno _).mono ?_
    rintro e w1 ⟨rfl, hb1⟩
    have j0 := hb1.cell o0
    have j1 := hb1.cell o1
    have j2 := hb1.cell o2
    have j3 := hb1.cell o3
    have j4 := hb1.cell o4
    have j6 := hb1.cell k6
    have jm := hb1.cell km
    have hbw1 := hbo.trans hb1
    clear hno hbo hb1 o0 o1 o2 o3 o4 k6 c6 km cm
    go_wp2_with fail
    go_quiet ((go_at_call 24; refine Calls.quiet_of_same ((hpk _).mono fun e w2 h => ⟨h.1, h.2.symm⟩)))
    go_wp2_with fail
    refine (hact _ (by (repeat (first | exact Bel.refl _ | assumption | refine Bel.step_alloc ?_ _ | refine Bel.step_drew ?_ | refine Bel.step_drewN ?_ _ | refine Bel.step_set ?_ (by simp <;> omega) _ | refine Bel.trans ?_ (by assumption))))).mono ?_
    rintro e w2 ⟨b, rfl, hbt, hx⟩
    have HX := Hid.mk hx
    have HB := Hid.mk hbt
    clear hx hbt hact
    go_wp2
    go_ret
    exact ⟨b, rfl, HB.out, HX.out⟩

set_option maxRecDepth 100000 in
set_option maxHeartbeats 1000000 in
theorem step_set (W0 : Base) (s : Nat) (x : WG) (A B C : Int) (S : ByteArray) (w : World) (h : WInv W0 s x w) (hs : s ≤ 69999) (hA : I64 A) (hB : I64 B) (hC : I64 C) (hS : S.size ≤ 65536) :
    Calls Tryz.prog 12 #[.pointer (some ⟨x.p, 0, none⟩), opv 6 A B C S] w (RStep W0 x.p (s + 1) 6) := by
  have hno := fun wx => owner_not x.p 6 A B C S wx (by simp)
  have hend : Hid (∀ wx (b : Bool), Bel w wx → (HeldK 6 → b = true) → RStep W0 x.p (s + 1) 6 (.returned (.bool b)) wx) := fun wx b hb hk => ⟨b, rfl, hk, x, (h.later hb).up (by omega), rfl⟩
  have c6 := h.1.1 6 _ rfl
  by_cases hn0 : x.prs.length = 0
  · obtain ⟨ao, cap, hv⟩ := own_slice h.2.2.2.2.2.2.1
    rw [hv, hn0] at c6
    generalize x.p = p at *
    clear h
    unfold opv at *
    go_enter Tryz.func12, Tryz.ntmps12
    go_wp2_with fail
    obtain ⟨wo, hwo, hbo, o0, o1, o2, o3, o4⟩ := op_box w (.int .i64 6) (.int .i64 A) (.int .i64 B) (.int .i64 C) (.string S) 28
    rw [hwo]
    clear hwo
    generalize w.heap.size = po at o0 o1 o2 o3 o4 ⊢
    have k6 := hbo.cell c6
    refine (hno _).mono ?_
    rintro e w1 ⟨rfl, hb1⟩
    have j0 := hb1.cell o0
    have j6 := hb1.cell k6
    have hbw1 := hbo.trans hb1
    clear hno hbo hb1 o0 o1 o2 o3 o4 k6 c6
    go_wp2
    go_ret
    exact hend.out _ _ (by (repeat (first | exact Bel.refl _ | assumption | refine Bel.step_alloc ?_ _ | refine Bel.step_drew ?_ | refine Bel.step_drewN ?_ _ | refine Bel.step_set ?_ (by simp <;> omega) _ | refine Bel.trans ?_ (by assumption)))) (fun _ => rfl)
  · have hnb : ((x.prs.length : Int) == 0) = false := by rw [beq_eq_false_iff_ne]; omega
    obtain ⟨g, cap, hv, hcell⟩ := h.pick (by omega)
    have hpl := h.2.2.2.2.2.2.2.2.2.2.2.1.1
    have hpk := fun wx => lpick_is A x.prs.length wx hA (by omega) (by omega)
    obtain ⟨r1, r2⟩ := lpickF_range A x.prs.length (by omega)
    obtain ⟨m, hm⟩ := Int.eq_ofNat_of_zero_le r1
    rw [hm] at hpk
    have hml : m < x.prs.length := by omega
    have cm := hcell m hml
    rw [hv] at c6
    have hact := fun wx (b : Bel w wx) => (deltas_set W0.heap.size x.M x.prs[m] A B C S wx ((h.later b).dpre m hml hs) (by unfold maxLen; omega)).mono (fun e w' hr => RDelta.step (k := 6) h b hs m hml hr)
    clear h hcell r1 r2 hm
    generalize x.prs[m] = y at *
    generalize x.M = M0 at *
    generalize x.p = p at *
    generalize x.prs.length = n at *
    unfold opv at *
    go_enter Tryz.func12, Tryz.ntmps12
    go_wp2_with fail
    obtain ⟨wo, hwo, hbo, o0, o1, o2, o3, o4⟩ := op_box w (.int .i64 6) (.int .i64 A) (.int .i64 B) (.int .i64 C) (.string S) 28
    rw [hwo]
    clear hwo
    generalize w.heap.size = po at o0 o1 o2 o3 o4 ⊢
    have k6 := hbo.cell c6
    have km := hbo.cell cm
    refine (hno _).mono ?_
    rintro e w1 ⟨rfl, hb1⟩
    have j0 := hb1.cell o0
    have j1 := hb1.cell o1
    have j2 := hb1.cell o2
    have j3 := hb1.cell o3
    have j4 := hb1.cell o4
    have j6 := hb1.cell k6
    have jm := hb1.cell km
    have hbw1 := hbo.trans hb1
    clear hno hbo hb1 o0 o1 o2 o3 o4 k6 c6 km cm
    go_wp2_with fail
    go_quiet ((go_at_call 24; refine Calls.quiet_of_same ((hpk _).mono fun e w2 h => ⟨h.1, h.2.symm⟩)))
    go_wp2_with fail
    refine (hact _ (by (repeat (first | exact Bel.refl _ | assumption | refine Bel.step_alloc ?_ _ | refine Bel.step_drew ?_ | refine Bel.step_drewN ?_ _ | refine Bel.step_set ?_ (by simp <;> omega) _ | refine Bel.trans ?_ (by assumption))))).mono ?_
    rintro e w2 ⟨b, rfl, hbt, hx⟩
    have HX := Hid.mk hx
    have HB := Hid.mk hbt
    clear hx hbt hact
    go_wp2
    go_ret
    exact ⟨b, rfl, HB.out, HX.out⟩

set_option maxRecDepth 100000 in
set_option maxHeartbeats 1000000 in
theorem step_drop (W0 : Base) (s : Nat) (x : WG) (A B C : Int) (S : ByteArray) (w : World) (h : WInv W0 s x w) (hs : s ≤ 69999) (hA : I64 A) (hB : I64 B) (hC : I64 C) (hS : S.size ≤ 65536) :
    Calls Tryz.prog 12 #[.pointer (some ⟨x.p, 0, none⟩), opv 7 A B C S] w (RStep W0 x.p (s + 1) 7) := by
  have hno := fun wx => owner_not x.p 7 A B C S wx (by simp)
  have hend : Hid (∀ wx (b : Bool), Bel w wx → (HeldK 7 → b = true) → RStep W0 x.p (s + 1) 7 (.returned (.bool b)) wx) := fun wx b hb hk => ⟨b, rfl, hk, x, (h.later hb).up (by omega), rfl⟩
  have c6 := h.1.1 6 _ rfl
  by_cases hn0 : x.prs.length = 0
  · obtain ⟨ao, cap, hv⟩ := own_slice h.2.2.2.2.2.2.1
    rw [hv, hn0] at c6
    generalize x.p = p at *
    clear h
    unfold opv at *
    go_enter Tryz.func12, Tryz.ntmps12
    go_wp2_with fail
    obtain ⟨wo, hwo, hbo, o0, o1, o2, o3, o4⟩ := op_box w (.int .i64 7) (.int .i64 A) (.int .i64 B) (.int .i64 C) (.string S) 28
    rw [hwo]
    clear hwo
    generalize w.heap.size = po at o0 o1 o2 o3 o4 ⊢
    have k6 := hbo.cell c6
    refine (hno _).mono ?_
    rintro e w1 ⟨rfl, hb1⟩
    have j0 := hb1.cell o0
    have j6 := hb1.cell k6
    have hbw1 := hbo.trans hb1
    clear hno hbo hb1 o0 o1 o2 o3 o4 k6 c6
    go_wp2
    go_ret
    exact hend.out _ _ (by (repeat (first | exact Bel.refl _ | assumption | refine Bel.step_alloc ?_ _ | refine Bel.step_drew ?_ | refine Bel.step_drewN ?_ _ | refine Bel.step_set ?_ (by simp <;> omega) _ | refine Bel.trans ?_ (by assumption)))) (fun _ => rfl)
  · have hnb : ((x.prs.length : Int) == 0) = false := by rw [beq_eq_false_iff_ne]; omega
    obtain ⟨g, cap, hv, hcell⟩ := h.pick (by omega)
    have hpl := h.2.2.2.2.2.2.2.2.2.2.2.1.1
    have hpk := fun wx => lpick_is A x.prs.length wx hA (by omega) (by omega)
    obtain ⟨r1, r2⟩ := lpickF_range A x.prs.length (by omega)
    obtain ⟨m, hm⟩ := Int.eq_ofNat_of_zero_le r1
    rw [hm] at hpk
    have hml : m < x.prs.length := by omega
    have cm := hcell m hml
    rw [hv] at c6
    have c0y := (h.pair_at m hml).1.1 0 _ rfl
    clear h hcell r1 r2 hm
    generalize x.prs[m] = y at *
    generalize x.M = M0 at *
    generalize x.p = p at *
    generalize x.prs.length = n at *
    unfold opv at *
    go_enter Tryz.func12, Tryz.ntmps12
    go_wp2_with fail
    obtain ⟨wo, hwo, hbo, o0, o1, o2, o3, o4⟩ := op_box w (.int .i64 7) (.int .i64 A) (.int .i64 B) (.int .i64 C) (.string S) 28
    rw [hwo]
    clear hwo
    generalize w.heap.size = po at o0 o1 o2 o3 o4 ⊢
    have k6 := hbo.cell c6
    have km := hbo.cell cm
    refine (hno _).mono ?_
    rintro e w1 ⟨rfl, hb1⟩
    have j0 := hb1.cell o0
    have j1 := hb1.cell o1
    have j2 := hb1.cell o2
    have j3 := hb1.cell o3
    have j4 := hb1.cell o4
    have j6 := hb1.cell k6
    have jm := hb1.cell km
    have hbw1 := hbo.trans hb1
    clear hno hbo hb1 o0 o1 o2 o3 o4 k6 c6 km cm
    go_wp2_with fail
    go_quiet ((go_at_call 24; refine Calls.quiet_of_same ((hpk _).mono fun e w2 h => ⟨h.1, h.2.symm⟩)))
    have d0 := hbw1.cell c0y
    go_wp2_with fail
    refine (ldrop_is _ _).mono ?_
    rintro e w2 ⟨rfl, rfl⟩
    go_wp2
    go_ret
    exact hend.out _ _ (by (repeat (first | exact Bel.refl _ | assumption | refine Bel.step_alloc ?_ _ | refine Bel.step_drew ?_ | refine Bel.step_drewN ?_ _ | refine Bel.step_set ?_ (by simp <;> omega) _ | refine Bel.trans ?_ (by assumption)))) (fun _ => rfl)

set_option maxRecDepth 100000 in
set_option maxHeartbeats 1000000 in
theorem step_image (W0 : Base) (s : Nat) (x : WG) (A B C : Int) (S : ByteArray) (w : World) (h : WInv W0 s x w) (hs : s ≤ 69999) (hA : I64 A) (hB : I64 B) (hC : I64 C) (hS : S.size ≤ 65536) :
    Calls Tryz.prog 12 #[.pointer (some ⟨x.p, 0, none⟩), opv 8 A B C S] w (RStep W0 x.p (s + 1) 8) := by
  have hno := fun wx => owner_not x.p 8 A B C S wx (by simp)
  have hend : Hid (∀ wx (b : Bool), Bel w wx → (HeldK 8 → b = true) → RStep W0 x.p (s + 1) 8 (.returned (.bool b)) wx) := fun wx b hb hk => ⟨b, rfl, hk, x, (h.later hb).up (by omega), rfl⟩
  have c6 := h.1.1 6 _ rfl
  by_cases hn0 : x.prs.length = 0
  · obtain ⟨ao, cap, hv⟩ := own_slice h.2.2.2.2.2.2.1
    rw [hv, hn0] at c6
    generalize x.p = p at *
    clear h
    unfold opv at *
    go_enter Tryz.func12, Tryz.ntmps12
    go_wp2_with fail
    obtain ⟨wo, hwo, hbo, o0, o1, o2, o3, o4⟩ := op_box w (.int .i64 8) (.int .i64 A) (.int .i64 B) (.int .i64 C) (.string S) 28
    rw [hwo]
    clear hwo
    generalize w.heap.size = po at o0 o1 o2 o3 o4 ⊢
    have k6 := hbo.cell c6
    refine (hno _).mono ?_
    rintro e w1 ⟨rfl, hb1⟩
    have j0 := hb1.cell o0
    have j6 := hb1.cell k6
    have hbw1 := hbo.trans hb1
    clear hno hbo hb1 o0 o1 o2 o3 o4 k6 c6
    go_wp2
    go_ret
    exact hend.out _ _ (by (repeat (first | exact Bel.refl _ | assumption | refine Bel.step_alloc ?_ _ | refine Bel.step_drew ?_ | refine Bel.step_drewN ?_ _ | refine Bel.step_set ?_ (by simp <;> omega) _ | refine Bel.trans ?_ (by assumption)))) (fun _ => rfl)
  · have hnb : ((x.prs.length : Int) == 0) = false := by rw [beq_eq_false_iff_ne]; omega
    obtain ⟨g, cap, hv, hcell⟩ := h.pick (by omega)
    have hpl := h.2.2.2.2.2.2.2.2.2.2.2.1.1
    have hpk := fun wx => lpick_is A x.prs.length wx hA (by omega) (by omega)
    obtain ⟨r1, r2⟩ := lpickF_range A x.prs.length (by omega)
    obtain ⟨m, hm⟩ := Int.eq_ofNat_of_zero_le r1
    rw [hm] at hpk
    have hml : m < x.prs.length := by omega
    have cm := hcell m hml
    rw [hv] at c6
    have hact := fun wx (b : Bel w wx) => (tables_image W0 s x m hml A B C S wx (h.later b) (by omega) hB).mono (fun e w' hr => (show RStep W0 x.p (s + 1) 8 e w' from hr.step (by simp [HeldK])))
    clear h hcell r1 r2 hm
    generalize x.prs[m] = y at *
    generalize x.M = M0 at *
    generalize x.p = p at *
    generalize x.prs.length = n at *
    unfold opv at *
    go_enter Tryz.func12, Tryz.ntmps12
    go_wp2_with fail
    obtain ⟨wo, hwo, hbo, o0, o1, o2, o3, o4⟩ := op_box w (.int .i64 8) (.int .i64 A) (.int .i64 B) (.int .i64 C) (.string S) 28
    rw [hwo]
    clear hwo
    generalize w.heap.size = po at o0 o1 o2 o3 o4 ⊢
    have k6 := hbo.cell c6
    have km := hbo.cell cm
    refine (hno _).mono ?_
    rintro e w1 ⟨rfl, hb1⟩
    have j0 := hb1.cell o0
    have j1 := hb1.cell o1
    have j2 := hb1.cell o2
    have j3 := hb1.cell o3
    have j4 := hb1.cell o4
    have j6 := hb1.cell k6
    have jm := hb1.cell km
    have hbw1 := hbo.trans hb1
    clear hno hbo hb1 o0 o1 o2 o3 o4 k6 c6 km cm
    go_wp2_with fail
    go_quiet ((go_at_call 24; refine Calls.quiet_of_same ((hpk _).mono fun e w2 h => ⟨h.1, h.2.symm⟩)))
    go_wp2_with fail
    refine (hact _ (by (repeat (first | exact Bel.refl _ | assumption | refine Bel.step_alloc ?_ _ | refine Bel.step_drew ?_ | refine Bel.step_drewN ?_ _ | refine Bel.step_set ?_ (by simp <;> omega) _ | refine Bel.trans ?_ (by assumption))))).mono ?_
    rintro e w2 ⟨b, rfl, hbt, hx⟩
    have HX := Hid.mk hx
    have HB := Hid.mk hbt
    clear hx hbt hact
    go_wp2
    go_ret
    exact ⟨b, rfl, HB.out, HX.out⟩

set_option maxRecDepth 100000 in
set_option maxHeartbeats 1000000 in
theorem step_slots (W0 : Base) (s : Nat) (x : WG) (A B C : Int) (S : ByteArray) (w : World) (h : WInv W0 s x w) (hs : s ≤ 69999) (hA : I64 A) (hB : I64 B) (hC : I64 C) (hS : S.size ≤ 65536) :
    Calls Tryz.prog 12 #[.pointer (some ⟨x.p, 0, none⟩), opv 9 A B C S] w (RStep W0 x.p (s + 1) 9) := by
  have hno := fun wx => owner_not x.p 9 A B C S wx (by simp)
  have hend : Hid (∀ wx (b : Bool), Bel w wx → (HeldK 9 → b = true) → RStep W0 x.p (s + 1) 9 (.returned (.bool b)) wx) := fun wx b hb hk => ⟨b, rfl, hk, x, (h.later hb).up (by omega), rfl⟩
  have c6 := h.1.1 6 _ rfl
  by_cases hn0 : x.prs.length = 0
  · obtain ⟨ao, cap, hv⟩ := own_slice h.2.2.2.2.2.2.1
    rw [hv, hn0] at c6
    generalize x.p = p at *
    clear h
    unfold opv at *
    go_enter Tryz.func12, Tryz.ntmps12
    go_wp2_with fail
    obtain ⟨wo, hwo, hbo, o0, o1, o2, o3, o4⟩ := op_box w (.int .i64 9) (.int .i64 A) (.int .i64 B) (.int .i64 C) (.string S) 28
    rw [hwo]
    clear hwo
    generalize w.heap.size = po at o0 o1 o2 o3 o4 ⊢
    have k6 := hbo.cell c6
    refine (hno _).mono ?_
    rintro e w1 ⟨rfl, hb1⟩
    have j0 := hb1.cell o0
    have j6 := hb1.cell k6
    have hbw1 := hbo.trans hb1
    clear hno hbo hb1 o0 o1 o2 o3 o4 k6 c6
    go_wp2
    go_ret
    exact hend.out _ _ (by (repeat (first | exact Bel.refl _ | assumption | refine Bel.step_alloc ?_ _ | refine Bel.step_drew ?_ | refine Bel.step_drewN ?_ _ | refine Bel.step_set ?_ (by simp <;> omega) _ | refine Bel.trans ?_ (by assumption)))) (fun _ => rfl)
  · have hnb : ((x.prs.length : Int) == 0) = false := by rw [beq_eq_false_iff_ne]; omega
    obtain ⟨g, cap, hv, hcell⟩ := h.pick (by omega)
    have hpl := h.2.2.2.2.2.2.2.2.2.2.2.1.1
    have hpk := fun wx => lpick_is A x.prs.length wx hA (by omega) (by omega)
    obtain ⟨r1, r2⟩ := lpickF_range A x.prs.length (by omega)
    obtain ⟨m, hm⟩ := Int.eq_ofNat_of_zero_le r1
    rw [hm] at hpk
    have hml : m < x.prs.length := by omega
    have cm := hcell m hml
    rw [hv] at c6
    have hact := fun wx (b : Bel w wx) => (tables_slots W0 s x m hml A B C S wx (h.later b) (by omega)).mono (fun e w' hr => (show RStep W0 x.p (s + 1) 9 e w' from hr.step))
    clear h hcell r1 r2 hm
    generalize x.prs[m] = y at *
    generalize x.M = M0 at *
    generalize x.p = p at *
    generalize x.prs.length = n at *
    unfold opv at *
    go_enter Tryz.func12, Tryz.ntmps12
    go_wp2_with fail
    obtain ⟨wo, hwo, hbo, o0, o1, o2, o3, o4⟩ := op_box w (.int .i64 9) (.int .i64 A) (.int .i64 B) (.int .i64 C) (.string S) 28
    rw [hwo]
    clear hwo
    generalize w.heap.size = po at o0 o1 o2 o3 o4 ⊢
    have k6 := hbo.cell c6
    have km := hbo.cell cm
    refine (hno _).mono ?_
    rintro e w1 ⟨rfl, hb1⟩
    have j0 := hb1.cell o0
    have j1 := hb1.cell o1
    have j2 := hb1.cell o2
    have j3 := hb1.cell o3
    have j4 := hb1.cell o4
    have j6 := hb1.cell k6
    have jm := hb1.cell km
    have hbw1 := hbo.trans hb1
    clear hno hbo hb1 o0 o1 o2 o3 o4 k6 c6 km cm
    go_wp2_with fail
    go_quiet ((go_at_call 24; refine Calls.quiet_of_same ((hpk _).mono fun e w2 h => ⟨h.1, h.2.symm⟩)))
    go_wp2_with fail
    refine (hact _ (by (repeat (first | exact Bel.refl _ | assumption | refine Bel.step_alloc ?_ _ | refine Bel.step_drew ?_ | refine Bel.step_drewN ?_ _ | refine Bel.step_set ?_ (by simp <;> omega) _ | refine Bel.trans ?_ (by assumption))))).mono ?_
    rintro e w2 ⟨b, rfl, hbt, hx⟩
    have HX := Hid.mk hx
    have HB := Hid.mk hbt
    clear hx hbt hact
    go_wp2
    go_ret
    exact ⟨b, rfl, HB.out, HX.out⟩

set_option maxRecDepth 100000 in
set_option maxHeartbeats 1000000 in
theorem step_local (W0 : Base) (s : Nat) (x : WG) (A B C : Int) (S : ByteArray) (w : World) (h : WInv W0 s x w) (hs : s ≤ 69999) (hA : I64 A) (hB : I64 B) (hC : I64 C) (hS : S.size ≤ 65536) :
    Calls Tryz.prog 12 #[.pointer (some ⟨x.p, 0, none⟩), opv 10 A B C S] w (RStep W0 x.p (s + 1) 10) := by
  have hno := fun wx => owner_not x.p 10 A B C S wx (by simp)
  have hend : Hid (∀ wx (b : Bool), Bel w wx → (HeldK 10 → b = true) → RStep W0 x.p (s + 1) 10 (.returned (.bool b)) wx) := fun wx b hb hk => ⟨b, rfl, hk, x, (h.later hb).up (by omega), rfl⟩
  have c6 := h.1.1 6 _ rfl
  by_cases hn0 : x.prs.length = 0
  · obtain ⟨ao, cap, hv⟩ := own_slice h.2.2.2.2.2.2.1
    rw [hv, hn0] at c6
    generalize x.p = p at *
    clear h
    unfold opv at *
    go_enter Tryz.func12, Tryz.ntmps12
    go_wp2_with fail
    obtain ⟨wo, hwo, hbo, o0, o1, o2, o3, o4⟩ := op_box w (.int .i64 10) (.int .i64 A) (.int .i64 B) (.int .i64 C) (.string S) 28
    rw [hwo]
    clear hwo
    generalize w.heap.size = po at o0 o1 o2 o3 o4 ⊢
    have k6 := hbo.cell c6
    refine (hno _).mono ?_
    rintro e w1 ⟨rfl, hb1⟩
    have j0 := hb1.cell o0
    have j6 := hb1.cell k6
    have hbw1 := hbo.trans hb1
    clear hno hbo hb1 o0 o1 o2 o3 o4 k6 c6
    go_wp2
    go_ret
    exact hend.out _ _ (by (repeat (first | exact Bel.refl _ | assumption | refine Bel.step_alloc ?_ _ | refine Bel.step_drew ?_ | refine Bel.step_drewN ?_ _ | refine Bel.step_set ?_ (by simp <;> omega) _ | refine Bel.trans ?_ (by assumption)))) (fun _ => rfl)
  · have hnb : ((x.prs.length : Int) == 0) = false := by rw [beq_eq_false_iff_ne]; omega
    obtain ⟨g, cap, hv, hcell⟩ := h.pick (by omega)
    have hpl := h.2.2.2.2.2.2.2.2.2.2.2.1.1
    have hpk := fun wx => lpick_is A x.prs.length wx hA (by omega) (by omega)
    obtain ⟨r1, r2⟩ := lpickF_range A x.prs.length (by omega)
    obtain ⟨m, hm⟩ := Int.eq_ofNat_of_zero_le r1
    rw [hm] at hpk
    have hml : m < x.prs.length := by omega
    have cm := hcell m hml
    rw [hv] at c6
    have hact := fun wx (b : Bel w wx) => (tables_local W0 s x m hml A B C S wx (h.later b) hS).mono (fun e w' hr => (show RStep W0 x.p (s + 1) 10 e w' from hr.step))
    clear h hcell r1 r2 hm
    generalize x.prs[m] = y at *
    generalize x.M = M0 at *
    generalize x.p = p at *
    generalize x.prs.length = n at *
    unfold opv at *
    go_enter Tryz.func12, Tryz.ntmps12
    go_wp2_with fail
    obtain ⟨wo, hwo, hbo, o0, o1, o2, o3, o4⟩ := op_box w (.int .i64 10) (.int .i64 A) (.int .i64 B) (.int .i64 C) (.string S) 28
    rw [hwo]
    clear hwo
    generalize w.heap.size = po at o0 o1 o2 o3 o4 ⊢
    have k6 := hbo.cell c6
    have km := hbo.cell cm
    refine (hno _).mono ?_
    rintro e w1 ⟨rfl, hb1⟩
    have j0 := hb1.cell o0
    have j1 := hb1.cell o1
    have j2 := hb1.cell o2
    have j3 := hb1.cell o3
    have j4 := hb1.cell o4
    have j6 := hb1.cell k6
    have jm := hb1.cell km
    have hbw1 := hbo.trans hb1
    clear hno hbo hb1 o0 o1 o2 o3 o4 k6 c6 km cm
    go_wp2_with fail
    go_quiet ((go_at_call 24; refine Calls.quiet_of_same ((hpk _).mono fun e w2 h => ⟨h.1, h.2.symm⟩)))
    go_wp2_with fail
    refine (hact _ (by (repeat (first | exact Bel.refl _ | assumption | refine Bel.step_alloc ?_ _ | refine Bel.step_drew ?_ | refine Bel.step_drewN ?_ _ | refine Bel.step_set ?_ (by simp <;> omega) _ | refine Bel.trans ?_ (by assumption))))).mono ?_
    rintro e w2 ⟨b, rfl, hbt, hx⟩
    have HX := Hid.mk hx
    have HB := Hid.mk hbt
    clear hx hbt hact
    go_wp2
    go_ret
    exact ⟨b, rfl, HB.out, HX.out⟩

set_option maxRecDepth 100000 in
set_option maxHeartbeats 1000000 in
theorem step_join (W0 : Base) (s : Nat) (x : WG) (A B C : Int) (S : ByteArray) (w : World) (h : WInv W0 s x w) (hs : s ≤ 69999) (hA : I64 A) (hB : I64 B) (hC : I64 C) (hS : S.size ≤ 65536) :
    Calls Tryz.prog 12 #[.pointer (some ⟨x.p, 0, none⟩), opv 11 A B C S] w (RStep W0 x.p (s + 1) 11) := by
  have hno := fun wx => owner_not x.p 11 A B C S wx (by simp)
  have hend : Hid (∀ wx (b : Bool), Bel w wx → (HeldK 11 → b = true) → RStep W0 x.p (s + 1) 11 (.returned (.bool b)) wx) := fun wx b hb hk => ⟨b, rfl, hk, x, (h.later hb).up (by omega), rfl⟩
  have c6 := h.1.1 6 _ rfl
  by_cases hn0 : x.prs.length = 0
  · obtain ⟨ao, cap, hv⟩ := own_slice h.2.2.2.2.2.2.1
    rw [hv, hn0] at c6
    generalize x.p = p at *
    clear h
    unfold opv at *
    go_enter Tryz.func12, Tryz.ntmps12
    go_wp2_with fail
    obtain ⟨wo, hwo, hbo, o0, o1, o2, o3, o4⟩ := op_box w (.int .i64 11) (.int .i64 A) (.int .i64 B) (.int .i64 C) (.string S) 28
    rw [hwo]
    clear hwo
    generalize w.heap.size = po at o0 o1 o2 o3 o4 ⊢
    have k6 := hbo.cell c6
    refine (hno _).mono ?_
    rintro e w1 ⟨rfl, hb1⟩
    have j0 := hb1.cell o0
    have j6 := hb1.cell k6
    have hbw1 := hbo.trans hb1
    clear hno hbo hb1 o0 o1 o2 o3 o4 k6 c6
    go_wp2
    go_ret
    exact hend.out _ _ (by (repeat (first | exact Bel.refl _ | assumption | refine Bel.step_alloc ?_ _ | refine Bel.step_drew ?_ | refine Bel.step_drewN ?_ _ | refine Bel.step_set ?_ (by simp <;> omega) _ | refine Bel.trans ?_ (by assumption)))) (fun _ => rfl)
  · have hnb : ((x.prs.length : Int) == 0) = false := by rw [beq_eq_false_iff_ne]; omega
    obtain ⟨g, cap, hv, hcell⟩ := h.pick (by omega)
    have hpl := h.2.2.2.2.2.2.2.2.2.2.2.1.1
    have hpk := fun wx => lpick_is A x.prs.length wx hA (by omega) (by omega)
    obtain ⟨r1, r2⟩ := lpickF_range A x.prs.length (by omega)
    obtain ⟨m, hm⟩ := Int.eq_ofNat_of_zero_le r1
    rw [hm] at hpk
    have hml : m < x.prs.length := by omega
    have cm := hcell m hml
    rw [hv] at c6
    have hact := fun wx (b : Bel w wx) => (ljoins_is W0.heap.size x.M x.prs[m] B wx ((h.later b).dpre m hml hs) (h.later b).2.1.size).mono (fun e w' hr => RPrB.step (k := 11) h b m hml (by simp [HeldK]) hr)
    clear h hcell r1 r2 hm
    generalize x.prs[m] = y at *
    generalize x.M = M0 at *
    generalize x.p = p at *
    generalize x.prs.length = n at *
    unfold opv at *
    go_enter Tryz.func12, Tryz.ntmps12
    go_wp2_with fail
    obtain ⟨wo, hwo, hbo, o0, o1, o2, o3, o4⟩ := op_box w (.int .i64 11) (.int .i64 A) (.int .i64 B) (.int .i64 C) (.string S) 28
    rw [hwo]
    clear hwo
    generalize w.heap.size = po at o0 o1 o2 o3 o4 ⊢
    have k6 := hbo.cell c6
    have km := hbo.cell cm
    refine (hno _).mono ?_
    rintro e w1 ⟨rfl, hb1⟩
    have j0 := hb1.cell o0
    have j1 := hb1.cell o1
    have j2 := hb1.cell o2
    have j3 := hb1.cell o3
    have j4 := hb1.cell o4
    have j6 := hb1.cell k6
    have jm := hb1.cell km
    have hbw1 := hbo.trans hb1
    clear hno hbo hb1 o0 o1 o2 o3 o4 k6 c6 km cm
    go_wp2_with fail
    go_quiet ((go_at_call 24; refine Calls.quiet_of_same ((hpk _).mono fun e w2 h => ⟨h.1, h.2.symm⟩)))
    go_wp2_with fail
    refine (hact _ (by (repeat (first | exact Bel.refl _ | assumption | refine Bel.step_alloc ?_ _ | refine Bel.step_drew ?_ | refine Bel.step_drewN ?_ _ | refine Bel.step_set ?_ (by simp <;> omega) _ | refine Bel.trans ?_ (by assumption))))).mono ?_
    rintro e w2 ⟨b, rfl, hbt, hx⟩
    have HX := Hid.mk hx
    have HB := Hid.mk hbt
    clear hx hbt hact
    go_wp2
    go_ret
    exact ⟨b, rfl, HB.out, HX.out⟩

set_option maxRecDepth 100000 in
set_option maxHeartbeats 1000000 in
theorem step_tick (W0 : Base) (s : Nat) (x : WG) (A B C : Int) (S : ByteArray) (w : World) (h : WInv W0 s x w) (hs : s ≤ 69999) (hA : I64 A) (hB : I64 B) (hC : I64 C) (hS : S.size ≤ 65536) :
    Calls Tryz.prog 12 #[.pointer (some ⟨x.p, 0, none⟩), opv 12 A B C S] w (RStep W0 x.p (s + 1) 12) := by
  have hno := fun wx => owner_not x.p 12 A B C S wx (by simp)
  have hend : Hid (∀ wx (b : Bool), Bel w wx → (HeldK 12 → b = true) → RStep W0 x.p (s + 1) 12 (.returned (.bool b)) wx) := fun wx b hb hk => ⟨b, rfl, hk, x, (h.later hb).up (by omega), rfl⟩
  have c6 := h.1.1 6 _ rfl
  by_cases hn0 : x.prs.length = 0
  · obtain ⟨ao, cap, hv⟩ := own_slice h.2.2.2.2.2.2.1
    rw [hv, hn0] at c6
    generalize x.p = p at *
    clear h
    unfold opv at *
    go_enter Tryz.func12, Tryz.ntmps12
    go_wp2_with fail
    obtain ⟨wo, hwo, hbo, o0, o1, o2, o3, o4⟩ := op_box w (.int .i64 12) (.int .i64 A) (.int .i64 B) (.int .i64 C) (.string S) 28
    rw [hwo]
    clear hwo
    generalize w.heap.size = po at o0 o1 o2 o3 o4 ⊢
    have k6 := hbo.cell c6
    refine (hno _).mono ?_
    rintro e w1 ⟨rfl, hb1⟩
    have j0 := hb1.cell o0
    have j6 := hb1.cell k6
    have hbw1 := hbo.trans hb1
    clear hno hbo hb1 o0 o1 o2 o3 o4 k6 c6
    go_wp2
    go_ret
    exact hend.out _ _ (by (repeat (first | exact Bel.refl _ | assumption | refine Bel.step_alloc ?_ _ | refine Bel.step_drew ?_ | refine Bel.step_drewN ?_ _ | refine Bel.step_set ?_ (by simp <;> omega) _ | refine Bel.trans ?_ (by assumption)))) (fun _ => rfl)
  · have hnb : ((x.prs.length : Int) == 0) = false := by rw [beq_eq_false_iff_ne]; omega
    obtain ⟨g, cap, hv, hcell⟩ := h.pick (by omega)
    have hpl := h.2.2.2.2.2.2.2.2.2.2.2.1.1
    have hpk := fun wx => lpick_is A x.prs.length wx hA (by omega) (by omega)
    obtain ⟨r1, r2⟩ := lpickF_range A x.prs.length (by omega)
    obtain ⟨m, hm⟩ := Int.eq_ofNat_of_zero_le r1
    rw [hm] at hpk
    have hml : m < x.prs.length := by omega
    have cm := hcell m hml
    rw [hv] at c6
    have hact := fun wx (b : Bel w wx) => (planes_tick W0 s x m hml A B C S wx (h.later b) hs).mono (fun e w' hr => (show RStep W0 x.p (s + 1) 12 e w' from hr.step (by simp [HeldK])))
    clear h hcell r1 r2 hm
    generalize x.prs[m] = y at *
    generalize x.M = M0 at *
    generalize x.p = p at *
    generalize x.prs.length = n at *
    unfold opv at *
    go_enter Tryz.func12, Tryz.ntmps12
    go_wp2_with fail
    obtain ⟨wo, hwo, hbo, o0, o1, o2, o3, o4⟩ := op_box w (.int .i64 12) (.int .i64 A) (.int .i64 B) (.int .i64 C) (.string S) 28
    rw [hwo]
    clear hwo
    generalize w.heap.size = po at o0 o1 o2 o3 o4 ⊢
    have k6 := hbo.cell c6
    have km := hbo.cell cm
    refine (hno _).mono ?_
    rintro e w1 ⟨rfl, hb1⟩
    have j0 := hb1.cell o0
    have j1 := hb1.cell o1
    have j2 := hb1.cell o2
    have j3 := hb1.cell o3
    have j4 := hb1.cell o4
    have j6 := hb1.cell k6
    have jm := hb1.cell km
    have hbw1 := hbo.trans hb1
    clear hno hbo hb1 o0 o1 o2 o3 o4 k6 c6 km cm
    go_wp2_with fail
    go_quiet ((go_at_call 24; refine Calls.quiet_of_same ((hpk _).mono fun e w2 h => ⟨h.1, h.2.symm⟩)))
    go_wp2_with fail
    refine (hact _ (by (repeat (first | exact Bel.refl _ | assumption | refine Bel.step_alloc ?_ _ | refine Bel.step_drew ?_ | refine Bel.step_drewN ?_ _ | refine Bel.step_set ?_ (by simp <;> omega) _ | refine Bel.trans ?_ (by assumption))))).mono ?_
    rintro e w2 ⟨b, rfl, hbt, hx⟩
    have HX := Hid.mk hx
    have HB := Hid.mk hbt
    clear hx hbt hact
    go_wp2
    go_ret
    exact ⟨b, rfl, HB.out, HX.out⟩

set_option maxRecDepth 100000 in
set_option maxHeartbeats 1000000 in
theorem step_receive (W0 : Base) (s : Nat) (x : WG) (A B C : Int) (S : ByteArray) (w : World) (h : WInv W0 s x w) (hs : s ≤ 69999) (hA : I64 A) (hB : I64 B) (hC : I64 C) (hS : S.size ≤ 65536) :
    Calls Tryz.prog 12 #[.pointer (some ⟨x.p, 0, none⟩), opv 14 A B C S] w (RStep W0 x.p (s + 1) 14) := by
  have hno := fun wx => owner_not x.p 14 A B C S wx (by simp)
  have hend : Hid (∀ wx (b : Bool), Bel w wx → (HeldK 14 → b = true) → RStep W0 x.p (s + 1) 14 (.returned (.bool b)) wx) := fun wx b hb hk => ⟨b, rfl, hk, x, (h.later hb).up (by omega), rfl⟩
  have c6 := h.1.1 6 _ rfl
  by_cases hn0 : x.prs.length = 0
  · obtain ⟨ao, cap, hv⟩ := own_slice h.2.2.2.2.2.2.1
    rw [hv, hn0] at c6
    generalize x.p = p at *
    clear h
    unfold opv at *
    go_enter Tryz.func12, Tryz.ntmps12
    go_wp2_with fail
    obtain ⟨wo, hwo, hbo, o0, o1, o2, o3, o4⟩ := op_box w (.int .i64 14) (.int .i64 A) (.int .i64 B) (.int .i64 C) (.string S) 28
    rw [hwo]
    clear hwo
    generalize w.heap.size = po at o0 o1 o2 o3 o4 ⊢
    have k6 := hbo.cell c6
    refine (hno _).mono ?_
    rintro e w1 ⟨rfl, hb1⟩
    have j0 := hb1.cell o0
    have j6 := hb1.cell k6
    have hbw1 := hbo.trans hb1
    clear hno hbo hb1 o0 o1 o2 o3 o4 k6 c6
    go_wp2
    go_ret
    exact hend.out _ _ (by (repeat (first | exact Bel.refl _ | assumption | refine Bel.step_alloc ?_ _ | refine Bel.step_drew ?_ | refine Bel.step_drewN ?_ _ | refine Bel.step_set ?_ (by simp <;> omega) _ | refine Bel.trans ?_ (by assumption)))) (fun _ => rfl)
  · have hnb : ((x.prs.length : Int) == 0) = false := by rw [beq_eq_false_iff_ne]; omega
    obtain ⟨g, cap, hv, hcell⟩ := h.pick (by omega)
    have hpl := h.2.2.2.2.2.2.2.2.2.2.2.1.1
    have hpk := fun wx => lpick_is A x.prs.length wx hA (by omega) (by omega)
    obtain ⟨r1, r2⟩ := lpickF_range A x.prs.length (by omega)
    obtain ⟨m, hm⟩ := Int.eq_ofNat_of_zero_le r1
    rw [hm] at hpk
    have hml : m < x.prs.length := by omega
    have cm := hcell m hml
    rw [hv] at c6
    have hact := fun wx (b : Bel w wx) => (planes_receive W0 s x m hml A B C S wx (h.later b) hs hC).mono (fun e w' hr => (show RStep W0 x.p (s + 1) 14 e w' from hr.step (by simp [HeldK])))
    clear h hcell r1 r2 hm
    generalize x.prs[m] = y at *
    generalize x.M = M0 at *
    generalize x.p = p at *
    generalize x.prs.length = n at *
    unfold opv at *
    go_enter Tryz.func12, Tryz.ntmps12
    go_wp2_with fail
    obtain ⟨wo, hwo, hbo, o0, o1, o2, o3, o4⟩ := op_box w (.int .i64 14) (.int .i64 A) (.int .i64 B) (.int .i64 C) (.string S) 28
    rw [hwo]
    clear hwo
    generalize w.heap.size = po at o0 o1 o2 o3 o4 ⊢
    have k6 := hbo.cell c6
    have km := hbo.cell cm
    refine (hno _).mono ?_
    rintro e w1 ⟨rfl, hb1⟩
    have j0 := hb1.cell o0
    have j1 := hb1.cell o1
    have j2 := hb1.cell o2
    have j3 := hb1.cell o3
    have j4 := hb1.cell o4
    have j6 := hb1.cell k6
    have jm := hb1.cell km
    have hbw1 := hbo.trans hb1
    clear hno hbo hb1 o0 o1 o2 o3 o4 k6 c6 km cm
    go_wp2_with fail
    go_quiet ((go_at_call 24; refine Calls.quiet_of_same ((hpk _).mono fun e w2 h => ⟨h.1, h.2.symm⟩)))
    go_wp2_with fail
    refine (hact _ (by (repeat (first | exact Bel.refl _ | assumption | refine Bel.step_alloc ?_ _ | refine Bel.step_drew ?_ | refine Bel.step_drewN ?_ _ | refine Bel.step_set ?_ (by simp <;> omega) _ | refine Bel.trans ?_ (by assumption))))).mono ?_
    rintro e w2 ⟨b, rfl, hbt, hx⟩
    have HX := Hid.mk hx
    have HB := Hid.mk hbt
    clear hx hbt hact
    go_wp2
    go_ret
    exact ⟨b, rfl, HB.out, HX.out⟩

set_option maxRecDepth 100000 in
set_option maxHeartbeats 1000000 in
theorem step_restart (W0 : Base) (s : Nat) (x : WG) (A B C : Int) (S : ByteArray) (w : World) (h : WInv W0 s x w) (hs : s ≤ 69999) (hA : I64 A) (hB : I64 B) (hC : I64 C) (hS : S.size ≤ 65536) :
    Calls Tryz.prog 12 #[.pointer (some ⟨x.p, 0, none⟩), opv 15 A B C S] w (RStep W0 x.p (s + 1) 15) := by
  have hno := fun wx => owner_not x.p 15 A B C S wx (by simp)
  have hend : Hid (∀ wx (b : Bool), Bel w wx → (HeldK 15 → b = true) → RStep W0 x.p (s + 1) 15 (.returned (.bool b)) wx) := fun wx b hb hk => ⟨b, rfl, hk, x, (h.later hb).up (by omega), rfl⟩
  have c6 := h.1.1 6 _ rfl
  by_cases hn0 : x.prs.length = 0
  · obtain ⟨ao, cap, hv⟩ := own_slice h.2.2.2.2.2.2.1
    rw [hv, hn0] at c6
    generalize x.p = p at *
    clear h
    unfold opv at *
    go_enter Tryz.func12, Tryz.ntmps12
    go_wp2_with fail
    obtain ⟨wo, hwo, hbo, o0, o1, o2, o3, o4⟩ := op_box w (.int .i64 15) (.int .i64 A) (.int .i64 B) (.int .i64 C) (.string S) 28
    rw [hwo]
    clear hwo
    generalize w.heap.size = po at o0 o1 o2 o3 o4 ⊢
    have k6 := hbo.cell c6
    refine (hno _).mono ?_
    rintro e w1 ⟨rfl, hb1⟩
    have j0 := hb1.cell o0
    have j6 := hb1.cell k6
    have hbw1 := hbo.trans hb1
    clear hno hbo hb1 o0 o1 o2 o3 o4 k6 c6
    go_wp2
    go_ret
    exact hend.out _ _ (by (repeat (first | exact Bel.refl _ | assumption | refine Bel.step_alloc ?_ _ | refine Bel.step_drew ?_ | refine Bel.step_drewN ?_ _ | refine Bel.step_set ?_ (by simp <;> omega) _ | refine Bel.trans ?_ (by assumption)))) (fun _ => rfl)
  · have hnb : ((x.prs.length : Int) == 0) = false := by rw [beq_eq_false_iff_ne]; omega
    obtain ⟨g, cap, hv, hcell⟩ := h.pick (by omega)
    have hpl := h.2.2.2.2.2.2.2.2.2.2.2.1.1
    have hpk := fun wx => lpick_is A x.prs.length wx hA (by omega) (by omega)
    obtain ⟨r1, r2⟩ := lpickF_range A x.prs.length (by omega)
    obtain ⟨m, hm⟩ := Int.eq_ofNat_of_zero_le r1
    rw [hm] at hpk
    have hml : m < x.prs.length := by omega
    have cm := hcell m hml
    rw [hv] at c6
    have hact := fun wx (b : Bel w wx) => (planes_restart W0 s x m hml A B C S wx (h.later b) hs).mono (fun e w' hr => (show RStep W0 x.p (s + 1) 15 e w' from hr.step (by simp [HeldK])))
    clear h hcell r1 r2 hm
    generalize x.prs[m] = y at *
    generalize x.M = M0 at *
    generalize x.p = p at *
    generalize x.prs.length = n at *
    unfold opv at *
    go_enter Tryz.func12, Tryz.ntmps12
    go_wp2_with fail
    obtain ⟨wo, hwo, hbo, o0, o1, o2, o3, o4⟩ := op_box w (.int .i64 15) (.int .i64 A) (.int .i64 B) (.int .i64 C) (.string S) 28
    rw [hwo]
    clear hwo
    generalize w.heap.size = po at o0 o1 o2 o3 o4 ⊢
    have k6 := hbo.cell c6
    have km := hbo.cell cm
    refine (hno _).mono ?_
    rintro e w1 ⟨rfl, hb1⟩
    have j0 := hb1.cell o0
    have j1 := hb1.cell o1
    have j2 := hb1.cell o2
    have j3 := hb1.cell o3
    have j4 := hb1.cell o4
    have j6 := hb1.cell k6
    have jm := hb1.cell km
    have hbw1 := hbo.trans hb1
    clear hno hbo hb1 o0 o1 o2 o3 o4 k6 c6 km cm
    go_wp2_with fail
    go_quiet ((go_at_call 24; refine Calls.quiet_of_same ((hpk _).mono fun e w2 h => ⟨h.1, h.2.symm⟩)))
    go_wp2_with fail
    refine (hact _ (by (repeat (first | exact Bel.refl _ | assumption | refine Bel.step_alloc ?_ _ | refine Bel.step_drew ?_ | refine Bel.step_drewN ?_ _ | refine Bel.step_set ?_ (by simp <;> omega) _ | refine Bel.trans ?_ (by assumption))))).mono ?_
    rintro e w2 ⟨b, rfl, hbt, hx⟩
    have HX := Hid.mk hx
    have HB := Hid.mk hbt
    clear hx hbt hact
    go_wp2
    go_ret
    exact ⟨b, rfl, HB.out, HX.out⟩

set_option maxRecDepth 100000 in
set_option maxHeartbeats 1000000 in
theorem step_held (W0 : Base) (s : Nat) (x : WG) (A B C : Int) (S : ByteArray) (w : World) (h : WInv W0 s x w) (hs : s ≤ 69999) (hA : I64 A) (hB : I64 B) (hC : I64 C) (hS : S.size ≤ 65536) :
    Calls Tryz.prog 12 #[.pointer (some ⟨x.p, 0, none⟩), opv 16 A B C S] w (RStep W0 x.p (s + 1) 16) := by
  have hno := fun wx => owner_not x.p 16 A B C S wx (by simp)
  have hend : Hid (∀ wx (b : Bool), Bel w wx → (HeldK 16 → b = true) → RStep W0 x.p (s + 1) 16 (.returned (.bool b)) wx) := fun wx b hb hk => ⟨b, rfl, hk, x, (h.later hb).up (by omega), rfl⟩
  have c6 := h.1.1 6 _ rfl
  by_cases hn0 : x.prs.length = 0
  · obtain ⟨ao, cap, hv⟩ := own_slice h.2.2.2.2.2.2.1
    rw [hv, hn0] at c6
    generalize x.p = p at *
    clear h
    unfold opv at *
    go_enter Tryz.func12, Tryz.ntmps12
    go_wp2_with fail
    obtain ⟨wo, hwo, hbo, o0, o1, o2, o3, o4⟩ := op_box w (.int .i64 16) (.int .i64 A) (.int .i64 B) (.int .i64 C) (.string S) 28
    rw [hwo]
    clear hwo
    generalize w.heap.size = po at o0 o1 o2 o3 o4 ⊢
    have k6 := hbo.cell c6
    refine (hno _).mono ?_
    rintro e w1 ⟨rfl, hb1⟩
    have j0 := hb1.cell o0
    have j6 := hb1.cell k6
    have hbw1 := hbo.trans hb1
    clear hno hbo hb1 o0 o1 o2 o3 o4 k6 c6
    go_wp2
    go_ret
    exact hend.out _ _ (by (repeat (first | exact Bel.refl _ | assumption | refine Bel.step_alloc ?_ _ | refine Bel.step_drew ?_ | refine Bel.step_drewN ?_ _ | refine Bel.step_set ?_ (by simp <;> omega) _ | refine Bel.trans ?_ (by assumption)))) (fun _ => rfl)
  · have hnb : ((x.prs.length : Int) == 0) = false := by rw [beq_eq_false_iff_ne]; omega
    obtain ⟨g, cap, hv, hcell⟩ := h.pick (by omega)
    have hpl := h.2.2.2.2.2.2.2.2.2.2.2.1.1
    have hpk := fun wx => lpick_is A x.prs.length wx hA (by omega) (by omega)
    obtain ⟨r1, r2⟩ := lpickF_range A x.prs.length (by omega)
    obtain ⟨m, hm⟩ := Int.eq_ofNat_of_zero_le r1
    rw [hm] at hpk
    have hml : m < x.prs.length := by omega
    have cm := hcell m hml
    rw [hv] at c6
    have hact := fun wx (b : Bel w wx) => (planes_held W0 s x m hml A B C S wx (h.later b) hs).mono (fun e w' hr => (show RStep W0 x.p (s + 1) 16 e w' from hr.step (by simp [HeldK])))
    clear h hcell r1 r2 hm
    generalize x.prs[m] = y at *
    generalize x.M = M0 at *
    generalize x.p = p at *
    generalize x.prs.length = n at *
    unfold opv at *
    go_enter Tryz.func12, Tryz.ntmps12
    go_wp2_with fail
    obtain ⟨wo, hwo, hbo, o0, o1, o2, o3, o4⟩ := op_box w (.int .i64 16) (.int .i64 A) (.int .i64 B) (.int .i64 C) (.string S) 28
    rw [hwo]
    clear hwo
    generalize w.heap.size = po at o0 o1 o2 o3 o4 ⊢
    have k6 := hbo.cell c6
    have km := hbo.cell cm
    refine (hno _).mono ?_
    rintro e w1 ⟨rfl, hb1⟩
    have j0 := hb1.cell o0
    have j1 := hb1.cell o1
    have j2 := hb1.cell o2
    have j3 := hb1.cell o3
    have j4 := hb1.cell o4
    have j6 := hb1.cell k6
    have jm := hb1.cell km
    have hbw1 := hbo.trans hb1
    clear hno hbo hb1 o0 o1 o2 o3 o4 k6 c6 km cm
    go_wp2_with fail
    go_quiet ((go_at_call 24; refine Calls.quiet_of_same ((hpk _).mono fun e w2 h => ⟨h.1, h.2.symm⟩)))
    go_wp2_with fail
    refine (hact _ (by (repeat (first | exact Bel.refl _ | assumption | refine Bel.step_alloc ?_ _ | refine Bel.step_drew ?_ | refine Bel.step_drewN ?_ _ | refine Bel.step_set ?_ (by simp <;> omega) _ | refine Bel.trans ?_ (by assumption))))).mono ?_
    rintro e w2 ⟨b, rfl, hbt, hx⟩
    have HX := Hid.mk hx
    have HB := Hid.mk hbt
    clear hx hbt hact
    go_wp2
    go_ret
    exact ⟨b, rfl, HB.out, HX.out⟩

set_option maxRecDepth 100000 in
set_option maxHeartbeats 1000000 in
theorem step_lookup (W0 : Base) (s : Nat) (x : WG) (A B C : Int) (S : ByteArray) (w : World) (h : WInv W0 s x w) (hs : s ≤ 69999) (hA : I64 A) (hB : I64 B) (hC : I64 C) (hS : S.size ≤ 65536) :
    Calls Tryz.prog 12 #[.pointer (some ⟨x.p, 0, none⟩), opv 17 A B C S] w (RStep W0 x.p (s + 1) 17) := by
  have hno := fun wx => owner_not x.p 17 A B C S wx (by simp)
  have hend : Hid (∀ wx (b : Bool), Bel w wx → (HeldK 17 → b = true) → RStep W0 x.p (s + 1) 17 (.returned (.bool b)) wx) := fun wx b hb hk => ⟨b, rfl, hk, x, (h.later hb).up (by omega), rfl⟩
  have c6 := h.1.1 6 _ rfl
  by_cases hn0 : x.prs.length = 0
  · obtain ⟨ao, cap, hv⟩ := own_slice h.2.2.2.2.2.2.1
    rw [hv, hn0] at c6
    generalize x.p = p at *
    clear h
    unfold opv at *
    go_enter Tryz.func12, Tryz.ntmps12
    go_wp2_with fail
    obtain ⟨wo, hwo, hbo, o0, o1, o2, o3, o4⟩ := op_box w (.int .i64 17) (.int .i64 A) (.int .i64 B) (.int .i64 C) (.string S) 28
    rw [hwo]
    clear hwo
    generalize w.heap.size = po at o0 o1 o2 o3 o4 ⊢
    have k6 := hbo.cell c6
    refine (hno _).mono ?_
    rintro e w1 ⟨rfl, hb1⟩
    have j0 := hb1.cell o0
    have j6 := hb1.cell k6
    have hbw1 := hbo.trans hb1
    clear hno hbo hb1 o0 o1 o2 o3 o4 k6 c6
    go_wp2
    go_ret
    exact hend.out _ _ (by (repeat (first | exact Bel.refl _ | assumption | refine Bel.step_alloc ?_ _ | refine Bel.step_drew ?_ | refine Bel.step_drewN ?_ _ | refine Bel.step_set ?_ (by simp <;> omega) _ | refine Bel.trans ?_ (by assumption)))) (fun _ => rfl)
  · have hnb : ((x.prs.length : Int) == 0) = false := by rw [beq_eq_false_iff_ne]; omega
    obtain ⟨g, cap, hv, hcell⟩ := h.pick (by omega)
    have hpl := h.2.2.2.2.2.2.2.2.2.2.2.1.1
    have hpk := fun wx => lpick_is A x.prs.length wx hA (by omega) (by omega)
    obtain ⟨r1, r2⟩ := lpickF_range A x.prs.length (by omega)
    obtain ⟨m, hm⟩ := Int.eq_ofNat_of_zero_le r1
    rw [hm] at hpk
    have hml : m < x.prs.length := by omega
    have cm := hcell m hml
    rw [hv] at c6
    have hact := fun wx (b : Bel w wx) => (planes_lookup W0 s x m hml A B C S wx (h.later b) hs hS).mono (fun e w' hr => (show RStep W0 x.p (s + 1) 17 e w' from hr.step (by simp [HeldK])))
    clear h hcell r1 r2 hm
    generalize x.prs[m] = y at *
    generalize x.M = M0 at *
    generalize x.p = p at *
    generalize x.prs.length = n at *
    unfold opv at *
    go_enter Tryz.func12, Tryz.ntmps12
    go_wp2_with fail
    obtain ⟨wo, hwo, hbo, o0, o1, o2, o3, o4⟩ := op_box w (.int .i64 17) (.int .i64 A) (.int .i64 B) (.int .i64 C) (.string S) 28
    rw [hwo]
    clear hwo
    generalize w.heap.size = po at o0 o1 o2 o3 o4 ⊢
    have k6 := hbo.cell c6
    have km := hbo.cell cm
    refine (hno _).mono ?_
    rintro e w1 ⟨rfl, hb1⟩
    have j0 := hb1.cell o0
    have j1 := hb1.cell o1
    have j2 := hb1.cell o2
    have j3 := hb1.cell o3
    have j4 := hb1.cell o4
    have j6 := hb1.cell k6
    have jm := hb1.cell km
    have hbw1 := hbo.trans hb1
    clear hno hbo hb1 o0 o1 o2 o3 o4 k6 c6 km cm
    go_wp2_with fail
    go_quiet ((go_at_call 24; refine Calls.quiet_of_same ((hpk _).mono fun e w2 h => ⟨h.1, h.2.symm⟩)))
    go_wp2_with fail
    refine (hact _ (by (repeat (first | exact Bel.refl _ | assumption | refine Bel.step_alloc ?_ _ | refine Bel.step_drew ?_ | refine Bel.step_drewN ?_ _ | refine Bel.step_set ?_ (by simp <;> omega) _ | refine Bel.trans ?_ (by assumption))))).mono ?_
    rintro e w2 ⟨b, rfl, hbt, hx⟩
    have HX := Hid.mk hx
    have HB := Hid.mk hbt
    clear hx hbt hact
    go_wp2
    go_ret
    exact ⟨b, rfl, HB.out, HX.out⟩

set_option maxRecDepth 100000 in
set_option maxHeartbeats 1000000 in
theorem step_serve (W0 : Base) (s : Nat) (x : WG) (A B C : Int) (S : ByteArray) (w : World) (h : WInv W0 s x w) (hs : s ≤ 69999) (hA : I64 A) (hB : I64 B) (hC : I64 C) (hS : S.size ≤ 65536) :
    Calls Tryz.prog 12 #[.pointer (some ⟨x.p, 0, none⟩), opv 13 A B C S] w (RStep W0 x.p (s + 1) 13) := by
  have hno := fun wx => owner_not x.p 13 A B C S wx (by simp)
  have hend : Hid (∀ wx (b : Bool), Bel w wx → (HeldK 13 → b = true) → RStep W0 x.p (s + 1) 13 (.returned (.bool b)) wx) := fun wx b hb hk => ⟨b, rfl, hk, x, (h.later hb).up (by omega), rfl⟩
  have c6 := h.1.1 6 _ rfl
  by_cases hn0 : x.prs.length = 0
  · obtain ⟨ao, cap, hv⟩ := own_slice h.2.2.2.2.2.2.1
    rw [hv, hn0] at c6
    generalize x.p = p at *
    clear h
    unfold opv at *
    go_enter Tryz.func12, Tryz.ntmps12
    go_wp2_with fail
    obtain ⟨wo, hwo, hbo, o0, o1, o2, o3, o4⟩ := op_box w (.int .i64 13) (.int .i64 A) (.int .i64 B) (.int .i64 C) (.string S) 28
    rw [hwo]
    clear hwo
    generalize w.heap.size = po at o0 o1 o2 o3 o4 ⊢
    have k6 := hbo.cell c6
    refine (hno _).mono ?_
    rintro e w1 ⟨rfl, hb1⟩
    have j0 := hb1.cell o0
    have j6 := hb1.cell k6
    have hbw1 := hbo.trans hb1
    clear hno hbo hb1 o0 o1 o2 o3 o4 k6 c6
    go_wp2
    go_ret
    exact hend.out _ _ (by (repeat (first | exact Bel.refl _ | assumption | refine Bel.step_alloc ?_ _ | refine Bel.step_drew ?_ | refine Bel.step_drewN ?_ _ | refine Bel.step_set ?_ (by simp <;> omega) _ | refine Bel.trans ?_ (by assumption)))) (fun _ => rfl)
  · have hnb : ((x.prs.length : Int) == 0) = false := by rw [beq_eq_false_iff_ne]; omega
    obtain ⟨g, cap, hv, hcell⟩ := h.pick (by omega)
    have hpl := h.2.2.2.2.2.2.2.2.2.2.2.1.1
    have hpk := fun wx => lpick_is A x.prs.length wx hA (by omega) (by omega)
    obtain ⟨r1, r2⟩ := lpickF_range A x.prs.length (by omega)
    obtain ⟨m, hm⟩ := Int.eq_ofNat_of_zero_le r1
    rw [hm] at hpk
    have hml : m < x.prs.length := by omega
    have cm := hcell m hml
    rw [hv] at c6
    have hwat := fun wx (b : Bel w wx) => wat_is W0 s x B wx (h.later b) (by omega) hB
    have hyat := h.pair_at m hml
    have c0y := hyat.1.1 0 _ rfl
    have c8y := hyat.1.1 8 _ rfl
    have c6y := hyat.1.1 6 _ rfl
    have hvs := hyat.2.2.2.2.2.2.1.unmask.has
    have hfm1 : 0 ≤ (x.prs[m]).c.formats := by have := hyat.2.2.2.2.1.2.2.2.2.2.2.2.2.2.2.1; omega
    have hfm3 : (x.prs[m]).c.formats ≤ 3 := hyat.2.2.2.2.1.2.2.2.2.2.2.2.2.2.2.2
    clear hyat
    clear h hcell r1 r2 hm
    generalize x.prs[m] = y at *
    generalize x.M = M0 at *
    generalize x.p = p at *
    generalize x.prs.length = n at *
    unfold opv at *
    go_enter Tryz.func12, Tryz.ntmps12
    go_wp2_with fail
    obtain ⟨wo, hwo, hbo, o0, o1, o2, o3, o4⟩ := op_box w (.int .i64 13) (.int .i64 A) (.int .i64 B) (.int .i64 C) (.string S) 28
    rw [hwo]
    clear hwo
    generalize w.heap.size = po at o0 o1 o2 o3 o4 ⊢
    have k6 := hbo.cell c6
    have km := hbo.cell cm
    refine (hno _).mono ?_
    rintro e w1 ⟨rfl, hb1⟩
    have j0 := hb1.cell o0
    have j1 := hb1.cell o1
    have j2 := hb1.cell o2
    have j3 := hb1.cell o3
    have j4 := hb1.cell o4
    have j6 := hb1.cell k6
    have jm := hb1.cell km
    have hbw1 := hbo.trans hb1
    clear hno hbo hb1 o0 o1 o2 o3 o4 k6 c6 km cm
    go_wp2_with fail
    go_quiet ((go_at_call 24; refine Calls.quiet_of_same ((hpk _).mono fun e w2 h => ⟨h.1, h.2.symm⟩)))
    have d0 := hbw1.cell c0y
    have d8 := hbw1.cell c8y
    have d6 := hbw1.cell c6y
    have hya : y.a < w1.heap.size := World.block_lt_of_cell? w1 _ d0
    go_wp2_with fail
    refine (hwat _ (by (repeat (first | exact Bel.refl _ | assumption | refine Bel.step_alloc ?_ _ | refine Bel.step_drew ?_ | refine Bel.step_drewN ?_ _ | refine Bel.step_set ?_ (by simp <;> omega) _ | refine Bel.trans ?_ (by assumption))))).mono ?_
    rintro e w2 ⟨f, rfl, hb2, hsf⟩
    have hb12 : Bel w1 w2 := by (repeat (first | exact Bel.refl _ | assumption | refine Bel.step_alloc ?_ _ | refine Bel.step_drew ?_ | refine Bel.step_drewN ?_ _ | refine Bel.step_set ?_ (by simp <;> omega) _ | refine Bel.trans ?_ (by assumption)))
    have hbw2 := hbw1.trans hb12
    have e0 := hb12.cell d0
    have e8 := hb12.cell d8
    have e6 := hb12.cell d6
    clear hwat hb2 d0 d8 d6
    go_wp2_with fail
    refine (lserve_is _ _ _).mono ?_
    rintro e w3 ⟨rfl, rfl⟩
    go_wp2_with fail
    go_region_held3 (fun w' => Bel w2 w' ∧ w'.cell? ⟨y.a, 8, none⟩ = some y.vs ∧ w'.cell? ⟨y.a, 6, none⟩ = some (.int .i64 y.c.formats)) ((exact ⟨by (repeat (first | exact Bel.refl _ | assumption | refine Bel.step_alloc ?_ _ | refine Bel.step_drew ?_ | refine Bel.step_drewN ?_ _ | refine Bel.step_set ?_ (by simp <;> omega) _ | refine Bel.trans ?_ (by assumption))), Bel.cell (a := w2) (by (repeat (first | exact Bel.refl _ | assumption | refine Bel.step_alloc ?_ _ | refine Bel.step_drew ?_ | refine Bel.step_drewN ?_ _ | refine Bel.step_set ?_ (by simp <;> omega) _ | refine Bel.trans ?_ (by assumption)))) e8, Bel.cell (a := w2) (by (repeat (first | exact Bel.refl _ | assumption | refine Bel.step_alloc ?_ _ | refine Bel.step_drew ?_ | refine Bel.step_drewN ?_ _ | refine Bel.step_set ?_ (by simp <;> omega) _ | refine Bel.trans ?_ (by assumption)))) e6⟩)) ((go_at_call 32; refine (answer_any y.vs y.g y.c.formats f _ (hvs.later (hbw2.trans (by (repeat (first | exact Bel.refl _ | assumption | refine Bel.step_alloc ?_ _ | refine Bel.step_drew ?_ | refine Bel.step_drewN ?_ _ | refine Bel.step_set ?_ (by simp <;> omega) _ | refine Bel.trans ?_ (by assumption)))))) hfm1 hfm3 hsf).mono ?_; rintro e w4 ⟨m4, rfl, hb4, -⟩))
    have hb24 : Bel w2 w4 := by (repeat (first | exact Bel.refl _ | assumption | refine Bel.step_alloc ?_ _ | refine Bel.step_drew ?_ | refine Bel.step_drewN ?_ _ | refine Bel.step_set ?_ (by simp <;> omega) _ | refine Bel.trans ?_ (by assumption)))
    have hbw4 := hbw2.trans hb24
    clear hb4 hb24
    go_wp2
    all_goals
      go_ret
      exact hend.out _ _ (by (repeat (first | exact Bel.refl _ | assumption | refine Bel.step_alloc ?_ _ | refine Bel.step_drew ?_ | refine Bel.step_drewN ?_ _ | refine Bel.step_set ?_ (by simp <;> omega) _ | refine Bel.trans ?_ (by assumption)))) (fun e => absurd e (by simp [HeldK]))

set_option maxRecDepth 100000 in
set_option maxHeartbeats 1000000 in
theorem step_other (W0 : Base) (s : Nat) (x : WG) (k A B C : Int) (S : ByteArray) (w : World) (h : WInv W0 s x w) (hs : s ≤ 69999) (hA : I64 A) (hB : I64 B) (hC : I64 C) (hS : S.size ≤ 65536) (hk : k ≠ 1 ∧ k ≠ 2 ∧ k ≠ 3 ∧ k ≠ 4 ∧ k ≠ 5 ∧ k ≠ 6 ∧ k ≠ 7 ∧ k ≠ 8 ∧ k ≠ 9 ∧ k ≠ 10 ∧ k ≠ 11 ∧ k ≠ 12 ∧ k ≠ 13 ∧ k ≠ 14 ∧ k ≠ 15 ∧ k ≠ 16 ∧ k ≠ 17 ∧ k ≠ 18 ∧ k ≠ 19 ∧ k ≠ 20 ∧ k ≠ 21 ∧ k ≠ 22 ∧ k ≠ 23 ∧ k ≠ 24 ∧ k ≠ 25) :
    Calls Tryz.prog 12 #[.pointer (some ⟨x.p, 0, none⟩), opv k A B C S] w (RStep W0 x.p (s + 1) k) := by
  have hno := fun wx => owner_not x.p k A B C S wx ⟨hk.1, hk.2.1, hk.2.2.2.2.2.2.2.2.2.2.2.2.2.2.2.2.2.1, hk.2.2.2.2.2.2.2.2.2.2.2.2.2.2.2.2.2.2.1, hk.2.2.2.2.2.2.2.2.2.2.2.2.2.2.2.2.2.2.2.1, hk.2.2.2.2.2.2.2.2.2.2.2.2.2.2.2.2.2.2.2.2.1, hk.2.2.2.2.2.2.2.2.2.2.2.2.2.2.2.2.2.2.2.2.2.2.2.2⟩
  obtain ⟨q1, q2, q3, q4, q5, q6, q7, q8, q9, q10, q11, q12, q13, q14, q15, q16, q17, q18, q19, q20, q21, q22, q23, q24, q25⟩ := hk
  have z1 : (k == 1) = false := by rw [beq_eq_false_iff_ne]; exact q1
  have z2 : (k == 2) = false := by rw [beq_eq_false_iff_ne]; exact q2
  have z3 : (k == 3) = false := by rw [beq_eq_false_iff_ne]; exact q3
  have z4 : (k == 4) = false := by rw [beq_eq_false_iff_ne]; exact q4
  have z5 : (k == 5) = false := by rw [beq_eq_false_iff_ne]; exact q5
  have z6 : (k == 6) = false := by rw [beq_eq_false_iff_ne]; exact q6
  have z7 : (k == 7) = false := by rw [beq_eq_false_iff_ne]; exact q7
  have z8 : (k == 8) = false := by rw [beq_eq_false_iff_ne]; exact q8
  have z9 : (k == 9) = false := by rw [beq_eq_false_iff_ne]; exact q9
  have z10 : (k == 10) = false := by rw [beq_eq_false_iff_ne]; exact q10
  have z11 : (k == 11) = false := by rw [beq_eq_false_iff_ne]; exact q11
  have z12 : (k == 12) = false := by rw [beq_eq_false_iff_ne]; exact q12
  have z13 : (k == 13) = false := by rw [beq_eq_false_iff_ne]; exact q13
  have z14 : (k == 14) = false := by rw [beq_eq_false_iff_ne]; exact q14
  have z15 : (k == 15) = false := by rw [beq_eq_false_iff_ne]; exact q15
  have z16 : (k == 16) = false := by rw [beq_eq_false_iff_ne]; exact q16
  have z17 : (k == 17) = false := by rw [beq_eq_false_iff_ne]; exact q17
  have z18 : (k == 18) = false := by rw [beq_eq_false_iff_ne]; exact q18
  have z19 : (k == 19) = false := by rw [beq_eq_false_iff_ne]; exact q19
  have z20 : (k == 20) = false := by rw [beq_eq_false_iff_ne]; exact q20
  have z21 : (k == 21) = false := by rw [beq_eq_false_iff_ne]; exact q21
  have z22 : (k == 22) = false := by rw [beq_eq_false_iff_ne]; exact q22
  have z23 : (k == 23) = false := by rw [beq_eq_false_iff_ne]; exact q23
  have z24 : (k == 24) = false := by rw [beq_eq_false_iff_ne]; exact q24
  have z25 : (k == 25) = false := by rw [beq_eq_false_iff_ne]; exact q25
  clear q1 q2 q3 q4 q5 q6 q7 q8 q9 q10 q11 q12 q13 q14 q15 q16 q17 q18 q19 q20 q21 q22 q23 q24 q25
  have hend : Hid (∀ wx (b : Bool), Bel w wx → (HeldK k → b = true) → RStep W0 x.p (s + 1) k (.returned (.bool b)) wx) := fun wx b hb hk => ⟨b, rfl, hk, x, (h.later hb).up (by omega), rfl⟩
  have c6 := h.1.1 6 _ rfl
  by_cases hn0 : x.prs.length = 0
  · obtain ⟨ao, cap, hv⟩ := own_slice h.2.2.2.2.2.2.1
    rw [hv, hn0] at c6
    generalize x.p = p at *
    clear h
    unfold opv at *
    go_enter Tryz.func12, Tryz.ntmps12
    go_wp2_with fail
    obtain ⟨wo, hwo, hbo, o0, o1, o2, o3, o4⟩ := op_box w (.int .i64 k) (.int .i64 A) (.int .i64 B) (.int .i64 C) (.string S) 28
    rw [hwo]
    clear hwo
    generalize w.heap.size = po at o0 o1 o2 o3 o4 ⊢
    have k6 := hbo.cell c6
    refine (hno _).mono ?_
    rintro e w1 ⟨rfl, hb1⟩
    have j0 := hb1.cell o0
    have j6 := hb1.cell k6
    have hbw1 := hbo.trans hb1
    clear hno hbo hb1 o0 o1 o2 o3 o4 k6 c6
    go_wp2
    go_ret
    exact hend.out _ _ (by (repeat (first | exact Bel.refl _ | assumption | refine Bel.step_alloc ?_ _ | refine Bel.step_drew ?_ | refine Bel.step_drewN ?_ _ | refine Bel.step_set ?_ (by simp <;> omega) _ | refine Bel.trans ?_ (by assumption)))) (fun _ => rfl)
  · have hnb : ((x.prs.length : Int) == 0) = false := by rw [beq_eq_false_iff_ne]; omega
    obtain ⟨g, cap, hv, hcell⟩ := h.pick (by omega)
    have hpl := h.2.2.2.2.2.2.2.2.2.2.2.1.1
    have hpk := fun wx => lpick_is A x.prs.length wx hA (by omega) (by omega)
    obtain ⟨r1, r2⟩ := lpickF_range A x.prs.length (by omega)
    obtain ⟨m, hm⟩ := Int.eq_ofNat_of_zero_le r1
    rw [hm] at hpk
    have hml : m < x.prs.length := by omega
    have cm := hcell m hml
    rw [hv] at c6
    clear h hcell r1 r2 hm
    generalize x.prs[m] = y at *
    generalize x.M = M0 at *
    generalize x.p = p at *
    generalize x.prs.length = n at *
    unfold opv at *
    go_enter Tryz.func12, Tryz.ntmps12
    go_wp2_with fail
    obtain ⟨wo, hwo, hbo, o0, o1, o2, o3, o4⟩ := op_box w (.int .i64 k) (.int .i64 A) (.int .i64 B) (.int .i64 C) (.string S) 28
    rw [hwo]
    clear hwo
    generalize w.heap.size = po at o0 o1 o2 o3 o4 ⊢
    have k6 := hbo.cell c6
    have km := hbo.cell cm
    refine (hno _).mono ?_
    rintro e w1 ⟨rfl, hb1⟩
    have j0 := hb1.cell o0
    have j1 := hb1.cell o1
    have j2 := hb1.cell o2
    have j3 := hb1.cell o3
    have j4 := hb1.cell o4
    have j6 := hb1.cell k6
    have jm := hb1.cell km
    have hbw1 := hbo.trans hb1
    clear hno hbo hb1 o0 o1 o2 o3 o4 k6 c6 km cm
    go_wp2_with fail
    go_quiet ((go_at_call 24; refine Calls.quiet_of_same ((hpk _).mono fun e w2 h => ⟨h.1, h.2.symm⟩)))
    go_wp2
    go_ret
    exact hend.out _ _ (by (repeat (first | exact Bel.refl _ | assumption | refine Bel.step_alloc ?_ _ | refine Bel.step_drew ?_ | refine Bel.step_drewN ?_ _ | refine Bel.step_set ?_ (by simp <;> omega) _ | refine Bel.trans ?_ (by assumption)))) (fun _ => rfl)

end Go.Proofs.YtgfildmmcbjpnabGreat
