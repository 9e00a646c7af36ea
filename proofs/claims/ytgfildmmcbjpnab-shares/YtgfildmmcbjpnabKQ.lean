import Derived.Test.YtgfildmmcbjpnabKP
namespace Go.Proofs.Ytgfildmmcbjpnab
open Go.RowKit

/-- the parts that may fail where dataplanes and images have not landed -/
def FS (part : Int) : Prop := FD part ∨ part = 1 ∨ part = 2 ∨ part = 4 ∨ part = 8 ∨ part = 128
def opV (kind a b c : Int) (s : ByteArray) : Value := .agg #[.int .i64 kind, .int .i64 a, .int .i64 b, .int .i64 c, .string s]
theorem RStep.mono {W0 : World} {p s : Nat} {F G : Int → Prop} {e : Ending} {w' : World} (h : RStep W0 p s F e w') (hFG : ∀ x, F x → G x) : RStep W0 p s G e w' := by
  rcases h with h | ⟨h1, h2, part, h3, h4⟩
  · exact Or.inl h
  · exact Or.inr ⟨h1, h2, part, hFG _ h3, h4⟩

set_option maxRecDepth 100000 in
set_option maxHeartbeats 400000 in
theorem step_num (W0 : World) (p s : Nat) (k : KI) (a b c : Int) (S : ByteArray) (w : World) (h : KInv W0 p s k w) (ha : I64 a) (hb : I64 b) :
    Calls Try.prog 23 #[.pointer (some ⟨p, 0, none⟩), opV 1 a b c S] w (RStep W0 p (s + 1) FS) := by
  have hpk := fun wx => pick_is a 5 wx ha (by omega) (by omega)
  obtain ⟨h1, h2⟩ := pickF_range a 5 (by omega)
  generalize pickF a 5 = k5 at *
  have hnu := fun wx (b' : Bel w wx) => number_is W0 p s k k5 b wx (h.later b') h1 h2 hb
  clear h
  unfold opV
  go_enter Try.func23, Try.ntmps23
  go_wp2_with fail
  refine (hpk _).mono ?_
  rintro e w' ⟨rfl, rfl⟩
  go_wp2_with fail
  refine (hnu _ (by (repeat (first | exact Bel.refl _ | assumption | refine Bel.step_alloc ?_ _ | refine Bel.step_drew ?_ | refine Bel.step_drewN ?_ _ | refine Bel.step_set ?_ (by simp <;> omega) _ | refine Bel.trans ?_ (by assumption))))).mono ?_
  rintro e w2 ⟨rfl, k2, hk2⟩
  have HK := Hid.mk hk2
  clear hk2 hnu hpk
  go_wp2
  go_ret
  exact Or.inl ⟨rfl, k2, HK.out.up (by omega)⟩

set_option maxRecDepth 100000 in
set_option maxHeartbeats 400000 in
theorem step_key (W0 : World) (p s : Nat) (k : KI) (a b c : Int) (S : ByteArray) (w : World) (h : KInv W0 p s k w) :
    Calls Try.prog 23 #[.pointer (some ⟨p, 0, none⟩), opV 2 a b c S] w (RStep W0 p (s + 1) FS) := by
  have hfi := fun wx => fill_is S 16 wx (by omega) (by omega)
  have HI := Hid.mk h
  have c5 := h.1.1 5 _ rfl
  have f5 := h.1.2 5 (by rw [wl_len]; decide)
  clear h
  unfold opV
  go_enter Try.func23, Try.ntmps23
  go_wp2_with fail
  refine (hfi _).mono ?_
  rintro e w2 ⟨x, rfl, hb2, hx⟩
  have hbw : Bel w w2 := (Bel.step_alloc (Bel.refl w) _).trans hb2
  have d5 := hbw.cell c5
  have g5 := hbw.frozen c5 f5
  have hI2 := HI.out.later hbw
  have HW := Hid.mk (hI2.1.set 5 (.string x))
  have hcO := hI2.2.2.2.2.2.2.2.1
  have hok : Hid (Cfg.OK { k.c with key := x }) := ⟨hcO.1, hcO.2.1, hcO.2.2.1, hcO.2.2.2.1, hcO.2.2.2.2.1, hcO.2.2.2.2.2.1, hcO.2.2.2.2.2.2.1, hcO.2.2.2.2.2.2.2.1, hcO.2.2.2.2.2.2.2.2.1, hx, hcO.2.2.2.2.2.2.2.2.2.2.1, hcO.2.2.2.2.2.2.2.2.2.2.2⟩
  have HI2 := Hid.mk hI2
  clear hI2 hcO hfi c5 f5 hb2 hx
  go_wp2
  go_ret
  exact Or.inl ⟨rfl, _, (HI2.out.setW (c' := { k.c with key := x }) (part' := k.part) ((But.refl _ _).set (by simp) _) HW.out hok.out).up (by omega)⟩

set_option maxRecDepth 100000 in
set_option maxHeartbeats 400000 in
theorem step_new (W0 : World) (p s : Nat) (k : KI) (a b c : Int) (S : ByteArray) (w : World) (h : KInv W0 p s k w) :
    Calls Try.prog 23 #[.pointer (some ⟨p, 0, none⟩), opV 3 a b c S] w (RStep W0 p (s + 1) FS) := by
  have hbg := fun wx (b' : Bel w wx) => kbegin_is W0 p (s + 1) k.part k.c _ _ _ _ _ _ _ _ _ _ _ _ _ wx ((h.later b').1 : WAt p (wl0 k.part k.c [.pointer (some ⟨k.q, 0, none⟩), .int .i64 k.on.alg, .int .i64 k.on.slots, .int .i64 k.on.points, .int .i64 k.on.probes, .string k.on.key, .int .i64 k.on.formats, k.vb, k.vw, k.vs, k.vh, .slice none 0 0, .string ByteArray.empty]) wx) (h.2.2.2.2.2.2.2.1) (h.later b').2.2.2.1 (h.2.2.1 p h.2.1.1).1
  clear h
  unfold opV
  go_enter Try.func23, Try.ntmps23
  go_wp2_with fail
  refine (hbg _ (by (repeat (first | exact Bel.refl _ | assumption | refine Bel.step_alloc ?_ _ | refine Bel.step_drew ?_ | refine Bel.step_drewN ?_ _ | refine Bel.step_set ?_ (by simp <;> omega) _ | refine Bel.trans ?_ (by assumption))))).mono ?_
  rintro e w2 ⟨rfl, k2, hk2⟩
  have HK := Hid.mk hk2
  clear hk2 hbg
  go_wp2
  go_ret
  exact Or.inl ⟨rfl, k2, HK.out⟩

set_option maxRecDepth 100000 in
set_option maxHeartbeats 400000 in
theorem step_delta (W0 : World) (p s : Nat) (k : KI) (a b c : Int) (S : ByteArray) (w : World) (h : KInv W0 p s k w) (hs : s ≤ 65600) (ha : I64 a) (hb : I64 b) (hS : S.size ≤ maxLen) :
    Calls Try.prog 23 #[.pointer (some ⟨p, 0, none⟩), opV 4 a b c S] w (RStep W0 p (s + 1) FS) := by
  have hdl := fun wx (b' : Bel w wx) => delta_is W0 p s k a b S wx (h.later b') hs ha hb hS
  clear h
  unfold opV
  go_enter Try.func23, Try.ntmps23
  go_wp2_with fail
  refine (hdl _ (by (repeat (first | exact Bel.refl _ | assumption | refine Bel.step_alloc ?_ _ | refine Bel.step_drew ?_ | refine Bel.step_drewN ?_ _ | refine Bel.step_set ?_ (by simp <;> omega) _ | refine Bel.trans ?_ (by assumption))))).mono ?_
  intro e w2 hr
  rcases hr with ⟨rfl, k2, hk2⟩ | ⟨rfl, hb2, part, hF, hcell⟩
  · have HK := Hid.mk hk2
    clear hk2 hdl
    go_wp2
    go_ret
    exact Or.inl ⟨rfl, k2, HK.out⟩
  · have HC := Hid.mk hcell
    clear hdl hcell
    go_wp2
    go_ret
    exact Or.inr ⟨rfl, hb2, part, Or.inl hF, HC.out⟩

set_option maxRecDepth 100000 in
set_option maxHeartbeats 400000 in
theorem step_drop (W0 : World) (p s : Nat) (k : KI) (a b c : Int) (S : ByteArray) (w : World) (h : KInv W0 p s k w) :
    Calls Try.prog 23 #[.pointer (some ⟨p, 0, none⟩), opV 5 a b c S] w (RStep W0 p (s + 1) FS) := by
  have HI := Hid.mk h
  have c7 := h.1.1 7 _ rfl
  have hplt := h.1.lt (by rw [wl_len]; decide)
  clear h
  unfold opV
  go_enter Try.func23, Try.ntmps23
  go_wp2_with fail
  refine (drop_is _ _).mono ?_
  rintro e w2 ⟨rfl, rfl⟩
  go_wp2
  go_ret
  exact Or.inl ⟨rfl, k, (HI.out.later (by (repeat (first | exact Bel.refl _ | assumption | refine Bel.step_alloc ?_ _ | refine Bel.step_drew ?_ | refine Bel.step_drewN ?_ _ | refine Bel.step_set ?_ (by simp <;> omega) _ | refine Bel.trans ?_ (by assumption))))).up (by omega)⟩

set_option maxRecDepth 100000 in
set_option maxHeartbeats 400000 in
theorem step_same (W0 : World) (p s : Nat) (k : KI) (a b c : Int) (S : ByteArray) (w : World) (h : KInv W0 p s k w) :
    Calls Try.prog 23 #[.pointer (some ⟨p, 0, none⟩), opV 12 a b c S] w (RStep W0 p (s + 1) FS) := by
  have hfr := fun wx (b' : Bel w wx) => fresh_is W0 p s k wx (h.later b')
  have HI := Hid.mk h
  clear h
  unfold opV
  go_enter Try.func23, Try.ntmps23
  go_wp2_with fail
  refine (hfr _ (by (repeat (first | exact Bel.refl _ | assumption | refine Bel.step_alloc ?_ _ | refine Bel.step_drew ?_ | refine Bel.step_drewN ?_ _ | refine Bel.step_set ?_ (by simp <;> omega) _ | refine Bel.trans ?_ (by assumption))))).mono ?_
  rintro e w2 ⟨x, rfl, hb2, rfl⟩
  have hbw : Bel w w2 := (Bel.step_alloc (Bel.refl w) _).trans hb2
  clear hfr
  go_wp2
  go_ret
  exact Or.inl ⟨rfl, k, (HI.out.later hbw).up (by omega)⟩

end Go.Proofs.Ytgfildmmcbjpnab

namespace Go.Proofs.Ytgfildmmcbjpnab
open Go.RowKit

theorem image_is (v : Value) (f : Int) (w : World) : Calls Try.prog 57 #[v, .int .i64 f] w fun e w' => e = .returned (.tuple #[.string ByteArray.empty, .int .i64 0]) ∧ w = w' := by
  go_enter Try.func57, Try.ntmps57
  go_wp2
  go_ret2
  exact ⟨rfl, rfl⟩

set_option maxRecDepth 100000 in
set_option maxHeartbeats 400000 in
theorem written_is (W0 : World) (p s : Nat) (k : KI) (a b : Int) (w : World) (h : KInv W0 p s k w) :
    Calls Try.prog 37 #[.pointer (some ⟨p, 0, none⟩), .int .i64 a, .int .i64 b] w fun e w' => e = .returned (.bool false) ∧ Bel w w' := by
  have c7 := h.1.1 7 _ rfl
  have hgn := fun wx (b' : Bel w wx) => gen_is k.M k.q k.on k.B k.g wx (h.2.2.2.2.1.later b')
  have hplt := h.1.lt (by rw [wl_len]; decide)
  clear h
  go_enter Try.func37, Try.ntmps37
  go_wp2_with fail
  refine (image_is _ _ _).mono ?_
  rintro e w2 ⟨rfl, rfl⟩
  go_wp2_with fail
  refine (image_is _ _ _).mono ?_
  rintro e w2 ⟨rfl, rfl⟩
  go_wp2_with fail
  refine (hgn _ (by (repeat (first | exact Bel.refl _ | assumption | refine Bel.step_alloc ?_ _ | refine Bel.step_drew ?_ | refine Bel.step_drewN ?_ _ | refine Bel.step_set ?_ (by simp <;> omega) _ | refine Bel.trans ?_ (by assumption))))).mono ?_
  rintro e w2 ⟨rfl, rfl⟩
  clear hgn
  go_wp2
  all_goals go_ret
  all_goals exact ⟨rfl, by (repeat (first | exact Bel.refl _ | assumption | refine Bel.step_alloc ?_ _ | refine Bel.step_drew ?_ | refine Bel.step_drewN ?_ _ | refine Bel.step_set ?_ (by simp <;> omega) _ | refine Bel.trans ?_ (by assumption)))⟩

set_option maxRecDepth 100000 in
set_option maxHeartbeats 400000 in
theorem step_bytes (W0 : World) (p s : Nat) (k : KI) (a b c : Int) (S : ByteArray) (w : World) (h : KInv W0 p s k w) :
    Calls Try.prog 23 #[.pointer (some ⟨p, 0, none⟩), opV 13 a b c S] w (RStep W0 p (s + 1) FS) := by
  have hwr := fun wx (b' : Bel w wx) => written_is W0 p s k a b wx (h.later b')
  have hfa := fun wx (b' : Bel w wx) => fails_is p _ 128 wx (h.1.later b') (by rw [wl_len]; decide)
  have hW0 := h.2.2.2.1
  have hpM := (h.2.2.1 p h.2.1.1).1
  have hplt := h.1.lt (by rw [wl_len]; decide)
  have HW := Hid.mk h.1
  clear h
  unfold opV
  go_enter Try.func23, Try.ntmps23
  go_wp2_with fail
  refine (hwr _ (by (repeat (first | exact Bel.refl _ | assumption | refine Bel.step_alloc ?_ _ | refine Bel.step_drew ?_ | refine Bel.step_drewN ?_ _ | refine Bel.step_set ?_ (by simp <;> omega) _ | refine Bel.trans ?_ (by assumption))))).mono ?_
  rintro e w2 ⟨rfl, hb2⟩
  have hbw : Bel w w2 := (Bel.step_alloc (Bel.refl w) _).trans hb2
  clear hwr
  go_wp2_with fail
  refine (hfa _ (by (repeat (first | exact Bel.refl _ | assumption | refine Bel.step_alloc ?_ _ | refine Bel.step_drew ?_ | refine Bel.step_drewN ?_ _ | refine Bel.step_set ?_ (by simp <;> omega) _ | refine Bel.trans ?_ (by assumption))))).mono ?_
  rintro e w3 ⟨rfl, rfl⟩
  clear hfa
  go_wp2
  go_ret
  exact Or.inr ⟨rfl, (hW0.trans hbw).step_set hpM _, 128, Or.inr (by simp), set_same ((HW.out.later hbw).1 0 _ rfl)⟩

set_option maxRecDepth 100000 in
set_option maxHeartbeats 400000 in
/-- any other step, where there is no dataplane -/
theorem step_none (W0 : World) (p s : Nat) (k : KI) (kd a b c : Int) (S : ByteArray) (w : World) (h : KInv W0 p s k w) (hv : k.vh = .slice none 0 0) (hkd : (kd < 1 ∨ 6 < kd) ∧ kd ≠ 12 ∧ kd ≠ 13) :
    Calls Try.prog 23 #[.pointer (some ⟨p, 0, none⟩), opV kd a b c S] w (RStep W0 p (s + 1) FS) := by
  have c17 : w.cell? ⟨p, 17, none⟩ = some (.slice none 0 0) := by rw [← hv]; exact h.1.1 17 _ rfl
  have hplt := h.1.lt (by rw [wl_len]; decide)
  have HI := Hid.mk h
  clear h
  have e1 : (kd == 1) = false := by rw [beq_eq_false_iff_ne]; omega
  have e2 : (kd == 2) = false := by rw [beq_eq_false_iff_ne]; omega
  have e3 : (kd == 3) = false := by rw [beq_eq_false_iff_ne]; omega
  have e4 : (kd == 4) = false := by rw [beq_eq_false_iff_ne]; omega
  have e5 : (kd == 5) = false := by rw [beq_eq_false_iff_ne]; omega
  have e6 : (kd == 6) = false := by rw [beq_eq_false_iff_ne]; omega
  have e12 : (kd == 12) = false := by rw [beq_eq_false_iff_ne]; omega
  have e13 : (kd == 13) = false := by rw [beq_eq_false_iff_ne]; omega
  unfold opV
  go_enter Try.func23, Try.ntmps23
  go_wp2
  all_goals go_ret
  all_goals exact Or.inl ⟨rfl, k, (HI.out.later (by (repeat (first | exact Bel.refl _ | assumption | refine Bel.step_alloc ?_ _ | refine Bel.step_drew ?_ | refine Bel.step_drewN ?_ _ | refine Bel.step_set ?_ (by simp <;> omega) _ | refine Bel.trans ?_ (by assumption))))).up (by omega)⟩

end Go.Proofs.Ytgfildmmcbjpnab
