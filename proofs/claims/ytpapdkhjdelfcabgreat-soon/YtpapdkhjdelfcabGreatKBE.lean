import Derived.Test.YtpapdkhjdelfcabGreatKBD
namespace Go.Proofs.YtpapdkhjdelfcabGreat
open Go.RowKit

/-- the cells of a dataplane -/
def plC (fm g : Nat) (c : Cfg) (vP vE : Value) (cg cf cp : Nat) (vT : Value) (nf : Bool) : Array Value := #[.int .i64 (fm : Int), .int .i64 (g : Int), .int .i64 c.alg, .int .i64 c.slots, .int .i64 c.points, .int .i64 c.probes, .string c.key, .int .i64 c.formats, vP, vE, .int .i64 (cg : Int), .int .i64 (cf : Int), .int .i64 (cp : Int), vT, .bool nf]
def cfg0 : Cfg := ⟨0, 0, 0, 0, ⟨#[]⟩, 0⟩
def plNew (fm : Nat) : Array Value := plC fm 0 cfg0 (.slice none 0 0) (.slice none 0 0) 0 0 0 (.slice none 0 0) false
def RPNew (fm : Nat) (w : World) (e : Ending) (w' : World) : Prop := e = .returned (.pointer (some ⟨w.heap.size, 0, none⟩)) ∧ Bel w w' ∧ w.heap.size < w'.heap.size ∧ BoxC w.heap.size 146 (plNew fm) w'
set_option maxRecDepth 100000 in
set_option maxHeartbeats 400000 in
theorem plnew_is (fm : Nat) (w : World) : Calls Tryz.prog 58 #[.int .i64 (fm : Int)] w (RPNew fm w) := by
  have HX := Hid.mk (BoxC.new w 146 (plNew fm))
  unfold plNew plC cfg0 at HX
  go_enter Tryz.func58, Tryz.ntmps58
  go_wp2
  go_ret
  exact ⟨rfl, (Bel.refl w).step_alloc _, by simp, HX.out⟩
def heldF (g : Nat) (nf : Bool) : Int × Int := ((g : Int), if nf then 11 else 0)
def RHeld (w : World) (x : Int × Int) (e : Ending) (w' : World) : Prop := e = .returned (.tuple #[.int .i64 x.1, .int .i64 x.2]) ∧ Bel w w'
set_option maxRecDepth 100000 in
set_option maxHeartbeats 400000 in
theorem plheld_is (q fm g : Nat) (c : Cfg) (vP vE : Value) (cg cf cp : Nat) (vT : Value) (nf : Bool) (w : World) (h : BoxC q 146 (plC fm g c vP vE cg cf cp vT nf) w) :
    Calls Tryz.prog 67 #[.pointer (some ⟨q, 0, none⟩)] w (RHeld w (heldF g nf)) := by
  unfold plC at h
  have c1 := h.cell 1 rfl
  have c14 := h.cell 14 rfl
  clear h
  unfold heldF
  cases nf
  · go_enter Tryz.func67, Tryz.ntmps67
    go_wp2
    go_ret2
    exact ⟨rfl, by (repeat (first | exact Bel.refl _ | assumption | refine Bel.step_alloc ?_ _ | refine Bel.step_drew ?_ | refine Bel.step_drewN ?_ _ | refine Bel.step_set ?_ (by simp <;> omega) _ | refine Bel.trans ?_ (by assumption)))⟩
  · go_enter Tryz.func67, Tryz.ntmps67
    go_wp2
    go_ret2
    exact ⟨rfl, by (repeat (first | exact Bel.refl _ | assumption | refine Bel.step_alloc ?_ _ | refine Bel.step_drew ?_ | refine Bel.step_drewN ?_ _ | refine Bel.step_set ?_ (by simp <;> omega) _ | refine Bel.trans ?_ (by assumption)))⟩
def plOwnF (g : Nat) (c : Cfg) (B : List BK) (E : List EI) (k : ByteArray) : ByteArray × Int := if g = 0 then (⟨#[]⟩, 7) else ownE c B E k
set_option maxRecDepth 100000 in
set_option maxHeartbeats 400000 in
theorem plowner_is (q fm g : Nat) (c : Cfg) (vP vE : Value) (cg cf cp : Nat) (vT : Value) (nf : Bool) (B : List BK) (E : List EI) (k : ByteArray) (w : World) (h : BoxC q 146 (plC fm g c vP vE cg cf cp vT nf) w) (hP : PoolAt w vP B) (hE : EIAt w vE E) (hlen : E.length ≤ 65536) (hc : g ≠ 0 → c.TOK) (hk : k.size ≤ 4611686018427386000) :
    Calls Tryz.prog 68 #[.pointer (some ⟨q, 0, none⟩), .string k] w (RStrErr w (plOwnF g c B E k)) := by
  unfold plC at h
  have c1 := h.cell 1 rfl
  unfold plOwnF
  by_cases hg : g = 0
  · subst hg
    rw [if_pos rfl]
    replace c1 : w.cell? ⟨q, 1, none⟩ = some (.int .i64 0) := c1
    clear h hc
    go_enter Tryz.func68, Tryz.ntmps68
    go_wp2
    go_ret2
    exact ⟨rfl, by (repeat (first | exact Bel.refl _ | assumption | refine Bel.step_alloc ?_ _ | refine Bel.step_drew ?_ | refine Bel.step_drewN ?_ _ | refine Bel.step_set ?_ (by simp <;> omega) _ | refine Bel.trans ?_ (by assumption)))⟩
  · rw [if_neg hg]
    have H := Hid.mk (owner2_is q c vP vE B E k w ⟨⟨h.cell 2 rfl, h.cell 3 rfl, h.cell 4 rfl, h.cell 5 rfl, h.cell 6 rfl, h.cell 7 rfl⟩, h.cell 8 rfl, h.cell 9 rfl⟩ hP hE hlen (hc hg) hk)
    have hg0 : ((g : Int) == 0) = false := by rw [beq_eq_false_iff_ne]; omega
    clear h hc
    go_enter Tryz.func68, Tryz.ntmps68
    go_wp2_with fail
    refine H.out.mono ?_
    rintro e w2 ⟨rfl, hb2⟩
    have HB2 := Hid.mk hb2
    clear hb2 H
    go_wp2
    go_ret2
    exact ⟨rfl, HB2.out⟩
def RNone (q : Nat) (tq : TypeId) (cs : Array Value) (w : World) (e : Ending) (w' : World) : Prop := e = .returned (.tuple #[]) ∧ But [q] w w' ∧ BoxC q tq cs w'
set_option maxRecDepth 100000 in
set_option maxHeartbeats 600000 in
theorem plrestart_is (q fm g : Nat) (c : Cfg) (vP vE : Value) (cg cf cp : Nat) (vT : Value) (nf : Bool) (w : World) (h : BoxC q 146 (plC fm g c vP vE cg cf cp vT nf) w) :
    Calls Tryz.prog 136 #[.pointer (some ⟨q, 0, none⟩)] w (RNone q 146 (plNew fm) w) := by
  unfold plC at h
  have HX := Hid.mk h
  have c0 := h.cell 0 rfl
  have f0 := h.free 0
  have c1 := h.cell 1 rfl
  have f1 := h.free 1
  have c2 := h.cell 2 rfl
  have f2 := h.free 2
  have c3 := h.cell 3 rfl
  have f3 := h.free 3
  have c4 := h.cell 4 rfl
  have f4 := h.free 4
  have c5 := h.cell 5 rfl
  have f5 := h.free 5
  have c6 := h.cell 6 rfl
  have f6 := h.free 6
  have c7 := h.cell 7 rfl
  have f7 := h.free 7
  have c8 := h.cell 8 rfl
  have f8 := h.free 8
  have c9 := h.cell 9 rfl
  have f9 := h.free 9
  have c10 := h.cell 10 rfl
  have f10 := h.free 10
  have c11 := h.cell 11 rfl
  have f11 := h.free 11
  have c12 := h.cell 12 rfl
  have f12 := h.free 12
  have c13 := h.cell 13 rfl
  have f13 := h.free 13
  have c14 := h.cell 14 rfl
  have f14 := h.free 14
  clear h
  go_enter Tryz.func136, Tryz.ntmps136
  go_wp2
  go_end0
  refine ⟨rfl, ?_, ?_⟩
  · iterate 14 (refine But.set ?_ (by simp) _)
    exact But.refl _ _
  · have x0 := HX.out
    have x1 := x0.set 1 (.int .i64 0) (cs' := #[.int .i64 (fm : Int), .int .i64 0, .int .i64 c.alg, .int .i64 c.slots, .int .i64 c.points, .int .i64 c.probes, .string c.key, .int .i64 c.formats, vP, vE, .int .i64 (cg : Int), .int .i64 (cf : Int), .int .i64 (cp : Int), vT, .bool nf]) rfl
    have x2 := x1.set 2 (.int .i64 0) (cs' := #[.int .i64 (fm : Int), .int .i64 0, .int .i64 0, .int .i64 c.slots, .int .i64 c.points, .int .i64 c.probes, .string c.key, .int .i64 c.formats, vP, vE, .int .i64 (cg : Int), .int .i64 (cf : Int), .int .i64 (cp : Int), vT, .bool nf]) rfl
    have x3 := x2.set 3 (.int .i64 0) (cs' := #[.int .i64 (fm : Int), .int .i64 0, .int .i64 0, .int .i64 0, .int .i64 c.points, .int .i64 c.probes, .string c.key, .int .i64 c.formats, vP, vE, .int .i64 (cg : Int), .int .i64 (cf : Int), .int .i64 (cp : Int), vT, .bool nf]) rfl
    have x4 := x3.set 4 (.int .i64 0) (cs' := #[.int .i64 (fm : Int), .int .i64 0, .int .i64 0, .int .i64 0, .int .i64 0, .int .i64 c.probes, .string c.key, .int .i64 c.formats, vP, vE, .int .i64 (cg : Int), .int .i64 (cf : Int), .int .i64 (cp : Int), vT, .bool nf]) rfl
    have x5 := x4.set 5 (.int .i64 0) (cs' := #[.int .i64 (fm : Int), .int .i64 0, .int .i64 0, .int .i64 0, .int .i64 0, .int .i64 0, .string c.key, .int .i64 c.formats, vP, vE, .int .i64 (cg : Int), .int .i64 (cf : Int), .int .i64 (cp : Int), vT, .bool nf]) rfl
    have x6 := x5.set 6 (.string ⟨#[]⟩) (cs' := #[.int .i64 (fm : Int), .int .i64 0, .int .i64 0, .int .i64 0, .int .i64 0, .int .i64 0, .string ⟨#[]⟩, .int .i64 c.formats, vP, vE, .int .i64 (cg : Int), .int .i64 (cf : Int), .int .i64 (cp : Int), vT, .bool nf]) rfl
    have x7 := x6.set 7 (.int .i64 0) (cs' := #[.int .i64 (fm : Int), .int .i64 0, .int .i64 0, .int .i64 0, .int .i64 0, .int .i64 0, .string ⟨#[]⟩, .int .i64 0, vP, vE, .int .i64 (cg : Int), .int .i64 (cf : Int), .int .i64 (cp : Int), vT, .bool nf]) rfl
    have x8 := x7.set 8 (.slice none 0 0) (cs' := #[.int .i64 (fm : Int), .int .i64 0, .int .i64 0, .int .i64 0, .int .i64 0, .int .i64 0, .string ⟨#[]⟩, .int .i64 0, .slice none 0 0, vE, .int .i64 (cg : Int), .int .i64 (cf : Int), .int .i64 (cp : Int), vT, .bool nf]) rfl
    have x9 := x8.set 9 (.slice none 0 0) (cs' := #[.int .i64 (fm : Int), .int .i64 0, .int .i64 0, .int .i64 0, .int .i64 0, .int .i64 0, .string ⟨#[]⟩, .int .i64 0, .slice none 0 0, .slice none 0 0, .int .i64 (cg : Int), .int .i64 (cf : Int), .int .i64 (cp : Int), vT, .bool nf]) rfl
    have x10 := x9.set 10 (.int .i64 0) (cs' := #[.int .i64 (fm : Int), .int .i64 0, .int .i64 0, .int .i64 0, .int .i64 0, .int .i64 0, .string ⟨#[]⟩, .int .i64 0, .slice none 0 0, .slice none 0 0, .int .i64 0, .int .i64 (cf : Int), .int .i64 (cp : Int), vT, .bool nf]) rfl
    have x11 := x10.set 11 (.int .i64 0) (cs' := #[.int .i64 (fm : Int), .int .i64 0, .int .i64 0, .int .i64 0, .int .i64 0, .int .i64 0, .string ⟨#[]⟩, .int .i64 0, .slice none 0 0, .slice none 0 0, .int .i64 0, .int .i64 0, .int .i64 (cp : Int), vT, .bool nf]) rfl
    have x12 := x11.set 12 (.int .i64 0) (cs' := #[.int .i64 (fm : Int), .int .i64 0, .int .i64 0, .int .i64 0, .int .i64 0, .int .i64 0, .string ⟨#[]⟩, .int .i64 0, .slice none 0 0, .slice none 0 0, .int .i64 0, .int .i64 0, .int .i64 0, vT, .bool nf]) rfl
    have x13 := x12.set 13 (.slice none 0 0) (cs' := #[.int .i64 (fm : Int), .int .i64 0, .int .i64 0, .int .i64 0, .int .i64 0, .int .i64 0, .string ⟨#[]⟩, .int .i64 0, .slice none 0 0, .slice none 0 0, .int .i64 0, .int .i64 0, .int .i64 0, .slice none 0 0, .bool nf]) rfl
    have x14 := x13.set 14 (.bool false) (cs' := #[.int .i64 (fm : Int), .int .i64 0, .int .i64 0, .int .i64 0, .int .i64 0, .int .i64 0, .string ⟨#[]⟩, .int .i64 0, .slice none 0 0, .slice none 0 0, .int .i64 0, .int .i64 0, .int .i64 0, .slice none 0 0, .bool false]) rfl
    exact x14

/-- is a piece of use? -/
def wantB (fm g cg : Nat) (a : Ans) : Bool := decide (g < a.2.1) && decide (cg ≤ a.2.1) && decide (a.2.2.2.2.1 < a.2.2.2.1) && !((a.2.2.1 &&& fm) == 0)
def ansC (a : Ans) : Array Value := #[.int .i64 (a.1 : Int), .int .i64 (a.2.1 : Int), .int .i64 (a.2.2.1 : Int), .int .i64 (a.2.2.2.1 : Int), .int .i64 (a.2.2.2.2.1 : Int), .string (txt a.2.2.2.2.2)]
theorem and64 (x y : Nat) (hx : x < 256) (hy : y < 256) : bits .and .i64 (x : Int) (y : Int) = ((x &&& y : Nat) : Int) := i64_and_nat x y (by omega) (by omega)
set_option maxRecDepth 100000 in
set_option maxHeartbeats 1000000 in
theorem wants_is (q fm g : Nat) (c : Cfg) (vP vE : Value) (cg cf cp : Nat) (vT : Value) (nf : Bool) (a : Ans) (w : World) (h : BoxC q 146 (plC fm g c vP vE cg cf cp vT nf) w) (hf : a.2.2.1 < 256) (hfm : fm < 256) :
    Calls Tryz.prog 174 #[.pointer (some ⟨q, 0, none⟩), .agg (ansC a)] w (RShort w (wantB fm g cg a)) := by
  unfold plC at h
  have c0 := h.cell 0 rfl
  have c1 := h.cell 1 rfl
  have c10 := h.cell 10 rfl
  have hql := h.lt
  have hand := and64 a.2.2.1 fm hf hfm
  unfold wantB ansC
  obtain ⟨k, ag, af, ap, an, ab⟩ := a
  simp only at *
  generalize hz : ((af &&& fm) == 0) = z at *
  have hzi : (((af &&& fm : Nat) : Int) != 0) = !z := by
    rw [← hz]
    cases hh : ((af &&& fm) == 0)
    · simp at hh; simp [hh]
    · simp at hh; simp [hh]
  generalize (af &&& fm) = am at *
  generalize txt ab = tb at *
  clear h hz hf hfm
  by_cases h1 : g < ag
  · have d1 : decide ((g : Int) < (ag : Int)) = true := decide_eq_true (by omega)
    by_cases h2 : cg ≤ ag
    · have d2 : decide ((cg : Int) ≤ (ag : Int)) = true := decide_eq_true (by omega)
      by_cases h3 : an < ap
      · have d3 : decide ((an : Int) < (ap : Int)) = true := decide_eq_true (by omega)
        have HF : Hid ((decide (g < ag) && decide (cg ≤ ag) && decide (an < ap) && !z) = !z) := by show _ = _; simp [h1, h2, h3]
        go_enter Tryz.func174, Tryz.ntmps174
        go_wp2_with fail
        go_quiet (fail)
        go_wp2
        go_ret
        exact ⟨by rw [HF.out]; rfl, by (repeat (first | exact Bel.refl _ | assumption | refine Bel.step_alloc ?_ _ | refine Bel.step_drew ?_ | refine Bel.step_drewN ?_ _ | refine Bel.step_set ?_ (by simp <;> omega) _ | refine Bel.trans ?_ (by assumption)))⟩
      · have d3 : decide ((an : Int) < (ap : Int)) = false := decide_eq_false (by omega)
        have HF : Hid ((decide (g < ag) && decide (cg ≤ ag) && decide (an < ap) && !z) = false) := by show _ = _; simp [h3]
        go_enter Tryz.func174, Tryz.ntmps174
        go_wp2_with fail
        go_quiet (fail)
        go_wp2
        go_ret
        exact ⟨by rw [HF.out]; rfl, by (repeat (first | exact Bel.refl _ | assumption | refine Bel.step_alloc ?_ _ | refine Bel.step_drew ?_ | refine Bel.step_drewN ?_ _ | refine Bel.step_set ?_ (by simp <;> omega) _ | refine Bel.trans ?_ (by assumption)))⟩
    · have d2 : decide ((cg : Int) ≤ (ag : Int)) = false := decide_eq_false (by omega)
      have HF : Hid ((decide (g < ag) && decide (cg ≤ ag) && decide (an < ap) && !z) = false) := by show _ = _; simp [h2]
      go_enter Tryz.func174, Tryz.ntmps174
      go_wp2_with fail
      go_quiet (fail)
      go_wp2
      go_ret
      exact ⟨by rw [HF.out]; rfl, by (repeat (first | exact Bel.refl _ | assumption | refine Bel.step_alloc ?_ _ | refine Bel.step_drew ?_ | refine Bel.step_drewN ?_ _ | refine Bel.step_set ?_ (by simp <;> omega) _ | refine Bel.trans ?_ (by assumption)))⟩
  · have d1 : decide ((g : Int) < (ag : Int)) = false := decide_eq_false (by omega)
    have HF : Hid ((decide (g < ag) && decide (cg ≤ ag) && decide (an < ap) && !z) = false) := by show _ = _; simp [h1]
    go_enter Tryz.func174, Tryz.ntmps174
    go_wp2_with fail
    go_quiet (fail)
    go_wp2
    go_ret
    exact ⟨by rw [HF.out]; rfl, by (repeat (first | exact Bel.refl _ | assumption | refine Bel.step_alloc ?_ _ | refine Bel.step_drew ?_ | refine Bel.step_drewN ?_ _ | refine Bel.step_set ?_ (by simp <;> omega) _ | refine Bel.trans ?_ (by assumption)))⟩

end Go.Proofs.YtpapdkhjdelfcabGreat

namespace Go.Proofs.YtpapdkhjdelfcabGreat
open Go.RowKit

/-- what comes of the pieces -/
def RFin (q fm g : Nat) (c : Cfg) (vP vE : Value) (cg cf : Nat) (T : List TP) (nf : Bool) (w : World) (e : Ending) (w' : World) : Prop := e = .returned (.tuple #[]) ∧ But [q] w w' ∧
  ((∃ c2 B2 E2 vP2 vE2, imageP (thB T) = some (cf, cg, c2, B2, E2) ∧ BoxC q 146 (plC fm cg c2 vP2 vE2 0 0 0 (.slice none 0 0) nf) w' ∧ OwnB w.heap.size w' vP2 B2 ∧ OwnE w.heap.size w' vE2 E2) ∨
   ((∀ c2 B2 E2, imageP (thB T) ≠ some (cf, cg, c2, B2, E2)) ∧ BoxC q 146 (plC fm g c vP vE 0 0 0 (.slice none 0 0) nf) w'))
set_option maxRecDepth 100000 in
set_option maxHeartbeats 1000000 in
theorem finish_is (q fm g : Nat) (c : Cfg) (vP vE : Value) (cg cf cp : Nat) (vT : Value) (nf : Bool) (T : List TP) (w : World) (h : BoxC q 146 (plC fm g c vP vE cg cf cp vT nf) w) (hT : ThAt w vT T) (hl : T.length ≤ 65536) (hs : ∀ p ∈ T, p.2.length ≤ 65536) :
    Calls Tryz.prog 177 #[.pointer (some ⟨q, 0, none⟩)] w (RFin q fm g c vP vE cg cf T nf w) := by
  unfold plC at h
  obtain ⟨ao, cap, rfl⟩ := own_sliceW hT
  have hql := h.lt
  have HX := Hid.mk h
  have c0 := h.cell 0 rfl
  have f0 := h.free 0
  have c1 := h.cell 1 rfl
  have f1 := h.free 1
  have c2 := h.cell 2 rfl
  have f2 := h.free 2
  have c3 := h.cell 3 rfl
  have f3 := h.free 3
  have c4 := h.cell 4 rfl
  have f4 := h.free 4
  have c5 := h.cell 5 rfl
  have f5 := h.free 5
  have c6 := h.cell 6 rfl
  have f6 := h.free 6
  have c7 := h.cell 7 rfl
  have f7 := h.free 7
  have c8 := h.cell 8 rfl
  have f8 := h.free 8
  have c9 := h.cell 9 rfl
  have f9 := h.free 9
  have c10 := h.cell 10 rfl
  have f10 := h.free 10
  have c11 := h.cell 11 rfl
  have f11 := h.free 11
  have c12 := h.cell 12 rfl
  have f12 := h.free 12
  have c13 := h.cell 13 rfl
  have f13 := h.free 13
  have c14 := h.cell 14 rfl
  have f14 := h.free 14
  have hqT : (Value.slice ao T.length cap).ownBlock ≠ some q := fun e => by
    rcases hT.2 with ⟨g1, _⟩ | ⟨g', cap', cur, g1, _, g2, _⟩
    · rw [g1] at e; cases e
    · rw [g1] at e
      have hg : g' = q := by simpa [Value.ownBlock] using e
      subst hg
      rw [BoxC, g2] at h
      injection h with h
      injection h with _ h
      revert h; decide
  obtain ⟨V0, hV0⟩ : ∃ V0, V0 = (((((w.setCell ⟨q, 10, none⟩ (.int .i64 0)).setCell ⟨q, 11, none⟩ (.int .i64 0)).setCell ⟨q, 12, none⟩ (.int .i64 0)).setCell ⟨q, 13, none⟩ (.slice none 0 0)).alloc (.cells #[.int .i64 (cg : Int), .int .i64 (cf : Int), .int .i64 (cp : Int), .slice ao T.length cap] 144)) := ⟨_, rfl⟩
  have HX0 : Hid (BoxC q 146 #[.int .i64 (fm : Int), .int .i64 (g : Int), .int .i64 c.alg, .int .i64 c.slots, .int .i64 c.points, .int .i64 c.probes, .string c.key, .int .i64 c.formats, vP, vE, .int .i64 0, .int .i64 0, .int .i64 0, .slice none 0 0, .bool nf] V0) := by show BoxC _ _ _ V0; rw [hV0]; exact BoxC.alloc (((((HX.out).set 10 (.int .i64 0) (cs' := #[.int .i64 (fm : Int), .int .i64 (g : Int), .int .i64 c.alg, .int .i64 c.slots, .int .i64 c.points, .int .i64 c.probes, .string c.key, .int .i64 c.formats, vP, vE, .int .i64 0, .int .i64 (cf : Int), .int .i64 (cp : Int), .slice ao T.length cap, .bool nf]) rfl).set 11 (.int .i64 0) (cs' := #[.int .i64 (fm : Int), .int .i64 (g : Int), .int .i64 c.alg, .int .i64 c.slots, .int .i64 c.points, .int .i64 c.probes, .string c.key, .int .i64 c.formats, vP, vE, .int .i64 0, .int .i64 0, .int .i64 (cp : Int), .slice ao T.length cap, .bool nf]) rfl).set 12 (.int .i64 0) (cs' := #[.int .i64 (fm : Int), .int .i64 (g : Int), .int .i64 c.alg, .int .i64 c.slots, .int .i64 c.points, .int .i64 c.probes, .string c.key, .int .i64 c.formats, vP, vE, .int .i64 0, .int .i64 0, .int .i64 0, .slice ao T.length cap, .bool nf]) rfl).set 13 (.slice none 0 0) (cs' := #[.int .i64 (fm : Int), .int .i64 (g : Int), .int .i64 c.alg, .int .i64 c.slots, .int .i64 c.points, .int .i64 c.probes, .string c.key, .int .i64 c.formats, vP, vE, .int .i64 0, .int .i64 0, .int .i64 0, .slice none 0 0, .bool nf]) rfl) _
  have hD0 : BoxC w.heap.size 144 #[.int .i64 (cg : Int), .int .i64 (cf : Int), .int .i64 (cp : Int), .slice ao T.length cap] V0 := by
    rw [hV0]
    have hz : ((((w.setCell ⟨q, 10, none⟩ (.int .i64 0)).setCell ⟨q, 11, none⟩ (.int .i64 0)).setCell ⟨q, 12, none⟩ (.int .i64 0)).setCell ⟨q, 13, none⟩ (.slice none 0 0)).heap.size = w.heap.size := by simp
    have := BoxC.new ((((w.setCell ⟨q, 10, none⟩ (.int .i64 0)).setCell ⟨q, 11, none⟩ (.int .i64 0)).setCell ⟨q, 12, none⟩ (.int .i64 0)).setCell ⟨q, 13, none⟩ (.slice none 0 0)) 144 #[.int .i64 (cg : Int), .int .i64 (cf : Int), .int .i64 (cp : Int), .slice ao T.length cap]
    rw [hz] at this
    exact this
  have hT0 : ThAt V0 (.slice ao T.length cap) T := by
    rw [hV0]
    exact World.ownsRow.alloc (ownsRow_setCell_other (ownsRow_setCell_other (ownsRow_setCell_other (ownsRow_setCell_other hT hqT _) hqT _) hqT _) hqT _) _
  have HB0 : Hid (But [q] w V0) := by
    show But _ _ _
    rw [hV0]
    exact (((((But.refl [q] w).set (by simp) _).set (by simp) _).set (by simp) _).set (by simp) _).alloc _
  have H1 := Hid.mk (timage_is w.heap.size _ T V0 (hD0.cell 3 rfl) hT0 hl hs)
  have hlen := thB_len hs
  have hlen2 : (thB T).length ≤ 4294967296 := by
    have : 65536 * T.length ≤ 65536 * 65536 := Nat.mul_le_mul (Nat.le_refl _) hl
    omega
  have hri := fun wx => readi_is (txt (thB T)) wx (by simp [txt, ByteArray.size]; omega)
  rw [txt_list] at hri
  have HD0 := Hid.mk hD0
  have hs0 : Hid (w.heap.size < V0.heap.size) := hD0.lt
  have hqd : q ≠ w.heap.size := by omega
  clear h hT hD0 hT0 hlen hqT
  obtain ⟨TB, hTB⟩ : ∃ TB, TB = thB T := ⟨_, rfl⟩
  rw [← hTB] at H1 hlen2 hri
  have HTB := Hid.mk hTB
  clear hTB
  go_enter Tryz.func177, Tryz.ntmps177
  go_wp2_with fail
  rw [← hV0]
  clear hV0 c0 c1 c2 c3 c4 c5 c6 c7 c8 c9 c10 c11 c12 c13 c14 f0 f1 f2 f3 f4 f5 f6 f7 f8 f9 f10 f11 f12 f13 f14
  refine H1.out.mono ?_
  rintro e w1 ⟨rfl, hb1⟩
  have HB1 := Hid.mk hb1
  clear hb1 H1
  go_wp2_with fail
  rcases hi : imageP TB with _ | ⟨f2, g2, c2, B2, E2⟩
  · rw [hi] at hri
    unfold RImg imgNo at hri
    refine (hri _).mono ?_
    rintro e w2 ⟨hb2, rfl⟩
    have HB2 := Hid.mk (HB1.out.trans hb2)
    have HX2 := Hid.mk (HX0.out.bel (HB2.out.step_alloc (.cells #[.int .i64 0, .int .i64 0, .int .i64 0, .int .i64 0, .int .i64 0, .int .i64 0, .string ⟨#[]⟩, .int .i64 0, .slice none 0 0, .slice none 0 0] 173)))
    have HBF := Hid.mk (HB0.out.step (HB2.out.step_alloc (.cells #[.int .i64 0, .int .i64 0, .int .i64 0, .int .i64 0, .int .i64 0, .int .i64 0, .string ⟨#[]⟩, .int .i64 0, .slice none 0 0, .slice none 0 0] 173)))
    have HI : Hid (∀ c2 B2 E2, imageP TB ≠ some (cf, cg, c2, B2, E2)) := fun _ _ _ e => by rw [hi] at e; cases e
    clear hb2 hri hi
    go_wp2
    go_end0
    exact ⟨rfl, HBF.out, Or.inr ⟨by rw [← HTB.out]; exact HI.out, HX2.out⟩⟩
  · rw [hi] at hri
    unfold RImg imgV at hri
    refine (hri _).mono ?_
    rintro e w2 ⟨hb2, vP2, vE2, rfl, hoP, hoE⟩
    obtain ⟨aP, kP, rfl⟩ := own_sliceW hoP
    obtain ⟨aE, kE, rfl⟩ := own_sliceW hoE
    have HB2 := Hid.mk (HB1.out.trans hb2)
    have X2 := HX0.out.bel HB2.out
    have D2 := HD0.out.bel HB2.out
    have d0 := D2.cell 0 rfl
    have d1 := D2.cell 1 rfl
    have hdl : w.heap.size < w2.heap.size := D2.lt
    have hql2 : q < w2.heap.size := X2.lt
    have HX2 := Hid.mk X2
    have x0 := X2.cell 0 rfl
    have y0 := X2.free 0
    have x1 := X2.cell 1 rfl
    have y1 := X2.free 1
    have x2 := X2.cell 2 rfl
    have y2 := X2.free 2
    have x3 := X2.cell 3 rfl
    have y3 := X2.free 3
    have x4 := X2.cell 4 rfl
    have y4 := X2.free 4
    have x5 := X2.cell 5 rfl
    have y5 := X2.free 5
    have x6 := X2.cell 6 rfl
    have y6 := X2.free 6
    have x7 := X2.cell 7 rfl
    have y7 := X2.free 7
    have x8 := X2.cell 8 rfl
    have y8 := X2.free 8
    have x9 := X2.cell 9 rfl
    have y9 := X2.free 9
    have x10 := X2.cell 10 rfl
    have y10 := X2.free 10
    have x11 := X2.cell 11 rfl
    have y11 := X2.free 11
    have x12 := X2.cell 12 rfl
    have y12 := X2.free 12
    have x13 := X2.cell 13 rfl
    have y13 := X2.free 13
    have x14 := X2.cell 14 rfl
    have y14 := X2.free 14
    have HBW := Hid.mk (HB0.out.step (HB2.out.step_alloc (.cells #[.int .i64 (f2 : Int), .int .i64 (g2 : Int), .int .i64 c2.alg, .int .i64 c2.slots, .int .i64 c2.points, .int .i64 c2.probes, .string c2.key, .int .i64 c2.formats, .slice aP B2.length kP, .slice aE E2.length kE] 173)))
    have HXW := Hid.mk (HX2.out.alloc (.cells #[.int .i64 (f2 : Int), .int .i64 (g2 : Int), .int .i64 c2.alg, .int .i64 c2.slots, .int .i64 c2.points, .int .i64 c2.probes, .string c2.key, .int .i64 c2.formats, .slice aP B2.length kP, .slice aE E2.length kE] 173))
    have hbs : Hid (w.heap.size ≤ w1.heap.size) := Nat.le_trans (Nat.le_of_lt hs0.out) HB1.out.size
    have HOP2 := Hid.mk (OwnB.mono hoP hbs.out)
    have HOE2 := Hid.mk (World.ownsRow.mono hoE (base' := w.heap.size) hbs.out)
    clear X2 D2 hb2 hri hoP hoE
    by_cases hg : g2 = cg
    · subst hg
      by_cases hf : f2 = cf
      · subst hf
        have HI : Hid (imageP TB = some (f2, g2, c2, B2, E2)) := hi
        clear hi
        go_wp2
        go_end0
        refine ⟨rfl, ?_, Or.inl ⟨c2, B2, E2, .slice aP B2.length kP, .slice aE E2.length kE, by rw [← HTB.out]; exact HI.out, ?_, ?_, ?_⟩⟩
        · refine But.alloc ?_ _
          iterate 9 (refine But.set ?_ (by simp) _)
          exact HB0.out.step HB2.out
        · have z0 := HX2.out
          have z1 := z0.set 1 (.int .i64 (g2 : Int)) (cs' := #[.int .i64 (fm : Int), .int .i64 (g2 : Int), .int .i64 c.alg, .int .i64 c.slots, .int .i64 c.points, .int .i64 c.probes, .string c.key, .int .i64 c.formats, vP, vE, .int .i64 0, .int .i64 0, .int .i64 0, .slice none 0 0, .bool nf]) rfl
          have z2 := z1.set 2 (.int .i64 c2.alg) (cs' := #[.int .i64 (fm : Int), .int .i64 (g2 : Int), .int .i64 c2.alg, .int .i64 c.slots, .int .i64 c.points, .int .i64 c.probes, .string c.key, .int .i64 c.formats, vP, vE, .int .i64 0, .int .i64 0, .int .i64 0, .slice none 0 0, .bool nf]) rfl
          have z3 := z2.set 3 (.int .i64 c2.slots) (cs' := #[.int .i64 (fm : Int), .int .i64 (g2 : Int), .int .i64 c2.alg, .int .i64 c2.slots, .int .i64 c.points, .int .i64 c.probes, .string c.key, .int .i64 c.formats, vP, vE, .int .i64 0, .int .i64 0, .int .i64 0, .slice none 0 0, .bool nf]) rfl
          have z4 := z3.set 4 (.int .i64 c2.points) (cs' := #[.int .i64 (fm : Int), .int .i64 (g2 : Int), .int .i64 c2.alg, .int .i64 c2.slots, .int .i64 c2.points, .int .i64 c.probes, .string c.key, .int .i64 c.formats, vP, vE, .int .i64 0, .int .i64 0, .int .i64 0, .slice none 0 0, .bool nf]) rfl
          have z5 := z4.set 5 (.int .i64 c2.probes) (cs' := #[.int .i64 (fm : Int), .int .i64 (g2 : Int), .int .i64 c2.alg, .int .i64 c2.slots, .int .i64 c2.points, .int .i64 c2.probes, .string c.key, .int .i64 c.formats, vP, vE, .int .i64 0, .int .i64 0, .int .i64 0, .slice none 0 0, .bool nf]) rfl
          have z6 := z5.set 6 (.string c2.key) (cs' := #[.int .i64 (fm : Int), .int .i64 (g2 : Int), .int .i64 c2.alg, .int .i64 c2.slots, .int .i64 c2.points, .int .i64 c2.probes, .string c2.key, .int .i64 c.formats, vP, vE, .int .i64 0, .int .i64 0, .int .i64 0, .slice none 0 0, .bool nf]) rfl
          have z7 := z6.set 7 (.int .i64 c2.formats) (cs' := #[.int .i64 (fm : Int), .int .i64 (g2 : Int), .int .i64 c2.alg, .int .i64 c2.slots, .int .i64 c2.points, .int .i64 c2.probes, .string c2.key, .int .i64 c2.formats, vP, vE, .int .i64 0, .int .i64 0, .int .i64 0, .slice none 0 0, .bool nf]) rfl
          have z8 := z7.set 8 (.slice aP B2.length kP) (cs' := #[.int .i64 (fm : Int), .int .i64 (g2 : Int), .int .i64 c2.alg, .int .i64 c2.slots, .int .i64 c2.points, .int .i64 c2.probes, .string c2.key, .int .i64 c2.formats, .slice aP B2.length kP, vE, .int .i64 0, .int .i64 0, .int .i64 0, .slice none 0 0, .bool nf]) rfl
          have z9 := z8.set 9 (.slice aE E2.length kE) (cs' := #[.int .i64 (fm : Int), .int .i64 (g2 : Int), .int .i64 c2.alg, .int .i64 c2.slots, .int .i64 c2.points, .int .i64 c2.probes, .string c2.key, .int .i64 c2.formats, .slice aP B2.length kP, .slice aE E2.length kE, .int .i64 0, .int .i64 0, .int .i64 0, .slice none 0 0, .bool nf]) rfl
          exact BoxC.alloc z9 _
        · refine World.ownsRow.alloc ?_ _
          iterate 9 (refine ownsRow_setCell_below ?_ (by simp only; omega) _)
          exact HOP2.out
        · refine World.ownsRow.alloc ?_ _
          iterate 9 (refine ownsRow_setCell_below ?_ (by simp only; omega) _)
          exact HOE2.out
      · have hfb : ((f2 : Int) == (cf : Int)) = false := by rw [beq_eq_false_iff_ne]; omega
        have HI : Hid (∀ c2 B2 E2, imageP TB ≠ some (cf, g2, c2, B2, E2)) := fun _ _ _ e => by rw [hi] at e; injection e with e; injection e with e; exact hf e
        clear hi
        go_wp2
        go_end0
        exact ⟨rfl, HBW.out, Or.inr ⟨by rw [← HTB.out]; exact HI.out, HXW.out⟩⟩
    · have hgb : ((g2 : Int) == (cg : Int)) = false := by rw [beq_eq_false_iff_ne]; omega
      have HI : Hid (∀ c2 B2 E2, imageP TB ≠ some (cf, cg, c2, B2, E2)) := fun _ _ _ e => by rw [hi] at e; injection e with e; injection e with _ e; injection e with e; exact hg e
      clear hi
      go_wp2
      go_end0
      exact ⟨rfl, HBW.out, Or.inr ⟨by rw [← HTB.out]; exact HI.out, HXW.out⟩⟩

end Go.Proofs.YtpapdkhjdelfcabGreat
