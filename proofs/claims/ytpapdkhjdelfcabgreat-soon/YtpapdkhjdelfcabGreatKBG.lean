import Derived.Test.YtpapdkhjdelfcabGreatKBF
import Derived.Deep.RegionHeld3
import Derived.Test.YtpapdkhjdelfcabGreatKAP
namespace Go.Proofs.YtpapdkhjdelfcabGreat
open Go.RowKit

theorem keepQ {w w' : World} {q fm g cg cf : Nat} (hb : Bel w w') (c1 : w.cell? ⟨q, 1, none⟩ = some (.int .i64 (g : Int))) (c0 : w.cell? ⟨q, 0, none⟩ = some (.int .i64 (fm : Int))) (c10 : w.cell? ⟨q, 10, none⟩ = some (.int .i64 (cg : Int))) (c11 : w.cell? ⟨q, 11, none⟩ = some (.int .i64 (cf : Int))) (hX : ∃ ty cs, BoxC w.heap.size ty cs w' ∧ cs.size = 5) : Bel w w' ∧ w'.cell? ⟨q, 1, none⟩ = some (.int .i64 (g : Int)) ∧ w'.cell? ⟨q, 0, none⟩ = some (.int .i64 (fm : Int)) ∧ w'.cell? ⟨q, 10, none⟩ = some (.int .i64 (cg : Int)) ∧ w'.cell? ⟨q, 11, none⟩ = some (.int .i64 (cf : Int)) ∧ w'.cell? ⟨w.heap.size, 0, none⟩ = some (cOf w' w.heap.size 0) ∧ w'.cell? ⟨w.heap.size, 1, none⟩ = some (cOf w' w.heap.size 1) ∧ w'.cell? ⟨w.heap.size, 2, none⟩ = some (cOf w' w.heap.size 2) ∧ w'.cell? ⟨w.heap.size, 3, none⟩ = some (cOf w' w.heap.size 3) ∧ w'.cell? ⟨w.heap.size, 4, none⟩ = some (cOf w' w.heap.size 4) ∧ w'.frozen? ⟨w.heap.size, 0, none⟩ = false ∧ w'.frozen? ⟨w.heap.size, 1, none⟩ = false ∧ w'.frozen? ⟨w.heap.size, 2, none⟩ = false ∧ w'.frozen? ⟨w.heap.size, 3, none⟩ = false ∧ w'.frozen? ⟨w.heap.size, 4, none⟩ = false := by
  obtain ⟨ty, cs, hX, hs⟩ := hX
  exact ⟨hb, hb.cell c1, hb.cell c0, hb.cell c10, hb.cell c11, five hX hs 0 (by omega), five hX hs 1 (by omega), five hX hs 2 (by omega), five hX hs 3 (by omega), five hX hs 4 (by omega), hX.free 0, hX.free 1, hX.free 2, hX.free 3, hX.free 4⟩
theorem keepQ5 {w W0 w9 : World} {q fm g cg cf : Nat} {u0 u1 u2 u3 u4 : Value} {ty : TypeId} (hw : Bel w W0) (hR : BoxC w.heap.size ty #[.int .i64 0, .int .i64 0, .int .i64 0, .int .i64 0, .int .i64 0] W0) (c1 : w.cell? ⟨q, 1, none⟩ = some (.int .i64 (g : Int))) (c0 : w.cell? ⟨q, 0, none⟩ = some (.int .i64 (fm : Int))) (c10 : w.cell? ⟨q, 10, none⟩ = some (.int .i64 (cg : Int))) (c11 : w.cell? ⟨q, 11, none⟩ = some (.int .i64 (cf : Int))) (hb : Bel W0 w9) : (fun w' => Bel w w' ∧ w'.cell? ⟨q, 1, none⟩ = some (.int .i64 (g : Int)) ∧ w'.cell? ⟨q, 0, none⟩ = some (.int .i64 (fm : Int)) ∧ w'.cell? ⟨q, 10, none⟩ = some (.int .i64 (cg : Int)) ∧ w'.cell? ⟨q, 11, none⟩ = some (.int .i64 (cf : Int)) ∧ w'.cell? ⟨w.heap.size, 0, none⟩ = some (cOf w' w.heap.size 0) ∧ w'.cell? ⟨w.heap.size, 1, none⟩ = some (cOf w' w.heap.size 1) ∧ w'.cell? ⟨w.heap.size, 2, none⟩ = some (cOf w' w.heap.size 2) ∧ w'.cell? ⟨w.heap.size, 3, none⟩ = some (cOf w' w.heap.size 3) ∧ w'.cell? ⟨w.heap.size, 4, none⟩ = some (cOf w' w.heap.size 4) ∧ w'.frozen? ⟨w.heap.size, 0, none⟩ = false ∧ w'.frozen? ⟨w.heap.size, 1, none⟩ = false ∧ w'.frozen? ⟨w.heap.size, 2, none⟩ = false ∧ w'.frozen? ⟨w.heap.size, 3, none⟩ = false ∧ w'.frozen? ⟨w.heap.size, 4, none⟩ = false) (((((w9.setCell ⟨w.heap.size, 0, none⟩ u0).setCell ⟨w.heap.size, 1, none⟩ u1).setCell ⟨w.heap.size, 2, none⟩ u2).setCell ⟨w.heap.size, 3, none⟩ u3).setCell ⟨w.heap.size, 4, none⟩ u4) :=
  keepQ ((hw.trans hb).sets5 (Nat.le_refl _) _ _ _ _ _) c1 c0 c10 c11 ⟨_, _, (((((hR.bel hb).set 0 u0 rfl).set 1 u1 rfl).set 2 u2 rfl).set 3 u3 rfl).set 4 u4 rfl, by simp⟩
set_option maxRecDepth 100000 in
set_option maxHeartbeats 1000000 in
theorem question_is (q fm g : Nat) (c : Cfg) (vP vE : Value) (cg cf cp : Nat) (vT : Value) (nf : Bool) (T : List TP) (w : World) (h : BoxC q 146 (plC fm g c vP vE cg cf cp vT nf) w) (hT : ThAt w vT T) (hl : T.length ≤ 65536) :
    Calls Tryz.prog 60 #[.pointer (some ⟨q, 0, none⟩)] w (RQ w (questA g fm cg cf (misF T))) := by
  unfold plC at h
  have c0 : w.cell? ⟨q, 0, none⟩ = some (.int .i64 (fm : Int)) := h.cell 0 rfl
  have c1 : w.cell? ⟨q, 1, none⟩ = some (.int .i64 (g : Int)) := h.cell 1 rfl
  have c10 : w.cell? ⟨q, 10, none⟩ = some (.int .i64 (cg : Int)) := h.cell 10 rfl
  have c11 : w.cell? ⟨q, 11, none⟩ = some (.int .i64 (cf : Int)) := h.cell 11 rfl
  have c13 : w.cell? ⟨q, 13, none⟩ = some (vT) := h.cell 13 rfl
  have hmi := fun wx (hx : Bel w wx) => missing_is q vT T wx (hx.cell c13) (hT.later hx) (by omega)
  obtain ⟨W0, hW0⟩ : ∃ W0, W0 = w.alloc (.cells #[.int .i64 0, .int .i64 0, .int .i64 0, .int .i64 0, .int .i64 0] 91) := ⟨_, rfl⟩
  have hbw : Bel w W0 := by rw [hW0]; exact (Bel.refl w).step_alloc _
  have HR0 : Hid (BoxC w.heap.size 91 #[.int .i64 0, .int .i64 0, .int .i64 0, .int .i64 0, .int .i64 0] W0) := by show BoxC _ _ _ W0; rw [hW0]; exact BoxC.new _ _ _
  have hql := h.lt
  have hqn : q ≠ w.heap.size := by omega
  generalize misF T = mf at *
  clear h hT
  go_enter Tryz.func60, Tryz.ntmps60
  go_wp2_with fail
  rw [← hW0]
  clear hW0
  go_region_held3 (fun w' => Bel w w' ∧ w'.cell? ⟨q, 1, none⟩ = some (.int .i64 (g : Int)) ∧ w'.cell? ⟨q, 0, none⟩ = some (.int .i64 (fm : Int)) ∧ w'.cell? ⟨q, 10, none⟩ = some (.int .i64 (cg : Int)) ∧ w'.cell? ⟨q, 11, none⟩ = some (.int .i64 (cf : Int)) ∧ w'.cell? ⟨w.heap.size, 0, none⟩ = some (cOf w' w.heap.size 0) ∧ w'.cell? ⟨w.heap.size, 1, none⟩ = some (cOf w' w.heap.size 1) ∧ w'.cell? ⟨w.heap.size, 2, none⟩ = some (cOf w' w.heap.size 2) ∧ w'.cell? ⟨w.heap.size, 3, none⟩ = some (cOf w' w.heap.size 3) ∧ w'.cell? ⟨w.heap.size, 4, none⟩ = some (cOf w' w.heap.size 4) ∧ w'.frozen? ⟨w.heap.size, 0, none⟩ = false ∧ w'.frozen? ⟨w.heap.size, 1, none⟩ = false ∧ w'.frozen? ⟨w.heap.size, 2, none⟩ = false ∧ w'.frozen? ⟨w.heap.size, 3, none⟩ = false ∧ w'.frozen? ⟨w.heap.size, 4, none⟩ = false) ((first | with_reducible exact keepQ5 hbw HR0.out c1 c0 c10 c11 (by (repeat (first | with_reducible assumption | with_reducible exact Bel.refl _ | with_reducible refine Bel.step_drew ?_ | with_reducible refine Bel.step_drewN ?_ _ | with_reducible refine Bel.trans ?_ (by with_reducible assumption)))) | exact keepQ (hbw.trans (by (repeat (first | with_reducible assumption | with_reducible exact Bel.refl _ | with_reducible refine Bel.step_drew ?_ | with_reducible refine Bel.step_drewN ?_ _ | with_reducible refine Bel.trans ?_ (by with_reducible assumption))))) c1 c0 c10 c11 ⟨_, _, HR0.out.bel (by (repeat (first | with_reducible assumption | with_reducible exact Bel.refl _ | with_reducible refine Bel.step_drew ?_ | with_reducible refine Bel.step_drewN ?_ _ | with_reducible refine Bel.trans ?_ (by with_reducible assumption)))), rfl⟩)) ((go_at_call 111; refine Calls.mono (hmi _ (hbw.trans (by (repeat (first | with_reducible assumption | with_reducible exact Bel.refl _ | with_reducible refine Bel.step_drew ?_ | with_reducible refine Bel.step_drewN ?_ _ | with_reducible refine Bel.trans ?_ (by with_reducible assumption)))))) ?_; rintro e w9 ⟨rfl, hb9⟩))
  have hb09 : Bel W0 w9 := by (repeat (first | with_reducible assumption | with_reducible exact Bel.refl _ | with_reducible refine Bel.step_drew ?_ | with_reducible refine Bel.step_drewN ?_ _ | with_reducible refine Bel.trans ?_ (by with_reducible assumption)))
  have R9 := HR0.out.bel hb09
  have r0 := R9.cell 0 rfl
  have r1 := R9.cell 1 rfl
  have r2 := R9.cell 2 rfl
  have r3 := R9.cell 3 rfl
  have r4 := R9.cell 4 rfl
  have HB := Hid.mk (hbw.trans hb09)
  clear R9 hb09
  go_wp2
  exact bodyPost_ret (v := questA g fm cg cf mf) (by simp [questA, results, Tryz.results60, go_sem, r0, r1, r2, r3, r4]) rfl ⟨rfl, HB.out.sets5 (Nat.le_refl _) _ _ _ _ _⟩

end Go.Proofs.YtpapdkhjdelfcabGreat

namespace Go.Proofs.YtpapdkhjdelfcabGreat
open Go.RowKit
variable {vL : Value}

theorem mkF_nil (c : Cfg) : mkF c [] = [] := by rw [mkF, if_pos]; simp [wSum]
def RNew (c : Cfg) (w : World) (e : Ending) (w' : World) : Prop := ∃ q, e = .returned (.tuple #[.pointer (some ⟨q, 0, none⟩), .int .i64 0]) ∧ Bel w w' ∧ w.heap.size ≤ q ∧ q < w'.heap.size ∧ ∀ M : List Nat, q ∈ M → SvcAt (.slice none 0 0) M q c [] 0 w'

set_option maxRecDepth 100000 in
set_option maxHeartbeats 400000 in
theorem new_is (c : Cfg) (w : World) (hc : c.OK) :
    Calls Tryz.prog 23 #[.agg c.cells] w (RNew c w) := by
  have hcf := fun wx => config_any c wx
  unfold RNew
  have hmk := mkF_nil c
  have HC := Hid.mk hc
  unfold SvcAt FrzL
  rw [hmk]
  unfold TabAt
  obtain ⟨alg, slots, points, probes, key, formats⟩ := c
  simp only [Cfg.cells] at *
  clear hc hmk
  go_enter Tryz.func23, Tryz.ntmps23
  go_wp2_with fail
  refine (hcf _).mono ?_
  rintro e w1 ⟨x, rfl, hb1, hx⟩
  have hxt : x = true := hx.2 HC.out
  subst hxt
  have hb0 : Bel w w1 := (Bel.step_alloc (Bel.refl w) _).trans hb1
  have k0 : w1.cell? ⟨w.heap.size, 0, none⟩ = some (.int .i64 alg) := hb1.cell (by simp)
  have k1 : w1.cell? ⟨w.heap.size, 1, none⟩ = some (.int .i64 slots) := hb1.cell (by simp)
  have k2 : w1.cell? ⟨w.heap.size, 2, none⟩ = some (.int .i64 points) := hb1.cell (by simp)
  have k3 : w1.cell? ⟨w.heap.size, 3, none⟩ = some (.int .i64 probes) := hb1.cell (by simp)
  have k4 : w1.cell? ⟨w.heap.size, 4, none⟩ = some (.string key) := hb1.cell (by simp)
  have k5 : w1.cell? ⟨w.heap.size, 5, none⟩ = some (.int .i64 formats) := hb1.cell (by simp)
  clear hx hb1 hcf
  go_wp2
  go_ret2
  refine ⟨w1.heap.size, rfl, hb0.step_alloc _, hb0.size, by simp, fun M hM => ⟨hM, .slice none 0 0, .slice none 0 0, ⟨⟨by simp, by simp, by simp, by simp, by simp, by simp⟩, by simp, by simp⟩, by simp, ⟨⟨by simp, by simp, by simp, by simp, by simp, by simp, by simp, by simp, by simp⟩, by simp, by simp⟩, Or.inl ⟨rfl, rfl, rfl⟩, Or.inl ⟨rfl, rfl, rfl⟩⟩⟩

end Go.Proofs.YtpapdkhjdelfcabGreat

namespace Go.Proofs.YtpapdkhjdelfcabGreat
open Go.RowKit

set_option maxRecDepth 100000 in
set_option maxHeartbeats 400000 in
theorem spatch_is (t1 t2 : ByteArray) (w : World) (h1 : t1.size ≤ 1099511627776) (h2 : t2.size ≤ 1099511627776) :
    Calls Tryz.prog 91 #[.string t1, .string t2] w (RTxE w (patchF t1.data.toList t2.data.toList)) := by
  have H := Hid.mk (patch_is t1 t2 w h1 h2)
  generalize patchF t1.data.toList t2.data.toList = x at *
  go_enter Tryz.func91, Tryz.ntmps91
  go_wp2_with fail
  refine H.out.mono ?_
  rintro e w1 ⟨rfl, hb1⟩
  have HB1 := Hid.mk hb1
  clear hb1 H
  go_wp2
  go_ret2
  exact ⟨rfl, HB1.out⟩
set_option maxRecDepth 100000 in
set_option maxHeartbeats 400000 in
theorem sapply_is (t1 t2 : ByteArray) (w : World) (h1 : t1.size ≤ 1099511627776) (h2 : t2.size ≤ 1099511627776) :
    Calls Tryz.prog 93 #[.string t1, .string t2] w (RTxE w (applyF t1.data.toList t2.data.toList)) := by
  have H := Hid.mk (apply_is t1 t2 w h1 h2)
  generalize applyF t1.data.toList t2.data.toList = x at *
  go_enter Tryz.func93, Tryz.ntmps93
  go_wp2_with fail
  refine H.out.mono ?_
  rintro e w1 ⟨rfl, hb1⟩
  have HB1 := Hid.mk hb1
  clear hb1 H
  go_wp2
  go_ret2
  exact ⟨rfl, HB1.out⟩
/-- an image read: the same table in both formats, its generation -/
noncomputable def decF (l : List UInt8) : List UInt8 × List UInt8 × Nat × Int := match imageP l with
  | some (_, g, c, B, E) => (imageB 1 g c B E, imageB 2 g c B E, g, 0)
  | none => ([], [], 0, 9)
def RDec (w : World) (x : List UInt8 × List UInt8 × Nat × Int) (e : Ending) (w' : World) : Prop := e = .returned (.tuple #[.string (txt x.1), .string (txt x.2.1), .int .i64 (x.2.2.1 : Int), .int .i64 x.2.2.2]) ∧ Bel w w'
set_option maxRecDepth 100000 in
set_option maxHeartbeats 1000000 in
theorem decode_is (t : ByteArray) (w : World) (h1 : t.size ≤ 1099511627776) :
    Calls Tryz.prog 89 #[.string t] w (RDec w (decF t.data.toList)) := by
  have hr1 := fun wx => readi_is t wx h1
  rcases hi1 : imageP t.data.toList with _ | ⟨f, g, c, B, E⟩
  · rw [hi1] at hr1
    unfold RImg imgNo at hr1
    have HF : Hid (decF t.data.toList = ([], [], 0, 9)) := by show _ = _; unfold decF; rw [hi1]
    rw [HF.out]
    go_enter Tryz.func89, Tryz.ntmps89
    go_wp2_with fail
    refine (hr1 _).mono ?_
    rintro e w1 ⟨hb1, rfl⟩
    go_wp2
    exact bodyPost_ret (v := .tuple #[.string (txt []), .string (txt []), .int .i64 0, .int .i64 9]) (by simp [results, Tryz.results89, go_sem, txt_nil]) rfl ⟨rfl, hb1.step_alloc _⟩
  · rw [hi1] at hr1
    unfold RImg imgV at hr1
    have ok1 := imageP_ok hi1
    have hl1 := ok1.len
    have hg1 := ok1.right.1.2
    have HF : Hid (decF t.data.toList = (imageB 1 g c B E, imageB 2 g c B E, g, 0)) := by show _ = _; unfold decF; rw [hi1]
    have hw1 := fun vP vE wx hP hE => writei_is 1 g c B E vP vE wx (by omega) (by omega) ok1.tok hP ok1.good.1 hE (fun e he => (ok1.ents e he).1) (by omega)
    have hw2 := fun vP vE wx hP hE => writei_is 2 g c B E vP vE wx (by omega) (by omega) ok1.tok hP ok1.good.1 hE (fun e he => (ok1.ents e he).1) (by omega)
    unfold tabV at hw1 hw2
    rw [HF.out]
    generalize imageB 1 g c B E = I1 at *
    generalize imageB 2 g c B E = I2 at *
    clear ok1 HF hi1
    go_enter Tryz.func89, Tryz.ntmps89
    go_wp2_with fail
    refine (hr1 _).mono ?_
    rintro e w1 ⟨hb1, vP1, vE1, rfl, hoP1, hoE1⟩
    obtain ⟨aP, kP, rfl⟩ := own_sliceW hoP1
    obtain ⟨aE, kE, rfl⟩ := own_sliceW hoE1
    have HP := Hid.mk (OwnB.pool hoP1)
    have HE := Hid.mk (OwnE.ents hoE1)
    have HB1 := Hid.mk hb1
    obtain ⟨W1, hW1⟩ : ∃ W1, W1 = w1.alloc (.cells #[.int .i64 (f : Int), .int .i64 (g : Int), .int .i64 c.alg, .int .i64 c.slots, .int .i64 c.points, .int .i64 c.probes, .string c.key, .int .i64 c.formats, .slice aP B.length kP, .slice aE E.length kE] 173) := ⟨_, rfl⟩
    have hbw : Bel w1 W1 := by rw [hW1]; exact (Bel.refl w1).step_alloc _
    have HX : Hid (BoxC w1.heap.size 173 #[.int .i64 (f : Int), .int .i64 (g : Int), .int .i64 c.alg, .int .i64 c.slots, .int .i64 c.points, .int .i64 c.probes, .string c.key, .int .i64 c.formats, .slice aP B.length kP, .slice aE E.length kE] W1) := by show BoxC _ _ _ W1; rw [hW1]; exact BoxC.new _ _ _
    have H1 := Hid.mk (hw1 _ _ W1 (HP.out.later hbw) (EOff.of (HE.out.later hbw)))
    have HBW := Hid.mk hbw
    clear hoP1 hoE1 hb1 hr1 hw1 hbw
    go_wp2_with fail
    rw [← hW1]
    clear hW1
    refine H1.out.mono ?_
    rintro e w2 ⟨rfl, hb2⟩
    have X2 := HX.out.bel hb2
    have HB2 := Hid.mk (HBW.out.trans hb2)
    have x1 := X2.cell 1 rfl
    have x2 := X2.cell 2 rfl
    have x3 := X2.cell 3 rfl
    have x4 := X2.cell 4 rfl
    have x5 := X2.cell 5 rfl
    have x6 := X2.cell 6 rfl
    have x7 := X2.cell 7 rfl
    have x8 := X2.cell 8 rfl
    have x9 := X2.cell 9 rfl
    have H2 := Hid.mk (hw2 _ _ w2 (HP.out.later HB2.out) (EOff.of (HE.out.later HB2.out)))
    have HX2 := Hid.mk X2
    clear X2 hb2 H1 hw2
    go_wp2_with fail
    refine H2.out.mono ?_
    rintro e w3 ⟨rfl, hb3⟩
    have X3 := HX2.out.bel hb3
    have y1 := X3.cell 1 rfl
    have HB3 := Hid.mk (HB1.out.trans (HB2.out.trans hb3))
    clear X3 hb3 H2 x1 x2 x3 x4 x5 x6 x7 x8 x9
    go_wp2_with fail
    go_quiet (fail)
    go_wp2
    exact bodyPost_ret (v := .tuple #[.string (txt I1), .string (txt I2), .int .i64 (g : Int), .int .i64 0]) (by simp [results, Tryz.results89, go_sem]) rfl ⟨rfl, HB3.out.step_drewN _⟩
/-- which format -/
def fmtF (cg cf cm g : Nat) : Nat := if cm ≠ 3 then cm else if cg = g ∧ cf = 1 then 1 else 2
set_option maxRecDepth 100000 in
set_option maxHeartbeats 400000 in
theorem formatfor_is (h fo cg cf mi cm g : Nat) (w : World) :
    Calls Tryz.prog 121 #[questA h fo cg cf mi, .int .i64 (cm : Int), .int .i64 (g : Int)] w (RNat w (fmtF cg cf cm g)) := by
  unfold questA
  have HF : Hid (fmtF cg cf cm g = if cm ≠ 3 then cm else if cg = g ∧ cf = 1 then 1 else 2) := rfl
  by_cases h3 : cm = 3
  · subst h3
    rw [if_neg (by simp)] at HF
    by_cases hg : cg = g
    · subst hg
      by_cases hf : cf = 1
      · subst hf
        rw [if_pos (by simp)] at HF
        go_enter Tryz.func121, Tryz.ntmps121
        go_wp2
        go_ret
        exact ⟨ret_int (by rw [HF.out]; rfl), by (repeat (first | exact Bel.refl _ | assumption | refine Bel.step_alloc ?_ _ | refine Bel.step_drew ?_ | refine Bel.step_drewN ?_ _ | refine Bel.step_set ?_ (by simp <;> omega) _ | refine Bel.trans ?_ (by assumption)))⟩
      · have hfb : ((cf : Int) == 1) = false := by rw [beq_eq_false_iff_ne]; omega
        rw [if_neg (fun h => hf h.2)] at HF
        go_enter Tryz.func121, Tryz.ntmps121
        go_wp2
        go_ret
        exact ⟨ret_int (by rw [HF.out]; rfl), by (repeat (first | exact Bel.refl _ | assumption | refine Bel.step_alloc ?_ _ | refine Bel.step_drew ?_ | refine Bel.step_drewN ?_ _ | refine Bel.step_set ?_ (by simp <;> omega) _ | refine Bel.trans ?_ (by assumption)))⟩
    · have hgb : ((cg : Int) == (g : Int)) = false := by rw [beq_eq_false_iff_ne]; omega
      rw [if_neg (fun h => hg h.1)] at HF
      go_enter Tryz.func121, Tryz.ntmps121
      go_wp2
      go_ret
      exact ⟨ret_int (by rw [HF.out]; rfl), by (repeat (first | exact Bel.refl _ | assumption | refine Bel.step_alloc ?_ _ | refine Bel.step_drew ?_ | refine Bel.step_drewN ?_ _ | refine Bel.step_set ?_ (by simp <;> omega) _ | refine Bel.trans ?_ (by assumption)))⟩
  · have h3b : ((cm : Int) != 3) = true := by rw [bne_iff_ne]; omega
    rw [if_pos h3] at HF
    go_enter Tryz.func121, Tryz.ntmps121
    go_wp2
    go_ret
    exact ⟨ret_int (by rw [HF.out]), by (repeat (first | exact Bel.refl _ | assumption | refine Bel.step_alloc ?_ _ | refine Bel.step_drew ?_ | refine Bel.step_drewN ?_ _ | refine Bel.step_set ?_ (by simp <;> omega) _ | refine Bel.trans ?_ (by assumption)))⟩

end Go.Proofs.YtpapdkhjdelfcabGreat

namespace Go.Proofs.YtpapdkhjdelfcabGreat
open Go.RowKit

/-- a service's image -/
def simgF (f : Int) (g : Nat) (c : Cfg) (B : List BK) (E : List EI) : List UInt8 × Int := if 1 ≤ f ∧ f ≤ 2 then if g = 0 then ([], 7) else (imageB f.toNat g c B E, 0) else ([], 11)
set_option maxRecDepth 100000 in
set_option maxHeartbeats 1000000 in
theorem simage_is (q : Nat) (f : Int) (g : Nat) (c : Cfg) (vP vE : Value) (B : List BK) (E : List EI) (w : World) (hT : TabAt w q c vP vE) (t8 : w.cell? ⟨q, 8, none⟩ = some (.int .i64 (g : Int))) (hP : PoolAt w vP B) (hE : EIAt w vE E) (hB : PoolOK B) (hc : c.TOK) (hok : ∀ e ∈ E, EntOK e) (hlen : E.length ≤ 65536) (hg : g ≤ 4611686018427387904) :
    Calls Tryz.prog 99 #[.pointer (some ⟨q, 0, none⟩), .int .i64 f] w (RTxE w (simgF f g c B E)) := by
  have hfm := fun wx => format_is f wx
  have HF : Hid (simgF f g c B E = if 1 ≤ f ∧ f ≤ 2 then if g = 0 then ([], 7) else (imageB f.toNat g c B E, 0) else ([], 11)) := rfl
  obtain ⟨⟨t0, t1, t2, t3, t4, t5⟩, t6, t7⟩ := hT
  by_cases hf : 1 ≤ f ∧ f ≤ 2
  rotate_left
  · rw [if_neg hf] at HF
    go_enter Tryz.func99, Tryz.ntmps99
    go_wp2_with fail
    refine (hfm _).mono ?_
    rintro e w1 ⟨x, rfl, rfl, hx⟩
    have hxf : x = false := by
      cases x
      · rfl
      · exact absurd (hx.1 rfl) hf
    subst hxf
    clear hx hfm hP hE hok hf
    go_wp2
    go_ret2
    rw [HF.out]
    exact ⟨rfl, by (repeat (first | exact Bel.refl _ | assumption | refine Bel.step_alloc ?_ _ | refine Bel.step_drew ?_ | refine Bel.step_drewN ?_ _ | refine Bel.step_set ?_ (by simp <;> omega) _ | refine Bel.trans ?_ (by assumption)))⟩
  rw [if_pos hf] at HF
  obtain ⟨n, rfl⟩ : ∃ n : Nat, f = (n : Int) := ⟨f.toNat, by omega⟩
  by_cases h0 : g = 0
  · subst h0
    rw [if_pos rfl] at HF
    replace t8 : w.cell? ⟨q, 8, none⟩ = some (.int .i64 0) := t8
    go_enter Tryz.func99, Tryz.ntmps99
    go_wp2_with fail
    refine (hfm _).mono ?_
    rintro e w1 ⟨x, rfl, rfl, hx⟩
    have hxf : x = true := hx.2 hf
    subst hxf
    clear hx hfm hP hE hok hf
    go_wp2
    go_ret2
    rw [HF.out]
    exact ⟨rfl, by (repeat (first | exact Bel.refl _ | assumption | refine Bel.step_alloc ?_ _ | refine Bel.step_drew ?_ | refine Bel.step_drewN ?_ _ | refine Bel.step_set ?_ (by simp <;> omega) _ | refine Bel.trans ?_ (by assumption)))⟩
  · rw [if_neg h0] at HF
    have hg0 : ((g : Int) == 0) = false := by rw [beq_eq_false_iff_ne]; omega
    have hwi := fun wx h1 h2 => writei_is n g c B E vP vE wx (by omega) hg hc h1 hB h2 hok hlen
    unfold tabV at hwi
    rw [Int.toNat_natCast] at HF
    generalize imageB n g c B E = IB at *
    have HP := Hid.mk hP
    have HE := Hid.mk hE
    clear hP hE hok hB hc
    go_enter Tryz.func99, Tryz.ntmps99
    go_wp2_with fail
    refine (hfm _).mono ?_
    rintro e w1 ⟨x, rfl, rfl, hx⟩
    have hxf : x = true := hx.2 hf
    subst hxf
    clear hx hfm hf
    go_wp2_with fail
    go_region_held3 (fun w' => Bel w w' ∧ w'.cell? ⟨q, 8, none⟩ = some (.int .i64 (g : Int)) ∧ w'.cell? ⟨q, 0, none⟩ = some (.int .i64 c.alg) ∧ w'.cell? ⟨q, 1, none⟩ = some (.int .i64 c.slots) ∧ w'.cell? ⟨q, 2, none⟩ = some (.int .i64 c.points) ∧ w'.cell? ⟨q, 3, none⟩ = some (.int .i64 c.probes) ∧ w'.cell? ⟨q, 4, none⟩ = some (.string c.key) ∧ w'.cell? ⟨q, 5, none⟩ = some (.int .i64 c.formats) ∧ w'.cell? ⟨q, 6, none⟩ = some (vP) ∧ w'.cell? ⟨q, 7, none⟩ = some (vE)) ((exact ⟨by (repeat (first | exact Bel.refl _ | assumption | refine Bel.step_alloc ?_ _ | refine Bel.step_drew ?_ | refine Bel.step_drewN ?_ _ | refine Bel.step_set ?_ (by simp <;> omega) _ | refine Bel.trans ?_ (by assumption))), Bel.cell (by (repeat (first | exact Bel.refl _ | assumption | refine Bel.step_alloc ?_ _ | refine Bel.step_drew ?_ | refine Bel.step_drewN ?_ _ | refine Bel.step_set ?_ (by simp <;> omega) _ | refine Bel.trans ?_ (by assumption)))) t8, Bel.cell (by (repeat (first | exact Bel.refl _ | assumption | refine Bel.step_alloc ?_ _ | refine Bel.step_drew ?_ | refine Bel.step_drewN ?_ _ | refine Bel.step_set ?_ (by simp <;> omega) _ | refine Bel.trans ?_ (by assumption)))) t0, Bel.cell (by (repeat (first | exact Bel.refl _ | assumption | refine Bel.step_alloc ?_ _ | refine Bel.step_drew ?_ | refine Bel.step_drewN ?_ _ | refine Bel.step_set ?_ (by simp <;> omega) _ | refine Bel.trans ?_ (by assumption)))) t1, Bel.cell (by (repeat (first | exact Bel.refl _ | assumption | refine Bel.step_alloc ?_ _ | refine Bel.step_drew ?_ | refine Bel.step_drewN ?_ _ | refine Bel.step_set ?_ (by simp <;> omega) _ | refine Bel.trans ?_ (by assumption)))) t2, Bel.cell (by (repeat (first | exact Bel.refl _ | assumption | refine Bel.step_alloc ?_ _ | refine Bel.step_drew ?_ | refine Bel.step_drewN ?_ _ | refine Bel.step_set ?_ (by simp <;> omega) _ | refine Bel.trans ?_ (by assumption)))) t3, Bel.cell (by (repeat (first | exact Bel.refl _ | assumption | refine Bel.step_alloc ?_ _ | refine Bel.step_drew ?_ | refine Bel.step_drewN ?_ _ | refine Bel.step_set ?_ (by simp <;> omega) _ | refine Bel.trans ?_ (by assumption)))) t4, Bel.cell (by (repeat (first | exact Bel.refl _ | assumption | refine Bel.step_alloc ?_ _ | refine Bel.step_drew ?_ | refine Bel.step_drewN ?_ _ | refine Bel.step_set ?_ (by simp <;> omega) _ | refine Bel.trans ?_ (by assumption)))) t5, Bel.cell (by (repeat (first | exact Bel.refl _ | assumption | refine Bel.step_alloc ?_ _ | refine Bel.step_drew ?_ | refine Bel.step_drewN ?_ _ | refine Bel.step_set ?_ (by simp <;> omega) _ | refine Bel.trans ?_ (by assumption)))) t6, Bel.cell (by (repeat (first | exact Bel.refl _ | assumption | refine Bel.step_alloc ?_ _ | refine Bel.step_drew ?_ | refine Bel.step_drewN ?_ _ | refine Bel.step_set ?_ (by simp <;> omega) _ | refine Bel.trans ?_ (by assumption)))) t7⟩)) ((go_at_call 122; refine Calls.mono (hwi _ (HP.out.later (by (repeat (first | exact Bel.refl _ | assumption | refine Bel.step_alloc ?_ _ | refine Bel.step_drew ?_ | refine Bel.step_drewN ?_ _ | refine Bel.step_set ?_ (by simp <;> omega) _ | refine Bel.trans ?_ (by assumption))))) (EOff.of (HE.out.later (by (repeat (first | exact Bel.refl _ | assumption | refine Bel.step_alloc ?_ _ | refine Bel.step_drew ?_ | refine Bel.step_drewN ?_ _ | refine Bel.step_set ?_ (by simp <;> omega) _ | refine Bel.trans ?_ (by assumption))))))) ?_; rintro e w3 ⟨rfl, hb3⟩))
    all_goals
      have HB : Hid (Bel w w3) := by show Bel w w3; (repeat (first | exact Bel.refl _ | assumption | refine Bel.step_alloc ?_ _ | refine Bel.step_drew ?_ | refine Bel.step_drewN ?_ _ | refine Bel.step_set ?_ (by simp <;> omega) _ | refine Bel.trans ?_ (by assumption)))
      go_wp2
      go_ret2
      rw [HF.out]
      exact ⟨rfl, HB.out⟩

/-- the row of dataplanes -/
def plcells (ps : List Nat) : List Value := ps.map fun p => .pointer (some ⟨p, 0, none⟩)
def PlRow (w : World) (v : Value) (ps : List Nat) : Prop := w.ownsRow 0 88 1 v ps.length (plcells ps)
theorem PlRow.open {w : World} {v : Value} {ps : List Nat} (h : PlRow w v ps) : ∃ ao cap, v = .slice ao ps.length cap ∧ ∀ j (hj : j < ps.length), ∃ g, ao = some ⟨g, 0, none⟩ ∧ w.cell? ⟨g, j, none⟩ = some (.pointer (some ⟨ps[j], 0, none⟩)) := by
  rcases h.2 with ⟨h1, h2⟩ | ⟨g, cap, cur, h1, _⟩
  · exact ⟨none, 0, by rw [h1, h2], fun j hj => by omega⟩
  · refine ⟨_, _, h1, fun j hj => ⟨g, rfl, ?_⟩⟩
    have := h.cells (g := g) (by rw [h1]; rfl) j (.pointer (some ⟨ps[j], 0, none⟩)) (by simp [plcells, hj])
    have hadd : (⟨g, 0, none⟩ : Addr).add j = ⟨g, j, none⟩ := by unfold Addr.add; split <;> simp_all
    rwa [hadd] at this
theorem PlRow.later {w w' : World} {v : Value} {ps : List Nat} (h : PlRow w v ps) (k : Bel w w') : PlRow w' v ps := own_laterW h k
def planeV (ps : List Nat) (d : Int) : Value := .pointer (if 0 ≤ d then (ps[d.toNat]?).map (fun p => ⟨p, 0, none⟩) else none)
set_option maxRecDepth 100000 in
set_option maxHeartbeats 400000 in
theorem dataplane_is (q : Nat) (d : Int) (vL : Value) (ps : List Nat) (w : World) (c9 : w.cell? ⟨q, 9, none⟩ = some vL) (hL : PlRow w vL ps) :
    Calls Tryz.prog 59 #[.pointer (some ⟨q, 0, none⟩), .int .i64 d] w (RQ w (planeV ps d)) := by
  obtain ⟨ao, cap, rfl, hc⟩ := hL.open
  have HV : Hid (planeV ps d = .pointer (if 0 ≤ d then (ps[d.toNat]?).map (fun p => ⟨p, 0, none⟩) else none)) := rfl
  clear hL
  by_cases hd : 0 ≤ d
  · rw [if_pos hd] at HV
    obtain ⟨n, rfl⟩ : ∃ n : Nat, d = (n : Int) := ⟨d.toNat, by omega⟩
    rw [Int.toNat_natCast] at HV
    clear hd
    by_cases hn : n < ps.length
    · rw [List.getElem?_eq_getElem hn] at HV
      obtain ⟨g, rfl, e0⟩ := hc n hn
      clear hc
      generalize ps[n] = pn at *
      go_enter Tryz.func59, Tryz.ntmps59
      go_wp2
      go_ret
      exact ⟨by rw [HV.out]; rfl, by (repeat (first | exact Bel.refl _ | assumption | refine Bel.step_alloc ?_ _ | refine Bel.step_drew ?_ | refine Bel.step_drewN ?_ _ | refine Bel.step_set ?_ (by simp <;> omega) _ | refine Bel.trans ?_ (by assumption)))⟩
    · rw [List.getElem?_eq_none (by omega)] at HV
      clear hc
      go_enter Tryz.func59, Tryz.ntmps59
      go_wp2
      go_ret
      exact ⟨by rw [HV.out]; rfl, by (repeat (first | exact Bel.refl _ | assumption | refine Bel.step_alloc ?_ _ | refine Bel.step_drew ?_ | refine Bel.step_drewN ?_ _ | refine Bel.step_set ?_ (by simp <;> omega) _ | refine Bel.trans ?_ (by assumption)))⟩
  · rw [if_neg hd] at HV
    have hd2 : d < 0 := by omega
    clear hc hd
    go_enter Tryz.func59, Tryz.ntmps59
    go_wp2
    go_ret
    exact ⟨by rw [HV.out]; rfl, by (repeat (first | exact Bel.refl _ | assumption | refine Bel.step_alloc ?_ _ | refine Bel.step_drew ?_ | refine Bel.step_drewN ?_ _ | refine Bel.step_set ?_ (by simp <;> omega) _ | refine Bel.trans ?_ (by assumption)))⟩

end Go.Proofs.YtpapdkhjdelfcabGreat
