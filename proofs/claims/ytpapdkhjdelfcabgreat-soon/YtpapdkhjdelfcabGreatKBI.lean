import Derived.Test.YtpapdkhjdelfcabGreatKBH
import Derived.Test.YtpapdkhjdelfcabGreatKAI
namespace Go.Proofs.YtpapdkhjdelfcabGreat
open Go.RowKit

/-- what comes back to a question -/
def answF (fm g : Nat) (c : Cfg) (B : List BK) (E : List EI) (h fo cg cf mi : Nat) : Ans :=
  if (fo &&& fm) = 0 then (2, 0, 0, 0, 0, []) else if g = 0 ∨ h = g then (0, 0, 0, 0, 0, []) else
  (1, g, fmtF cg cf (fo &&& fm) g, countP (imageB (fmtF cg cf (fo &&& fm) g) g c B E).length, if cg = g ∧ mi < countP (imageB (fmtF cg cf (fo &&& fm) g) g c B E).length then mi else 0,
    cutP (imageB (fmtF cg cf (fo &&& fm) g) g c B E) ((if cg = g ∧ mi < countP (imageB (fmtF cg cf (fo &&& fm) g) g c B E).length then mi else 0 : Nat) : Int))
def RAnsV (w : World) (a : Ans) (e : Ending) (w' : World) : Prop := e = .returned (ansA a) ∧ Bel w w'
theorem six {w : World} {r : Nat} {ty : TypeId} {cs : Array Value} (h : BoxC r ty cs w) (hs : cs.size = 6) (j : Nat) (hj : j < 6) : w.cell? ⟨r, j, none⟩ = some (cOf w r j) := by
  have : cs[j]? = some cs[j] := Array.getElem?_eq_getElem (by omega)
  exact cOf_is (h.cell j this)
theorem keepA {w w' : World} {s g : Nat} (hb : Bel w w') (t8 : w.cell? ⟨s, 8, none⟩ = some (.int .i64 (g : Int))) (hX : ∃ ty cs, BoxC (w.heap.size + 1) ty cs w' ∧ cs.size = 6) : Bel w w' ∧ w'.cell? ⟨s, 8, none⟩ = some (.int .i64 (g : Int)) ∧ w'.cell? ⟨w.heap.size + 1, 0, none⟩ = some (cOf w' (w.heap.size + 1) 0) ∧ w'.cell? ⟨w.heap.size + 1, 1, none⟩ = some (cOf w' (w.heap.size + 1) 1) ∧ w'.cell? ⟨w.heap.size + 1, 2, none⟩ = some (cOf w' (w.heap.size + 1) 2) ∧ w'.cell? ⟨w.heap.size + 1, 3, none⟩ = some (cOf w' (w.heap.size + 1) 3) ∧ w'.cell? ⟨w.heap.size + 1, 4, none⟩ = some (cOf w' (w.heap.size + 1) 4) ∧ w'.cell? ⟨w.heap.size + 1, 5, none⟩ = some (cOf w' (w.heap.size + 1) 5) ∧ w'.frozen? ⟨w.heap.size + 1, 0, none⟩ = false ∧ w'.frozen? ⟨w.heap.size + 1, 1, none⟩ = false ∧ w'.frozen? ⟨w.heap.size + 1, 2, none⟩ = false ∧ w'.frozen? ⟨w.heap.size + 1, 3, none⟩ = false ∧ w'.frozen? ⟨w.heap.size + 1, 4, none⟩ = false ∧ w'.frozen? ⟨w.heap.size + 1, 5, none⟩ = false := by
  obtain ⟨ty, cs, hX, hs⟩ := hX
  exact ⟨hb, hb.cell t8, six hX hs 0 (by omega), six hX hs 1 (by omega), six hX hs 2 (by omega), six hX hs 3 (by omega), six hX hs 4 (by omega), six hX hs 5 (by omega), hX.free 0, hX.free 1, hX.free 2, hX.free 3, hX.free 4, hX.free 5⟩
theorem keepA6 {w W0 w9 : World} {s g : Nat} {u0 u1 u2 u3 u4 u5 : Value} {ty : TypeId} (hw : Bel w W0) (hR : BoxC (w.heap.size + 1) ty #[.int .i64 0, .int .i64 0, .int .i64 0, .int .i64 0, .int .i64 0, .string ⟨#[]⟩] W0) (t8 : w.cell? ⟨s, 8, none⟩ = some (.int .i64 (g : Int))) (hb : Bel W0 w9) : (fun w' => Bel w w' ∧ w'.cell? ⟨s, 8, none⟩ = some (.int .i64 (g : Int)) ∧ w'.cell? ⟨w.heap.size + 1, 0, none⟩ = some (cOf w' (w.heap.size + 1) 0) ∧ w'.cell? ⟨w.heap.size + 1, 1, none⟩ = some (cOf w' (w.heap.size + 1) 1) ∧ w'.cell? ⟨w.heap.size + 1, 2, none⟩ = some (cOf w' (w.heap.size + 1) 2) ∧ w'.cell? ⟨w.heap.size + 1, 3, none⟩ = some (cOf w' (w.heap.size + 1) 3) ∧ w'.cell? ⟨w.heap.size + 1, 4, none⟩ = some (cOf w' (w.heap.size + 1) 4) ∧ w'.cell? ⟨w.heap.size + 1, 5, none⟩ = some (cOf w' (w.heap.size + 1) 5) ∧ w'.frozen? ⟨w.heap.size + 1, 0, none⟩ = false ∧ w'.frozen? ⟨w.heap.size + 1, 1, none⟩ = false ∧ w'.frozen? ⟨w.heap.size + 1, 2, none⟩ = false ∧ w'.frozen? ⟨w.heap.size + 1, 3, none⟩ = false ∧ w'.frozen? ⟨w.heap.size + 1, 4, none⟩ = false ∧ w'.frozen? ⟨w.heap.size + 1, 5, none⟩ = false) ((((((w9.setCell ⟨w.heap.size + 1, 0, none⟩ u0).setCell ⟨w.heap.size + 1, 1, none⟩ u1).setCell ⟨w.heap.size + 1, 2, none⟩ u2).setCell ⟨w.heap.size + 1, 3, none⟩ u3).setCell ⟨w.heap.size + 1, 4, none⟩ u4).setCell ⟨w.heap.size + 1, 5, none⟩ u5) :=
  keepA ((hw.trans hb).sets6 (by omega) _ _ _ _ _ _) t8 ⟨_, _, ((((((hR.bel hb).set 0 u0 rfl).set 1 u1 rfl).set 2 u2 rfl).set 3 u3 rfl).set 4 u4 rfl).set 5 u5 rfl, by simp⟩
set_option maxRecDepth 100000 in
set_option maxHeartbeats 2000000 in
theorem answer_is (s fm g : Nat) (c : Cfg) (vP vE : Value) (B : List BK) (E : List EI) (h fo cg cf mi : Nat) (w : World) (hT : TabAt w s c vP vE) (hcf : c.formats = (fm : Int)) (t8 : w.cell? ⟨s, 8, none⟩ = some (.int .i64 (g : Int))) (hP : PoolAt w vP B) (hE : EIAt w vE E) (hB : PoolOK B) (hc : c.TOK) (hok : ∀ e ∈ E, EntOK e) (hlen : E.length ≤ 65536) (hg : g ≤ 4611686018427387904) (hfo : fo < 256) (hfm : fm < 256) :
    Calls Tryz.prog 63 #[.pointer (some ⟨s, 0, none⟩), questA h fo cg cf mi] w (RAnsV w (answF fm g c B E h fo cg cf mi)) := by
  obtain ⟨⟨x0, x1, x2, x3, x4, x5⟩, x6, x7⟩ := hT
  rw [hcf] at x5
  have hand := and64 fo fm hfo hfm
  have HF : Hid (answF fm g c B E h fo cg cf mi = if (fo &&& fm) = 0 then (2, 0, 0, 0, 0, []) else if g = 0 ∨ h = g then (0, 0, 0, 0, 0, []) else
    (1, g, fmtF cg cf (fo &&& fm) g, countP (imageB (fmtF cg cf (fo &&& fm) g) g c B E).length, if cg = g ∧ mi < countP (imageB (fmtF cg cf (fo &&& fm) g) g c B E).length then mi else 0,
      cutP (imageB (fmtF cg cf (fo &&& fm) g) g c B E) ((if cg = g ∧ mi < countP (imageB (fmtF cg cf (fo &&& fm) g) g c B E).length then mi else 0 : Nat) : Int))) := rfl
  have hcm4 : (fo &&& fm) < 256 := Nat.lt_of_le_of_lt Nat.and_le_left hfo
  generalize (fo &&& fm) = cm at *
  have hff := fun wx => formatfor_is h fo cg cf mi cm g wx
  have hf62 : fmtF cg cf cm g ≤ 4611686018427387904 := by unfold fmtF; split <;> (try split) <;> omega
  generalize fmtF cg cf cm g = ff at *
  have hwi := fun wx h1 h2 => writei_is ff g c B E vP vE wx hf62 hg hc h1 hB h2 hok hlen
  have hIl : (imageB ff g c B E).length ≤ 1099511627776 := by
    have h1 := packB_body_le (f := ff) (g := g) (E := E) hc.2.2.2.2.2.2.2.2.2 hB hlen
    have h2 : ∀ x, (sumB x).length ≤ 1000 := fun x => by simp [sumB]
    have h3 := h2 (crcB (packB (bodyB ff g c B E)))
    unfold imageB
    rw [List.length_append]
    omega
  unfold tabV at hwi
  rw [hcf] at hwi
  generalize imageB ff g c B E = IB at *
  have hts : (txt IB).size = IB.length := by simp [txt, ByteArray.size]
  have hco := fun wx => count_is (txt IB) wx (by omega)
  have hcu := fun n wx => cut_is (txt IB) n wx (by omega)
  rw [hts] at hco
  rw [txt_list] at hcu
  generalize countP IB.length = np at *
  unfold questA at *
  obtain ⟨W0, hW0⟩ : ∃ W0, W0 = (w.alloc (.cells #[.int .i64 (h : Int), .int .i64 (fo : Int), .int .i64 (cg : Int), .int .i64 (cf : Int), .int .i64 (mi : Int)] 91)).alloc (.cells #[.int .i64 0, .int .i64 0, .int .i64 0, .int .i64 0, .int .i64 0, .string ⟨#[]⟩] 97) := ⟨_, rfl⟩
  have hbw : Bel w W0 := by rw [hW0]; exact ((Bel.refl w).step_alloc _).step_alloc _
  have hQ0 : BoxC w.heap.size 91 #[.int .i64 (h : Int), .int .i64 (fo : Int), .int .i64 (cg : Int), .int .i64 (cf : Int), .int .i64 (mi : Int)] W0 := by rw [hW0]; exact (BoxC.new w _ _).alloc _
  have HR0 : Hid (BoxC (w.heap.size + 1) 97 #[.int .i64 0, .int .i64 0, .int .i64 0, .int .i64 0, .int .i64 0, .string ⟨#[]⟩] W0) := by
    show BoxC _ _ _ W0
    rw [hW0]
    have := BoxC.new (w.alloc (.cells #[.int .i64 (h : Int), .int .i64 (fo : Int), .int .i64 (cg : Int), .int .i64 (cf : Int), .int .i64 (mi : Int)] 91)) 97 #[.int .i64 0, .int .i64 0, .int .i64 0, .int .i64 0, .int .i64 0, .string ⟨#[]⟩]
    rw [show (w.alloc (.cells #[.int .i64 (h : Int), .int .i64 (fo : Int), .int .i64 (cg : Int), .int .i64 (cf : Int), .int .i64 (mi : Int)] 91)).heap.size = w.heap.size + 1 by simp] at this
    exact this
  have a0 : W0.cell? ⟨w.heap.size, 0, none⟩ = some (.int .i64 (h : Int)) := hQ0.cell 0 rfl
  have a1 : W0.cell? ⟨w.heap.size, 1, none⟩ = some (.int .i64 (fo : Int)) := hQ0.cell 1 rfl
  have a2 : W0.cell? ⟨w.heap.size, 2, none⟩ = some (.int .i64 (cg : Int)) := hQ0.cell 2 rfl
  have a3 : W0.cell? ⟨w.heap.size, 3, none⟩ = some (.int .i64 (cf : Int)) := hQ0.cell 3 rfl
  have a4 : W0.cell? ⟨w.heap.size, 4, none⟩ = some (.int .i64 (mi : Int)) := hQ0.cell 4 rfl
  have t0 : W0.cell? ⟨s, 0, none⟩ = some (.int .i64 c.alg) := hbw.cell x0
  have t1 : W0.cell? ⟨s, 1, none⟩ = some (.int .i64 c.slots) := hbw.cell x1
  have t2 : W0.cell? ⟨s, 2, none⟩ = some (.int .i64 c.points) := hbw.cell x2
  have t3 : W0.cell? ⟨s, 3, none⟩ = some (.int .i64 c.probes) := hbw.cell x3
  have t4 : W0.cell? ⟨s, 4, none⟩ = some (.string c.key) := hbw.cell x4
  have t5 : W0.cell? ⟨s, 5, none⟩ = some (.int .i64 (fm : Int)) := hbw.cell x5
  have t6 : W0.cell? ⟨s, 6, none⟩ = some (vP) := hbw.cell x6
  have t7 : W0.cell? ⟨s, 7, none⟩ = some (vE) := hbw.cell x7
  have y8 := t8
  have hsl : s < w.heap.size := World.block_lt_of_cell? w _ t8
  replace t8 : W0.cell? ⟨s, 8, none⟩ = some (.int .i64 (g : Int)) := hbw.cell y8
  have R0 := HR0.out
  have r0 : W0.cell? ⟨w.heap.size + 1, 0, none⟩ = some (.int .i64 0) := R0.cell 0 rfl
  have z0 := R0.free 0
  have r1 : W0.cell? ⟨w.heap.size + 1, 1, none⟩ = some (.int .i64 0) := R0.cell 1 rfl
  have z1 := R0.free 1
  have r2 : W0.cell? ⟨w.heap.size + 1, 2, none⟩ = some (.int .i64 0) := R0.cell 2 rfl
  have z2 := R0.free 2
  have r3 : W0.cell? ⟨w.heap.size + 1, 3, none⟩ = some (.int .i64 0) := R0.cell 3 rfl
  have z3 := R0.free 3
  have r4 : W0.cell? ⟨w.heap.size + 1, 4, none⟩ = some (.int .i64 0) := R0.cell 4 rfl
  have z4 := R0.free 4
  have r5 : W0.cell? ⟨w.heap.size + 1, 5, none⟩ = some (.string ⟨#[]⟩) := R0.cell 5 rfl
  have z5 := R0.free 5
  have HP := Hid.mk (hP.later hbw)
  have HE := Hid.mk (EOff.of (hE.later hbw))
  have hsn : s ≠ w.heap.size := by omega
  have hsn2 : s ≠ w.heap.size + 1 := by omega
  clear R0 hQ0 x0 x1 x2 x3 x4 x5 x6 x7 hP hE hok hB hc hcf
  go_enter Tryz.func63, Tryz.ntmps63
  go_wp2_with fail
  rw [← hW0]
  clear hW0
  go_quiet (fail)
  by_cases h0 : cm = 0
  · subst h0
    rw [if_pos rfl] at HF
    go_wp2
    rw [HF.out]
    exact bodyPost_ret (v := ansA (2, 0, 0, 0, 0, [])) (by simp [ansA, txt_nil, results, Tryz.results63, go_sem, r0, r1, r2, r3, r4, r5]) rfl ⟨rfl, (hbw.step_drewN _).sets6 (by omega) _ _ _ _ _ _⟩
  rw [if_neg h0] at HF
  have h0b : ((cm : Int) == 0) = false := by rw [beq_eq_false_iff_ne]; omega
  by_cases hgg : g = 0 ∨ h = g
  · rw [if_pos hgg] at HF
    by_cases hg0 : g = 0
    · subst hg0
      have hd : (((0 : Nat) : Int) == 0) = true := rfl
      go_wp2_with fail
      go_quiet (fail)
      go_wp2
      rw [HF.out]
      exact bodyPost_ret (v := ansA (0, 0, 0, 0, 0, [])) (by simp [ansA, txt_nil, results, Tryz.results63, go_sem, r0, r1, r2, r3, r4, r5]) rfl ⟨rfl, (hbw.step_drewN _).sets6 (by omega) _ _ _ _ _ _⟩
    · have hh : h = g := by rcases hgg with h | h; exact absurd h hg0; exact h
      subst hh
      have hd : ((h : Int) == 0) = false := by rw [beq_eq_false_iff_ne]; omega
      have hd2 : ((h : Int) == (h : Int)) = true := by simp
      go_wp2_with fail
      go_quiet (fail)
      go_wp2
      rw [HF.out]
      exact bodyPost_ret (v := ansA (0, 0, 0, 0, 0, [])) (by simp [ansA, txt_nil, results, Tryz.results63, go_sem, r0, r1, r2, r3, r4, r5]) rfl ⟨rfl, (hbw.step_drewN _).sets6 (by omega) _ _ _ _ _ _⟩
  rw [if_neg hgg] at HF
  have hd : ((g : Int) == 0) = false := by rw [beq_eq_false_iff_ne]; omega
  have hd2 : ((h : Int) == (g : Int)) = false := by rw [beq_eq_false_iff_ne]; omega
  go_wp2_with fail
  go_quiet (fail)
  go_wp2_with fail
  go_region_held3 (fun w' => Bel W0 w' ∧ w'.cell? ⟨w.heap.size, 0, none⟩ = some (.int .i64 (h : Int)) ∧ w'.cell? ⟨w.heap.size, 1, none⟩ = some (.int .i64 (fo : Int)) ∧ w'.cell? ⟨w.heap.size, 2, none⟩ = some (.int .i64 (cg : Int)) ∧ w'.cell? ⟨w.heap.size, 3, none⟩ = some (.int .i64 (cf : Int)) ∧ w'.cell? ⟨w.heap.size, 4, none⟩ = some (.int .i64 (mi : Int)) ∧ w'.cell? ⟨s, 8, none⟩ = some (.int .i64 (g : Int))) ((exact ⟨by (repeat (first | with_reducible assumption | with_reducible exact Bel.refl _ | with_reducible refine Bel.step_drew ?_ | with_reducible refine Bel.step_drewN ?_ _ | with_reducible refine Bel.trans ?_ (by with_reducible assumption))), Bel.cell (a := W0) (by (repeat (first | with_reducible assumption | with_reducible exact Bel.refl _ | with_reducible refine Bel.step_drew ?_ | with_reducible refine Bel.step_drewN ?_ _ | with_reducible refine Bel.trans ?_ (by with_reducible assumption)))) a0, Bel.cell (a := W0) (by (repeat (first | with_reducible assumption | with_reducible exact Bel.refl _ | with_reducible refine Bel.step_drew ?_ | with_reducible refine Bel.step_drewN ?_ _ | with_reducible refine Bel.trans ?_ (by with_reducible assumption)))) a1, Bel.cell (a := W0) (by (repeat (first | with_reducible assumption | with_reducible exact Bel.refl _ | with_reducible refine Bel.step_drew ?_ | with_reducible refine Bel.step_drewN ?_ _ | with_reducible refine Bel.trans ?_ (by with_reducible assumption)))) a2, Bel.cell (a := W0) (by (repeat (first | with_reducible assumption | with_reducible exact Bel.refl _ | with_reducible refine Bel.step_drew ?_ | with_reducible refine Bel.step_drewN ?_ _ | with_reducible refine Bel.trans ?_ (by with_reducible assumption)))) a3, Bel.cell (a := W0) (by (repeat (first | with_reducible assumption | with_reducible exact Bel.refl _ | with_reducible refine Bel.step_drew ?_ | with_reducible refine Bel.step_drewN ?_ _ | with_reducible refine Bel.trans ?_ (by with_reducible assumption)))) a4, Bel.cell (a := W0) (by (repeat (first | with_reducible assumption | with_reducible exact Bel.refl _ | with_reducible refine Bel.step_drew ?_ | with_reducible refine Bel.step_drewN ?_ _ | with_reducible refine Bel.trans ?_ (by with_reducible assumption)))) t8⟩)) ((go_at_call 121; refine Calls.mono (hff _) ?_; rintro e w1 ⟨rfl, hb1⟩))
  have hb01 : Bel W0 w1 := by (repeat (first | with_reducible assumption | with_reducible exact Bel.refl _ | with_reducible refine Bel.step_drew ?_ | with_reducible refine Bel.step_drewN ?_ _ | with_reducible refine Bel.trans ?_ (by with_reducible assumption)))
  clear r0 r1 r2 r3 r4 r5 z0 z1 z2 z3 z4 z5
  go_wp2_with fail
  go_region_held3 (fun w' => Bel W0 w' ∧ w'.cell? ⟨s, 0, none⟩ = some (.int .i64 c.alg) ∧ w'.cell? ⟨s, 1, none⟩ = some (.int .i64 c.slots) ∧ w'.cell? ⟨s, 2, none⟩ = some (.int .i64 c.points) ∧ w'.cell? ⟨s, 3, none⟩ = some (.int .i64 c.probes) ∧ w'.cell? ⟨s, 4, none⟩ = some (.string c.key) ∧ w'.cell? ⟨s, 5, none⟩ = some (.int .i64 (fm : Int)) ∧ w'.cell? ⟨s, 6, none⟩ = some (vP) ∧ w'.cell? ⟨s, 7, none⟩ = some (vE) ∧ w'.cell? ⟨s, 8, none⟩ = some (.int .i64 (g : Int))) ((exact ⟨by (repeat (first | with_reducible assumption | with_reducible exact Bel.refl _ | with_reducible refine Bel.step_drew ?_ | with_reducible refine Bel.step_drewN ?_ _ | with_reducible refine Bel.trans ?_ (by with_reducible assumption))), Bel.cell (a := W0) (by (repeat (first | with_reducible assumption | with_reducible exact Bel.refl _ | with_reducible refine Bel.step_drew ?_ | with_reducible refine Bel.step_drewN ?_ _ | with_reducible refine Bel.trans ?_ (by with_reducible assumption)))) t0, Bel.cell (a := W0) (by (repeat (first | with_reducible assumption | with_reducible exact Bel.refl _ | with_reducible refine Bel.step_drew ?_ | with_reducible refine Bel.step_drewN ?_ _ | with_reducible refine Bel.trans ?_ (by with_reducible assumption)))) t1, Bel.cell (a := W0) (by (repeat (first | with_reducible assumption | with_reducible exact Bel.refl _ | with_reducible refine Bel.step_drew ?_ | with_reducible refine Bel.step_drewN ?_ _ | with_reducible refine Bel.trans ?_ (by with_reducible assumption)))) t2, Bel.cell (a := W0) (by (repeat (first | with_reducible assumption | with_reducible exact Bel.refl _ | with_reducible refine Bel.step_drew ?_ | with_reducible refine Bel.step_drewN ?_ _ | with_reducible refine Bel.trans ?_ (by with_reducible assumption)))) t3, Bel.cell (a := W0) (by (repeat (first | with_reducible assumption | with_reducible exact Bel.refl _ | with_reducible refine Bel.step_drew ?_ | with_reducible refine Bel.step_drewN ?_ _ | with_reducible refine Bel.trans ?_ (by with_reducible assumption)))) t4, Bel.cell (a := W0) (by (repeat (first | with_reducible assumption | with_reducible exact Bel.refl _ | with_reducible refine Bel.step_drew ?_ | with_reducible refine Bel.step_drewN ?_ _ | with_reducible refine Bel.trans ?_ (by with_reducible assumption)))) t5, Bel.cell (a := W0) (by (repeat (first | with_reducible assumption | with_reducible exact Bel.refl _ | with_reducible refine Bel.step_drew ?_ | with_reducible refine Bel.step_drewN ?_ _ | with_reducible refine Bel.trans ?_ (by with_reducible assumption)))) t6, Bel.cell (a := W0) (by (repeat (first | with_reducible assumption | with_reducible exact Bel.refl _ | with_reducible refine Bel.step_drew ?_ | with_reducible refine Bel.step_drewN ?_ _ | with_reducible refine Bel.trans ?_ (by with_reducible assumption)))) t7, Bel.cell (a := W0) (by (repeat (first | with_reducible assumption | with_reducible exact Bel.refl _ | with_reducible refine Bel.step_drew ?_ | with_reducible refine Bel.step_drewN ?_ _ | with_reducible refine Bel.trans ?_ (by with_reducible assumption)))) t8⟩)) ((go_at_call 122; refine Calls.mono (hwi _ (HP.out.later (by (repeat (first | with_reducible assumption | with_reducible exact Bel.refl _ | with_reducible refine Bel.step_drew ?_ | with_reducible refine Bel.step_drewN ?_ _ | with_reducible refine Bel.trans ?_ (by with_reducible assumption))))) (HE.out.later (by (repeat (first | with_reducible assumption | with_reducible exact Bel.refl _ | with_reducible refine Bel.step_drew ?_ | with_reducible refine Bel.step_drewN ?_ _ | with_reducible refine Bel.trans ?_ (by with_reducible assumption)))))) ?_; rintro e w2 ⟨rfl, hb2⟩))
  have hb02 : Bel W0 w2 := by (repeat (first | with_reducible assumption | with_reducible exact Bel.refl _ | with_reducible refine Bel.step_drew ?_ | with_reducible refine Bel.step_drewN ?_ _ | with_reducible refine Bel.trans ?_ (by with_reducible assumption)))
  go_wp2_with fail
  refine (hco _).mono ?_
  rintro e w3 ⟨rfl, rfl⟩
  have b2 := hb02.cell a2
  have b4 := hb02.cell a4
  have u8 := hb02.cell t8
  have HB02 := Hid.mk hb02
  clear a0 a1 a2 a3 a4 t0 t1 t2 t3 t4 t5 t6 t7 hb01 hff hwi hco
  go_wp2_with fail
  by_cases hcg : cg = g
  · subst hcg
    have hdc : ((cg : Int) == (cg : Int)) = true := by simp
    by_cases hmi : mi < np
    · rw [if_pos ⟨rfl, hmi⟩] at HF
      have hdm : decide ((mi : Int) < (np : Int)) = true := decide_eq_true (by omega)
      have hdmn : decide (mi < np) = true := decide_eq_true hmi
      go_quiet (fail)
      go_wp2_with fail
      go_region_held3 (fun w' => Bel w w' ∧ w'.cell? ⟨s, 8, none⟩ = some (.int .i64 (cg : Int)) ∧ w'.cell? ⟨w.heap.size + 1, 0, none⟩ = some (cOf w' (w.heap.size + 1) 0) ∧ w'.cell? ⟨w.heap.size + 1, 1, none⟩ = some (cOf w' (w.heap.size + 1) 1) ∧ w'.cell? ⟨w.heap.size + 1, 2, none⟩ = some (cOf w' (w.heap.size + 1) 2) ∧ w'.cell? ⟨w.heap.size + 1, 3, none⟩ = some (cOf w' (w.heap.size + 1) 3) ∧ w'.cell? ⟨w.heap.size + 1, 4, none⟩ = some (cOf w' (w.heap.size + 1) 4) ∧ w'.cell? ⟨w.heap.size + 1, 5, none⟩ = some (cOf w' (w.heap.size + 1) 5) ∧ w'.frozen? ⟨w.heap.size + 1, 0, none⟩ = false ∧ w'.frozen? ⟨w.heap.size + 1, 1, none⟩ = false ∧ w'.frozen? ⟨w.heap.size + 1, 2, none⟩ = false ∧ w'.frozen? ⟨w.heap.size + 1, 3, none⟩ = false ∧ w'.frozen? ⟨w.heap.size + 1, 4, none⟩ = false ∧ w'.frozen? ⟨w.heap.size + 1, 5, none⟩ = false) ((first | with_reducible exact keepA6 hbw HR0.out y8 (by (repeat (first | with_reducible assumption | with_reducible exact Bel.refl _ | with_reducible refine Bel.step_drew ?_ | with_reducible refine Bel.step_drewN ?_ _ | with_reducible refine Bel.trans ?_ (by with_reducible assumption)))) | exact keepA (hbw.trans (HB02.out.trans (by (repeat (first | with_reducible assumption | with_reducible exact Bel.refl _ | with_reducible refine Bel.step_drew ?_ | with_reducible refine Bel.step_drewN ?_ _ | with_reducible refine Bel.trans ?_ (by with_reducible assumption)))))) y8 ⟨_, _, HR0.out.bel (HB02.out.trans (by (repeat (first | with_reducible assumption | with_reducible exact Bel.refl _ | with_reducible refine Bel.step_drew ?_ | with_reducible refine Bel.step_drewN ?_ _ | with_reducible refine Bel.trans ?_ (by with_reducible assumption))))), rfl⟩)) ((go_at_call 124; refine Calls.mono (hcu _ _) ?_; rintro e w4 ⟨rfl, hb4⟩))
      have hb24 : Bel w2 w4 := by (repeat (first | with_reducible assumption | with_reducible exact Bel.refl _ | with_reducible refine Bel.step_drew ?_ | with_reducible refine Bel.step_drewN ?_ _ | with_reducible refine Bel.trans ?_ (by with_reducible assumption)))
      have R9 := HR0.out.bel (HB02.out.trans hb24)
      have r0 := R9.cell 0 rfl
      have r1 := R9.cell 1 rfl
      have r2 := R9.cell 2 rfl
      have r3 := R9.cell 3 rfl
      have r4 := R9.cell 4 rfl
      have r5 := R9.cell 5 rfl
      have HB := Hid.mk (hbw.trans (HB02.out.trans hb24))
      clear R9 hb24
      go_wp2
      rw [HF.out]
      exact bodyPost_ret (v := ansA (1, cg, ff, np, mi, cutP IB ((mi : Nat) : Int))) (by simp [ansA, results, Tryz.results63, go_sem, r0, r1, r2, r3, r4, r5]) rfl ⟨rfl, HB.out.sets6 (by omega) _ _ _ _ _ _⟩
    · rw [if_neg (fun k => hmi k.2)] at HF
      have hdm : decide ((mi : Int) < (np : Int)) = false := decide_eq_false (by omega)
      have hdmn : decide (mi < np) = false := decide_eq_false hmi
      go_quiet (fail)
      go_wp2_with fail
      go_region_held3 (fun w' => Bel w w' ∧ w'.cell? ⟨s, 8, none⟩ = some (.int .i64 (cg : Int)) ∧ w'.cell? ⟨w.heap.size + 1, 0, none⟩ = some (cOf w' (w.heap.size + 1) 0) ∧ w'.cell? ⟨w.heap.size + 1, 1, none⟩ = some (cOf w' (w.heap.size + 1) 1) ∧ w'.cell? ⟨w.heap.size + 1, 2, none⟩ = some (cOf w' (w.heap.size + 1) 2) ∧ w'.cell? ⟨w.heap.size + 1, 3, none⟩ = some (cOf w' (w.heap.size + 1) 3) ∧ w'.cell? ⟨w.heap.size + 1, 4, none⟩ = some (cOf w' (w.heap.size + 1) 4) ∧ w'.cell? ⟨w.heap.size + 1, 5, none⟩ = some (cOf w' (w.heap.size + 1) 5) ∧ w'.frozen? ⟨w.heap.size + 1, 0, none⟩ = false ∧ w'.frozen? ⟨w.heap.size + 1, 1, none⟩ = false ∧ w'.frozen? ⟨w.heap.size + 1, 2, none⟩ = false ∧ w'.frozen? ⟨w.heap.size + 1, 3, none⟩ = false ∧ w'.frozen? ⟨w.heap.size + 1, 4, none⟩ = false ∧ w'.frozen? ⟨w.heap.size + 1, 5, none⟩ = false) ((first | with_reducible exact keepA6 hbw HR0.out y8 (by (repeat (first | with_reducible assumption | with_reducible exact Bel.refl _ | with_reducible refine Bel.step_drew ?_ | with_reducible refine Bel.step_drewN ?_ _ | with_reducible refine Bel.trans ?_ (by with_reducible assumption)))) | exact keepA (hbw.trans (HB02.out.trans (by (repeat (first | with_reducible assumption | with_reducible exact Bel.refl _ | with_reducible refine Bel.step_drew ?_ | with_reducible refine Bel.step_drewN ?_ _ | with_reducible refine Bel.trans ?_ (by with_reducible assumption)))))) y8 ⟨_, _, HR0.out.bel (HB02.out.trans (by (repeat (first | with_reducible assumption | with_reducible exact Bel.refl _ | with_reducible refine Bel.step_drew ?_ | with_reducible refine Bel.step_drewN ?_ _ | with_reducible refine Bel.trans ?_ (by with_reducible assumption))))), rfl⟩)) ((go_at_call 124; refine Calls.mono (hcu _ _) ?_; rintro e w4 ⟨rfl, hb4⟩))
      have hb24 : Bel w2 w4 := by (repeat (first | with_reducible assumption | with_reducible exact Bel.refl _ | with_reducible refine Bel.step_drew ?_ | with_reducible refine Bel.step_drewN ?_ _ | with_reducible refine Bel.trans ?_ (by with_reducible assumption)))
      have R9 := HR0.out.bel (HB02.out.trans hb24)
      have r0 := R9.cell 0 rfl
      have r1 := R9.cell 1 rfl
      have r2 := R9.cell 2 rfl
      have r3 := R9.cell 3 rfl
      have r4 := R9.cell 4 rfl
      have r5 := R9.cell 5 rfl
      have HB := Hid.mk (hbw.trans (HB02.out.trans hb24))
      clear R9 hb24
      go_wp2
      rw [HF.out]
      exact bodyPost_ret (v := ansA (1, cg, ff, np, 0, cutP IB ((0 : Nat) : Int))) (by simp [ansA, results, Tryz.results63, go_sem, r0, r1, r2, r3, r4, r5]) rfl ⟨rfl, HB.out.sets6 (by omega) _ _ _ _ _ _⟩
  · rw [if_neg (fun k => hcg k.1)] at HF
    have hdc : ((cg : Int) == (g : Int)) = false := by rw [beq_eq_false_iff_ne]; omega
    go_quiet (fail)
    go_wp2_with fail
    go_region_held3 (fun w' => Bel w w' ∧ w'.cell? ⟨s, 8, none⟩ = some (.int .i64 (g : Int)) ∧ w'.cell? ⟨w.heap.size + 1, 0, none⟩ = some (cOf w' (w.heap.size + 1) 0) ∧ w'.cell? ⟨w.heap.size + 1, 1, none⟩ = some (cOf w' (w.heap.size + 1) 1) ∧ w'.cell? ⟨w.heap.size + 1, 2, none⟩ = some (cOf w' (w.heap.size + 1) 2) ∧ w'.cell? ⟨w.heap.size + 1, 3, none⟩ = some (cOf w' (w.heap.size + 1) 3) ∧ w'.cell? ⟨w.heap.size + 1, 4, none⟩ = some (cOf w' (w.heap.size + 1) 4) ∧ w'.cell? ⟨w.heap.size + 1, 5, none⟩ = some (cOf w' (w.heap.size + 1) 5) ∧ w'.frozen? ⟨w.heap.size + 1, 0, none⟩ = false ∧ w'.frozen? ⟨w.heap.size + 1, 1, none⟩ = false ∧ w'.frozen? ⟨w.heap.size + 1, 2, none⟩ = false ∧ w'.frozen? ⟨w.heap.size + 1, 3, none⟩ = false ∧ w'.frozen? ⟨w.heap.size + 1, 4, none⟩ = false ∧ w'.frozen? ⟨w.heap.size + 1, 5, none⟩ = false) ((first | with_reducible exact keepA6 hbw HR0.out y8 (by (repeat (first | with_reducible assumption | with_reducible exact Bel.refl _ | with_reducible refine Bel.step_drew ?_ | with_reducible refine Bel.step_drewN ?_ _ | with_reducible refine Bel.trans ?_ (by with_reducible assumption)))) | exact keepA (hbw.trans (HB02.out.trans (by (repeat (first | with_reducible assumption | with_reducible exact Bel.refl _ | with_reducible refine Bel.step_drew ?_ | with_reducible refine Bel.step_drewN ?_ _ | with_reducible refine Bel.trans ?_ (by with_reducible assumption)))))) y8 ⟨_, _, HR0.out.bel (HB02.out.trans (by (repeat (first | with_reducible assumption | with_reducible exact Bel.refl _ | with_reducible refine Bel.step_drew ?_ | with_reducible refine Bel.step_drewN ?_ _ | with_reducible refine Bel.trans ?_ (by with_reducible assumption))))), rfl⟩)) ((go_at_call 124; refine Calls.mono (hcu _ _) ?_; rintro e w4 ⟨rfl, hb4⟩))
    have hb24 : Bel w2 w4 := by (repeat (first | with_reducible assumption | with_reducible exact Bel.refl _ | with_reducible refine Bel.step_drew ?_ | with_reducible refine Bel.step_drewN ?_ _ | with_reducible refine Bel.trans ?_ (by with_reducible assumption)))
    have R9 := HR0.out.bel (HB02.out.trans hb24)
    have r0 := R9.cell 0 rfl
    have r1 := R9.cell 1 rfl
    have r2 := R9.cell 2 rfl
    have r3 := R9.cell 3 rfl
    have r4 := R9.cell 4 rfl
    have r5 := R9.cell 5 rfl
    have HB := Hid.mk (hbw.trans (HB02.out.trans hb24))
    clear R9 hb24
    go_wp2
    rw [HF.out]
    exact bodyPost_ret (v := ansA (1, g, ff, np, 0, cutP IB ((0 : Nat) : Int))) (by simp [ansA, results, Tryz.results63, go_sem, r0, r1, r2, r3, r4, r5]) rfl ⟨rfl, HB.out.sets6 (by omega) _ _ _ _ _ _⟩

end Go.Proofs.YtpapdkhjdelfcabGreat

namespace Go.Proofs.YtpapdkhjdelfcabGreat
open Go.RowKit

/-- an answer's bits: with no piece, with a piece -/
def answ0 (k : Nat) : List Bool := ([] ++ bytesBits [65]) ++ numBits k (8 * 1)
def answ1 (g f c n : Nat) (t : ByteArray) : List Bool := ((((answ0 1 ++ numBits g (8 * 4)) ++ numBits f (8 * 1)) ++ numBits c (8 * 2)) ++ numBits n (8 * 2)) ++ bytesBits t.data.toList

set_option maxRecDepth 100000 in
set_option maxHeartbeats 1000000 in
theorem writea0_is (k g f c n : Nat) (t : ByteArray) (w : World) (b0 : k ≤ 4611686018427387904) (hk : ((k : Int) == 1) = false) :
    Calls Tryz.prog 64 #[.agg #[.int .i64 (k : Int), .int .i64 (g : Int), .int .i64 (f : Int), .int .i64 (c : Int), .int .i64 (n : Int), .string t]] w (RTx w (packB (answ0 k) ++ sumB (crcB (packB (answ0 k))))) := by
  obtain ⟨W0, hW0⟩ : ∃ W0, W0 = w.alloc (.cells #[.int .i64 (k : Int), .int .i64 (g : Int), .int .i64 (f : Int), .int .i64 (c : Int), .int .i64 (n : Int), .string t] 97) := ⟨_, rfl⟩
  have hsz : W0.heap.size = w.heap.size + 1 := by rw [hW0]; simp
  have hb0 : Bel w W0 := by rw [hW0]; exact (Bel.refl w).step_alloc _
  have q0 : W0.cell? ⟨w.heap.size, 0, none⟩ = some (.int .i64 (k : Int)) := by rw [hW0]; simp
  have hI0 := WrI.new W0 149
  rw [hsz] at hI0
  have H0 := Hid.mk (wtext_is W0 (w.heap.size + 1) [] ⟨#[65]⟩ _ hI0 (by simp [ByteArray.size]))
  clear hI0
  go_enter Tryz.func64, Tryz.ntmps64
  go_wp2_with fail
  rw [← hW0]
  refine H0.out.mono ?_
  rintro e w1 ⟨rfl, hI1⟩
  clear H0
  have hB1 := hI1.1
  have H1 := Hid.mk (wint_is W0 (w.heap.size + 1) _ k 1 _ hI1 (by simp [bytesBits_len]) (by omega) b0)
  have a1 := hB1.cell q0
  clear hI1
  go_wp2_with fail
  refine H1.out.mono ?_
  rintro e w2 ⟨rfl, hI2⟩
  clear H1 a1 hB1
  have a0 := hI2.1.cell q0
  have hI2' : WrI (fun _ => none) W0 (w.heap.size + 1) (answ0 k) w2 := hI2
  have hLl : (answ0 k).length ≤ 99999999 := by simp [answ0, numBits_len, bytesBits_len]
  have H2 := Hid.mk (wdone_is W0 (w.heap.size + 1) _ _ hI2' (by omega))
  clear hI2 hI2'
  go_wp2_with fail
  refine H2.out.mono ?_
  rintro e w3 ⟨rfl, hI3⟩
  clear H2
  have hB9 := Hid.mk (hb0.trans hI3.1)
  have hlen : (packB (answ0 k)).length ≤ 99999999 := Nat.le_trans (packB_len_le _ _ (Nat.le_refl _)) hLl
  have H9 := sealed_is (txt (packB (answ0 k))) w3 (by simp [txt, ByteArray.size]; omega)
  rw [txt_list] at H9
  generalize packB (answ0 k) = B at *
  have H10 := Hid.mk H9
  clear H9 hI3 hLl
  go_wp2_with fail
  refine H10.out.mono ?_
  rintro e wz ⟨rfl, hb8⟩
  have hB8 := Hid.mk (hB9.out.trans hb8)
  clear H10 hb8
  go_wp2
  go_ret
  exact ⟨rfl, hB8.out⟩

set_option maxRecDepth 100000 in
set_option maxHeartbeats 1000000 in
theorem writea1_is (g f c n : Nat) (t : ByteArray) (w : World) (b1 : g ≤ 4611686018427387904) (b2 : f ≤ 4611686018427387904) (b3 : c ≤ 4611686018427387904) (b4 : n ≤ 4611686018427387904) (ht : t.size ≤ 1048576) :
    Calls Tryz.prog 64 #[.agg #[.int .i64 1, .int .i64 (g : Int), .int .i64 (f : Int), .int .i64 (c : Int), .int .i64 (n : Int), .string t]] w (RTx w (packB (answ1 g f c n t) ++ sumB (crcB (packB (answ1 g f c n t))))) := by
  obtain ⟨W0, hW0⟩ : ∃ W0, W0 = w.alloc (.cells #[.int .i64 1, .int .i64 (g : Int), .int .i64 (f : Int), .int .i64 (c : Int), .int .i64 (n : Int), .string t] 97) := ⟨_, rfl⟩
  have hsz : W0.heap.size = w.heap.size + 1 := by rw [hW0]; simp
  have hb0 : Bel w W0 := by rw [hW0]; exact (Bel.refl w).step_alloc _
  have q0 : W0.cell? ⟨w.heap.size, 0, none⟩ = some (.int .i64 1) := by rw [hW0]; simp
  have q1 : W0.cell? ⟨w.heap.size, 1, none⟩ = some (.int .i64 (g : Int)) := by rw [hW0]; simp
  have q2 : W0.cell? ⟨w.heap.size, 2, none⟩ = some (.int .i64 (f : Int)) := by rw [hW0]; simp
  have q3 : W0.cell? ⟨w.heap.size, 3, none⟩ = some (.int .i64 (c : Int)) := by rw [hW0]; simp
  have q4 : W0.cell? ⟨w.heap.size, 4, none⟩ = some (.int .i64 (n : Int)) := by rw [hW0]; simp
  have q5 : W0.cell? ⟨w.heap.size, 5, none⟩ = some (.string t) := by rw [hW0]; simp
  have hI0 := WrI.new W0 149
  rw [hsz] at hI0
  have H0 := Hid.mk (wtext_is W0 (w.heap.size + 1) [] ⟨#[65]⟩ _ hI0 (by simp [ByteArray.size]))
  clear hI0
  go_enter Tryz.func64, Tryz.ntmps64
  go_wp2_with fail
  rw [← hW0]
  refine H0.out.mono ?_
  rintro e w1 ⟨rfl, hI1⟩
  clear H0
  have hB1 := hI1.1
  have H1 := Hid.mk (wint_is W0 (w.heap.size + 1) _ 1 1 _ hI1 (by simp [bytesBits_len]) (by omega) (by decide))
  have a1 := hB1.cell q0
  clear hI1
  go_wp2_with fail
  refine H1.out.mono ?_
  rintro e w2 ⟨rfl, hI2⟩
  clear H1 a1 hB1
  have a0 := hI2.1.cell q0
  have hB2 := hI2.1
  have H2 := Hid.mk (wint_is W0 (w.heap.size + 1) _ g 4 _ hI2 (by simp [bytesBits_len, numBits_len]) (by omega) b1)
  have a2 := hB2.cell q1
  clear hI2
  go_wp2_with fail
  refine H2.out.mono ?_
  rintro e w3 ⟨rfl, hI3⟩
  clear H2 a2 hB2
  have hB3 := hI3.1
  have H3 := Hid.mk (wint_is W0 (w.heap.size + 1) _ f 1 _ hI3 (by simp [bytesBits_len, numBits_len]) (by omega) b2)
  have a3 := hB3.cell q2
  clear hI3
  go_wp2_with fail
  refine H3.out.mono ?_
  rintro e w4 ⟨rfl, hI4⟩
  clear H3 a3 hB3
  have hB4 := hI4.1
  have H4 := Hid.mk (wint_is W0 (w.heap.size + 1) _ c 2 _ hI4 (by simp [bytesBits_len, numBits_len]) (by omega) b3)
  have a4 := hB4.cell q3
  clear hI4
  go_wp2_with fail
  refine H4.out.mono ?_
  rintro e w5 ⟨rfl, hI5⟩
  clear H4 a4 hB4
  have hB5 := hI5.1
  have H5 := Hid.mk (wint_is W0 (w.heap.size + 1) _ n 2 _ hI5 (by simp [bytesBits_len, numBits_len]) (by omega) b4)
  have a5 := hB5.cell q4
  clear hI5
  go_wp2_with fail
  refine H5.out.mono ?_
  rintro e w6 ⟨rfl, hI6⟩
  clear H5 a5 hB5
  have hB6 := hI6.1
  have H6 := Hid.mk (wtext_is W0 (w.heap.size + 1) _ t _ hI6 (by simp [bytesBits_len, numBits_len]; omega))
  have a6 := hB6.cell q5
  clear hI6
  go_wp2_with fail
  refine H6.out.mono ?_
  rintro e w7 ⟨rfl, hI7⟩
  clear H6 a6 hB6
  have hI7' : WrI (fun _ => none) W0 (w.heap.size + 1) (answ1 g f c n t) w7 := hI7
  have hLl : (answ1 g f c n t).length ≤ 99999999 := by simp [answ1, answ0, numBits_len, bytesBits_len]; omega
  have H7 := Hid.mk (wdone_is W0 (w.heap.size + 1) _ _ hI7' (by omega))
  clear hI7 hI7'
  go_wp2_with fail
  refine H7.out.mono ?_
  rintro e w8 ⟨rfl, hI8⟩
  clear H7
  have hB9 := Hid.mk (hb0.trans hI8.1)
  have hlen : (packB (answ1 g f c n t)).length ≤ 99999999 := Nat.le_trans (packB_len_le _ _ (Nat.le_refl _)) hLl
  have H9 := sealed_is (txt (packB (answ1 g f c n t))) w8 (by simp [txt, ByteArray.size]; omega)
  rw [txt_list] at H9
  generalize packB (answ1 g f c n t) = B at *
  have H10 := Hid.mk H9
  clear H9 hI8 hLl
  go_wp2_with fail
  refine H10.out.mono ?_
  rintro e wz ⟨rfl, hb8⟩
  have hB8 := Hid.mk (hB9.out.trans hb8)
  clear H10 hb8
  go_wp2
  go_ret
  exact ⟨rfl, hB8.out⟩

end Go.Proofs.YtpapdkhjdelfcabGreat
