import Derived.Test.YtpapdkhjdelfcabGreatKBA
namespace Go.Proofs.YtpapdkhjdelfcabGreat
open Go.RowKit

set_option maxRecDepth 100000 in
set_option maxHeartbeats 2000000 in
theorem apply_is (tp ti : ByteArray) (w : World) (h1 : tp.size ≤ 1099511627776) (h2 : ti.size ≤ 1099511627776) :
    Calls Tryz.prog 160 #[.string tp, .string ti] w (RTxE w (applyF tp.data.toList ti.data.toList)) := by
  have hr1 := fun wx => readi_is ti wx h2
  rcases hi1 : imageP ti.data.toList with _ | ⟨f, g, c, B, E⟩
  · rw [hi1] at hr1
    unfold RImg imgNo at hr1
    have HF : Hid (applyF tp.data.toList ti.data.toList = ([], 9)) := by show _ = _; unfold applyF; rw [hi1]
    rw [HF.out]
    go_enter Tryz.func160, Tryz.ntmps160
    go_wp2_with fail
    refine (hr1 _).mono ?_
    rintro e w1 ⟨hb1, rfl⟩
    go_wp2
    go_ret2
    exact ⟨rfl, hb1.step_alloc _⟩
  rw [hi1] at hr1
  unfold RImg imgV at hr1
  have ok1 := imageP_ok hi1
  have hl1 := ok1.len
  have hg1 := ok1.right.1.2
  have hr2 := fun wx => readc_is tp c.alg wx h1
  rcases hi2 : changeP c.alg tp.data.toList with _ | ⟨b, s, g2, B2, ah, bh, M⟩
  · rw [hi2] at hr2
    unfold RChg chgNo at hr2
    have HF : Hid (applyF tp.data.toList ti.data.toList = ([], 9)) := by show _ = _; unfold applyF; rw [hi1]; simp only; rw [hi2]
    rw [HF.out]
    clear ok1
    go_enter Tryz.func160, Tryz.ntmps160
    go_wp2_with fail
    refine (hr1 _).mono ?_
    rintro e w1 ⟨hb1, vP1, vE1, rfl, hoP1, hoE1⟩
    obtain ⟨aP1, kP1, rfl⟩ := own_sliceW hoP1
    obtain ⟨aE1, kE1, rfl⟩ := own_sliceW hoE1
    have HB1 := Hid.mk (hb1.step_alloc (.cells #[.int .i64 (f : Int), .int .i64 (g : Int), .int .i64 c.alg, .int .i64 c.slots, .int .i64 c.points, .int .i64 c.probes, .string c.key, .int .i64 c.formats, .slice aP1 B.length kP1, .slice aE1 E.length kE1] 173))
    clear hoP1 hoE1 hb1
    go_wp2_with fail
    refine (hr2 _).mono ?_
    rintro e w2 ⟨hb2, rfl⟩
    have HB2 := Hid.mk ((HB1.out.trans hb2).step_alloc (.cells #[.int .i64 0, .int .u32 0, .int .i64 0, .slice none 0 0, .int .i64 0, .int .i64 0, .slice none 0 0] 224))
    clear hb2
    go_wp2
    go_ret2
    exact ⟨rfl, HB2.out⟩
  rw [hi2] at hr2
  unfold RChg chgV at hr2
  have ok2 := changeP_ok hi2
  obtain ⟨O, hOd⟩ : ∃ O, O = E.map (inE B B2) := ⟨_, rfl⟩
  have hOl : O.length ≤ E.length := by rw [hOd, List.length_map]; exact Nat.le_refl _
  obtain ⟨NN, hNd⟩ : ∃ N, N = ctF ah bh M O := ⟨_, rfl⟩
  have hNl : NN.length ≤ 100000 := by
    have h3 := ctF_len (ah := ah) (bh := bh) (M := M) (O := O)
    have h4 := ok2.len
    rw [hNd]; omega
  obtain ⟨sg, hsd⟩ : ∃ sg, sg = (sumF g c B E).toNat := ⟨_, rfl⟩
  have HF10 : Hid (¬ (b = g ∧ s = sg) → applyF tp.data.toList ti.data.toList = ([], 10)) := fun h => by
    rw [hsd] at h
    unfold applyF
    rw [hi1]
    simp only
    rw [hi2]
    exact if_neg h
  have HF0 : Hid (b = g → s = sg → ah + bh ≤ E.length → RightG g2 c B2 NN → applyF tp.data.toList ti.data.toList = (imageB 1 g2 c B2 NN, 0)) := fun q1 q2 q3 q4 => by
    rw [hsd] at q2
    rw [hNd, hOd] at q4 ⊢
    unfold applyF
    rw [hi1]
    simp only
    rw [hi2]
    simp only
    rw [if_pos ⟨q1, q2⟩, if_pos q3, if_pos q4]
  have HF9 : Hid (b = g → s = sg → ¬ (ah + bh ≤ E.length ∧ RightG g2 c B2 NN) → applyF tp.data.toList ti.data.toList = ([], 9)) := fun q1 q2 q3 => by
    rw [hsd] at q2
    rw [hNd, hOd] at q3
    unfold applyF
    rw [hi1]
    simp only
    rw [hi2]
    simp only
    rw [if_pos ⟨q1, q2⟩]
    by_cases q4 : ah + bh ≤ E.length
    · rw [if_pos q4, if_neg (fun h => q3 ⟨q4, h⟩)]
    · rw [if_neg q4]
  have hsum := fun vP vE wx h1 h2 => sumof_is f g c B E vP vE wx (by omega) ok1.tok h1 ok1.good.1 h2 (fun e he => (ok1.ents e he).1) (by omega)
  have hent := fun q vP vE v2 wx hT hP hE hP2 => entsin_is q c vP vE v2 B B2 E wx hT hP hE hP2 (by have := ok2.good.1.1; omega) (by omega)
  rw [← hOd] at hent
  have htu := fun q vM vO wx h4 h5 h6 hM hO => cturned_is q ah bh vM vO M O wx h4 h5 h6 hM hO (by have := ok2.len; omega) (by omega) (by have := ok2.a16; omega) (by have := ok2.h16; omega)
  rw [← hNd] at htu
  have hcr := fun vP vE wx hP hE => cright_is g2 c vP vE B2 NN wx hP hE ok2.good.1 (by omega) ok1.tok
  have hNr : RightG g2 c B2 NN → NN.length ≤ 255 ∧ (∀ e ∈ NN, EntOK e) := fun h => by
    have q1 := h.2.1
    have q2 := cntF_le ok1.tok ok2.good.1
    refine ⟨by omega, fun e he => ?_⟩
    obtain ⟨j, hj, q3, q4⟩ := h.2.2.1 e he
    have q5 := ok2.good.1.1
    have q6 : 0 ≤ e.1 ∧ e.1 < 18446744073709551616 := by
      rw [hNd] at he
      rcases ctF_mem he with he | he
      · have := ok2.ents e he; exact ⟨this.1, this.2.1⟩
      · rw [hOd] at he
        obtain ⟨e0, he0, rfl⟩ := List.mem_map.1 he
        exact ok1.pts e0 he0
    exact ⟨q6.1, q6.2, by omega, by omega⟩
  have hwi := fun (hR : RightG g2 c B2 NN) vP vE wx hP hE => writei_is 1 g2 c B2 NN vP vE wx (by omega) (by have := ok2.g32; omega) ok1.tok hP ok2.good.1 hE (hNr hR).2 (by have := (hNr hR).1; omega)
  unfold tabV at hcr hwi
  unfold imgV RSumF at hsum
  rw [← hsd] at hsum
  have HRG : Hid (RightG g2 c B2 NN ↔ RightG g2 c B2 NN) := Iff.rfl
  generalize imageB 1 g2 c B2 NN = IB at *
  generalize RightG g2 c B2 NN = RG at *
  have ha16 := ok2.a16
  have hb16 := ok2.h16
  clear hi1 hi2 hsd hNd hOd HRG hNr
  go_enter Tryz.func160, Tryz.ntmps160
  go_wp2_with fail
  refine (hr1 _).mono ?_
  rintro e w1 ⟨hb1, vP1, vE1, rfl, hoP1, hoE1⟩
  obtain ⟨aP1, kP1, rfl⟩ := own_sliceW hoP1
  obtain ⟨aE1, kE1, rfl⟩ := own_sliceW hoE1
  have HB1 := Hid.mk hb1
  have HPa := Hid.mk (OwnB.pool hoP1)
  have HEa := Hid.mk (OwnE.ents hoE1)
  clear hoP1 hoE1 hb1 hr1
  go_wp2_with fail
  refine (hr2 _).mono ?_
  rintro e w2 ⟨hb2, vP2, vM, rfl, hoP2, hoM⟩
  obtain ⟨aP2, kP2, rfl⟩ := own_sliceW hoP2
  obtain ⟨aM, kM, rfl⟩ := own_sliceW hoM
  have hA2 := (BoxC.new w1 173 #[.int .i64 (f : Int), .int .i64 (g : Int), .int .i64 c.alg, .int .i64 c.slots, .int .i64 c.points, .int .i64 c.probes, .string c.key, .int .i64 c.formats, .slice aP1 B.length kP1, .slice aE1 E.length kE1]).bel hb2
  have hB2 := (HB1.out.step_alloc _).trans hb2
  obtain ⟨W2, hW2⟩ : ∃ W2, W2 = w2.alloc (.cells #[.int .i64 (b : Int), .int .u32 (s : Int), .int .i64 (g2 : Int), .slice aP2 B2.length kP2, .int .i64 (ah : Int), .int .i64 (bh : Int), .slice aM M.length kM] 224) := ⟨_, rfl⟩
  have hbw : Bel w2 W2 := by rw [hW2]; exact (Bel.refl w2).step_alloc _
  have HCH : Hid (BoxC w2.heap.size 224 #[.int .i64 (b : Int), .int .u32 (s : Int), .int .i64 (g2 : Int), .slice aP2 B2.length kP2, .int .i64 (ah : Int), .int .i64 (bh : Int), .slice aM M.length kM] W2) := by show BoxC _ _ _ W2; rw [hW2]; exact BoxC.new _ _ _
  have HA := Hid.mk (hA2.bel hbw)
  have HB2 := Hid.mk (hB2.trans hbw)
  replace HPa := Hid.mk (((HPa.out.later ((Bel.refl w1).step_alloc _)).later hb2).later hbw)
  replace HEa := Hid.mk (((HEa.out.later ((Bel.refl w1).step_alloc _)).later hb2).later hbw)
  have HPb := Hid.mk ((OwnB.pool hoP2).later hbw)
  have HM := Hid.mk ((OwnE.ents hoM).later hbw)
  clear hoP2 hoM hb2 hr2 HB1 hA2 hB2 hbw
  go_wp2_with fail
  rw [← hW2]
  clear hW2
  have A2 := HA.out
  have C2 := HCH.out
  have a0 := A2.cell 0 rfl
  have a1 := A2.cell 1 rfl
  have a2 := A2.cell 2 rfl
  have a3 := A2.cell 3 rfl
  have a4 := A2.cell 4 rfl
  have a5 := A2.cell 5 rfl
  have a6 := A2.cell 6 rfl
  have a7 := A2.cell 7 rfl
  have a8 := A2.cell 8 rfl
  have a9 := A2.cell 9 rfl
  have k0 := C2.cell 0 rfl
  have k1 := C2.cell 1 rfl
  have k2 := C2.cell 2 rfl
  have k3 := C2.cell 3 rfl
  have k4 := C2.cell 4 rfl
  have k5 := C2.cell 5 rfl
  have k6 := C2.cell 6 rfl
  clear A2 C2
  by_cases hbg : b = g
  rotate_left
  · have hF := Hid.mk (HF10.out (fun h => hbg h.1))
    have hnb : (((b : Int)) != (g : Int)) = true := by rw [bne_iff_ne]; omega
    clear HF10 HF0 HF9 hsum hent htu hcr hwi
    go_quiet (fail)
    go_wp2
    go_ret2
    rw [hF.out]
    exact ⟨rfl, HB2.out.step_drewN _⟩
  subst hbg
  by_cases hss : s = sg
  rotate_left
  · have hF := Hid.mk (HF10.out (fun h => hss h.2))
    have hns : (((s : Int)) != (sg : Int)) = true := by rw [bne_iff_ne]; omega
    clear HF10 HF0 HF9 hent htu hcr hwi hss
    go_region_held3 (fun w' => Bel W2 w' ∧ w'.cell? ⟨w1.heap.size, 0, none⟩ = some (.int .i64 (f : Int)) ∧ w'.cell? ⟨w1.heap.size, 1, none⟩ = some (.int .i64 (b : Int)) ∧ w'.cell? ⟨w1.heap.size, 2, none⟩ = some (.int .i64 c.alg) ∧ w'.cell? ⟨w1.heap.size, 3, none⟩ = some (.int .i64 c.slots) ∧ w'.cell? ⟨w1.heap.size, 4, none⟩ = some (.int .i64 c.points) ∧ w'.cell? ⟨w1.heap.size, 5, none⟩ = some (.int .i64 c.probes) ∧ w'.cell? ⟨w1.heap.size, 6, none⟩ = some (.string c.key) ∧ w'.cell? ⟨w1.heap.size, 7, none⟩ = some (.int .i64 c.formats) ∧ w'.cell? ⟨w1.heap.size, 8, none⟩ = some (.slice aP1 B.length kP1) ∧ w'.cell? ⟨w1.heap.size, 9, none⟩ = some (.slice aE1 E.length kE1) ∧ w'.cell? ⟨w2.heap.size, 0, none⟩ = some (.int .i64 (b : Int)) ∧ w'.cell? ⟨w2.heap.size, 1, none⟩ = some (.int .u32 (s : Int))) ((exact ⟨by (repeat (first | exact Bel.refl _ | assumption | refine Bel.step_alloc ?_ _ | refine Bel.step_drew ?_ | refine Bel.step_drewN ?_ _ | refine Bel.step_set ?_ (by simp <;> omega) _ | refine Bel.trans ?_ (by assumption))), Bel.cell (by (repeat (first | exact Bel.refl _ | assumption | refine Bel.step_alloc ?_ _ | refine Bel.step_drew ?_ | refine Bel.step_drewN ?_ _ | refine Bel.step_set ?_ (by simp <;> omega) _ | refine Bel.trans ?_ (by assumption)))) a0, Bel.cell (by (repeat (first | exact Bel.refl _ | assumption | refine Bel.step_alloc ?_ _ | refine Bel.step_drew ?_ | refine Bel.step_drewN ?_ _ | refine Bel.step_set ?_ (by simp <;> omega) _ | refine Bel.trans ?_ (by assumption)))) a1, Bel.cell (by (repeat (first | exact Bel.refl _ | assumption | refine Bel.step_alloc ?_ _ | refine Bel.step_drew ?_ | refine Bel.step_drewN ?_ _ | refine Bel.step_set ?_ (by simp <;> omega) _ | refine Bel.trans ?_ (by assumption)))) a2, Bel.cell (by (repeat (first | exact Bel.refl _ | assumption | refine Bel.step_alloc ?_ _ | refine Bel.step_drew ?_ | refine Bel.step_drewN ?_ _ | refine Bel.step_set ?_ (by simp <;> omega) _ | refine Bel.trans ?_ (by assumption)))) a3, Bel.cell (by (repeat (first | exact Bel.refl _ | assumption | refine Bel.step_alloc ?_ _ | refine Bel.step_drew ?_ | refine Bel.step_drewN ?_ _ | refine Bel.step_set ?_ (by simp <;> omega) _ | refine Bel.trans ?_ (by assumption)))) a4, Bel.cell (by (repeat (first | exact Bel.refl _ | assumption | refine Bel.step_alloc ?_ _ | refine Bel.step_drew ?_ | refine Bel.step_drewN ?_ _ | refine Bel.step_set ?_ (by simp <;> omega) _ | refine Bel.trans ?_ (by assumption)))) a5, Bel.cell (by (repeat (first | exact Bel.refl _ | assumption | refine Bel.step_alloc ?_ _ | refine Bel.step_drew ?_ | refine Bel.step_drewN ?_ _ | refine Bel.step_set ?_ (by simp <;> omega) _ | refine Bel.trans ?_ (by assumption)))) a6, Bel.cell (by (repeat (first | exact Bel.refl _ | assumption | refine Bel.step_alloc ?_ _ | refine Bel.step_drew ?_ | refine Bel.step_drewN ?_ _ | refine Bel.step_set ?_ (by simp <;> omega) _ | refine Bel.trans ?_ (by assumption)))) a7, Bel.cell (by (repeat (first | exact Bel.refl _ | assumption | refine Bel.step_alloc ?_ _ | refine Bel.step_drew ?_ | refine Bel.step_drewN ?_ _ | refine Bel.step_set ?_ (by simp <;> omega) _ | refine Bel.trans ?_ (by assumption)))) a8, Bel.cell (by (repeat (first | exact Bel.refl _ | assumption | refine Bel.step_alloc ?_ _ | refine Bel.step_drew ?_ | refine Bel.step_drewN ?_ _ | refine Bel.step_set ?_ (by simp <;> omega) _ | refine Bel.trans ?_ (by assumption)))) a9, Bel.cell (by (repeat (first | exact Bel.refl _ | assumption | refine Bel.step_alloc ?_ _ | refine Bel.step_drew ?_ | refine Bel.step_drewN ?_ _ | refine Bel.step_set ?_ (by simp <;> omega) _ | refine Bel.trans ?_ (by assumption)))) k0, Bel.cell (by (repeat (first | exact Bel.refl _ | assumption | refine Bel.step_alloc ?_ _ | refine Bel.step_drew ?_ | refine Bel.step_drewN ?_ _ | refine Bel.step_set ?_ (by simp <;> omega) _ | refine Bel.trans ?_ (by assumption)))) k1⟩)) ((go_at_call 197; refine Calls.mono (hsum _ _ _ (HPa.out.later (by (repeat (first | exact Bel.refl _ | assumption | refine Bel.step_alloc ?_ _ | refine Bel.step_drew ?_ | refine Bel.step_drewN ?_ _ | refine Bel.step_set ?_ (by simp <;> omega) _ | refine Bel.trans ?_ (by assumption))))) (HEa.out.later (by (repeat (first | exact Bel.refl _ | assumption | refine Bel.step_alloc ?_ _ | refine Bel.step_drew ?_ | refine Bel.step_drewN ?_ _ | refine Bel.step_set ?_ (by simp <;> omega) _ | refine Bel.trans ?_ (by assumption)))))) ?_; rintro e w3 ⟨rfl, hb3⟩))
    all_goals
      have HB3 : Hid (Bel w w3) := HB2.out.trans (by first | assumption | (repeat (first | exact Bel.refl _ | assumption | refine Bel.step_alloc ?_ _ | refine Bel.step_drew ?_ | refine Bel.step_drewN ?_ _ | refine Bel.step_set ?_ (by simp <;> omega) _ | refine Bel.trans ?_ (by assumption))))
      go_wp2
      go_ret2
      rw [hF.out]
      exact ⟨rfl, HB3.out⟩
  subst hss
  have hns : (((s : Int)) != (s : Int)) = false := by simp
  go_region_held3 (fun w' => Bel W2 w' ∧ w'.cell? ⟨w1.heap.size, 0, none⟩ = some (.int .i64 (f : Int)) ∧ w'.cell? ⟨w1.heap.size, 1, none⟩ = some (.int .i64 (b : Int)) ∧ w'.cell? ⟨w1.heap.size, 2, none⟩ = some (.int .i64 c.alg) ∧ w'.cell? ⟨w1.heap.size, 3, none⟩ = some (.int .i64 c.slots) ∧ w'.cell? ⟨w1.heap.size, 4, none⟩ = some (.int .i64 c.points) ∧ w'.cell? ⟨w1.heap.size, 5, none⟩ = some (.int .i64 c.probes) ∧ w'.cell? ⟨w1.heap.size, 6, none⟩ = some (.string c.key) ∧ w'.cell? ⟨w1.heap.size, 7, none⟩ = some (.int .i64 c.formats) ∧ w'.cell? ⟨w1.heap.size, 8, none⟩ = some (.slice aP1 B.length kP1) ∧ w'.cell? ⟨w1.heap.size, 9, none⟩ = some (.slice aE1 E.length kE1) ∧ w'.cell? ⟨w2.heap.size, 0, none⟩ = some (.int .i64 (b : Int)) ∧ w'.cell? ⟨w2.heap.size, 1, none⟩ = some (.int .u32 (s : Int))) ((exact ⟨by (repeat (first | exact Bel.refl _ | assumption | refine Bel.step_alloc ?_ _ | refine Bel.step_drew ?_ | refine Bel.step_drewN ?_ _ | refine Bel.step_set ?_ (by simp <;> omega) _ | refine Bel.trans ?_ (by assumption))), Bel.cell (by (repeat (first | exact Bel.refl _ | assumption | refine Bel.step_alloc ?_ _ | refine Bel.step_drew ?_ | refine Bel.step_drewN ?_ _ | refine Bel.step_set ?_ (by simp <;> omega) _ | refine Bel.trans ?_ (by assumption)))) a0, Bel.cell (by (repeat (first | exact Bel.refl _ | assumption | refine Bel.step_alloc ?_ _ | refine Bel.step_drew ?_ | refine Bel.step_drewN ?_ _ | refine Bel.step_set ?_ (by simp <;> omega) _ | refine Bel.trans ?_ (by assumption)))) a1, Bel.cell (by (repeat (first | exact Bel.refl _ | assumption | refine Bel.step_alloc ?_ _ | refine Bel.step_drew ?_ | refine Bel.step_drewN ?_ _ | refine Bel.step_set ?_ (by simp <;> omega) _ | refine Bel.trans ?_ (by assumption)))) a2, Bel.cell (by (repeat (first | exact Bel.refl _ | assumption | refine Bel.step_alloc ?_ _ | refine Bel.step_drew ?_ | refine Bel.step_drewN ?_ _ | refine Bel.step_set ?_ (by simp <;> omega) _ | refine Bel.trans ?_ (by assumption)))) a3, Bel.cell (by (repeat (first | exact Bel.refl _ | assumption | refine Bel.step_alloc ?_ _ | refine Bel.step_drew ?_ | refine Bel.step_drewN ?_ _ | refine Bel.step_set ?_ (by simp <;> omega) _ | refine Bel.trans ?_ (by assumption)))) a4, Bel.cell (by (repeat (first | exact Bel.refl _ | assumption | refine Bel.step_alloc ?_ _ | refine Bel.step_drew ?_ | refine Bel.step_drewN ?_ _ | refine Bel.step_set ?_ (by simp <;> omega) _ | refine Bel.trans ?_ (by assumption)))) a5, Bel.cell (by (repeat (first | exact Bel.refl _ | assumption | refine Bel.step_alloc ?_ _ | refine Bel.step_drew ?_ | refine Bel.step_drewN ?_ _ | refine Bel.step_set ?_ (by simp <;> omega) _ | refine Bel.trans ?_ (by assumption)))) a6, Bel.cell (by (repeat (first | exact Bel.refl _ | assumption | refine Bel.step_alloc ?_ _ | refine Bel.step_drew ?_ | refine Bel.step_drewN ?_ _ | refine Bel.step_set ?_ (by simp <;> omega) _ | refine Bel.trans ?_ (by assumption)))) a7, Bel.cell (by (repeat (first | exact Bel.refl _ | assumption | refine Bel.step_alloc ?_ _ | refine Bel.step_drew ?_ | refine Bel.step_drewN ?_ _ | refine Bel.step_set ?_ (by simp <;> omega) _ | refine Bel.trans ?_ (by assumption)))) a8, Bel.cell (by (repeat (first | exact Bel.refl _ | assumption | refine Bel.step_alloc ?_ _ | refine Bel.step_drew ?_ | refine Bel.step_drewN ?_ _ | refine Bel.step_set ?_ (by simp <;> omega) _ | refine Bel.trans ?_ (by assumption)))) a9, Bel.cell (by (repeat (first | exact Bel.refl _ | assumption | refine Bel.step_alloc ?_ _ | refine Bel.step_drew ?_ | refine Bel.step_drewN ?_ _ | refine Bel.step_set ?_ (by simp <;> omega) _ | refine Bel.trans ?_ (by assumption)))) k0, Bel.cell (by (repeat (first | exact Bel.refl _ | assumption | refine Bel.step_alloc ?_ _ | refine Bel.step_drew ?_ | refine Bel.step_drewN ?_ _ | refine Bel.step_set ?_ (by simp <;> omega) _ | refine Bel.trans ?_ (by assumption)))) k1⟩)) ((go_at_call 197; refine Calls.mono (hsum _ _ _ (HPa.out.later (by (repeat (first | exact Bel.refl _ | assumption | refine Bel.step_alloc ?_ _ | refine Bel.step_drew ?_ | refine Bel.step_drewN ?_ _ | refine Bel.step_set ?_ (by simp <;> omega) _ | refine Bel.trans ?_ (by assumption))))) (HEa.out.later (by (repeat (first | exact Bel.refl _ | assumption | refine Bel.step_alloc ?_ _ | refine Bel.step_drew ?_ | refine Bel.step_drewN ?_ _ | refine Bel.step_set ?_ (by simp <;> omega) _ | refine Bel.trans ?_ (by assumption)))))) ?_; rintro e w3 ⟨rfl, hb3⟩))
  have hb23 : Bel W2 w3 := by (repeat (first | exact Bel.refl _ | assumption | refine Bel.step_alloc ?_ _ | refine Bel.step_drew ?_ | refine Bel.step_drewN ?_ _ | refine Bel.step_set ?_ (by simp <;> omega) _ | refine Bel.trans ?_ (by assumption)))
  have HB3 := Hid.mk (HB2.out.trans hb23)
  have HA3 := Hid.mk (HA.out.bel hb23)
  have HC3 := Hid.mk (HCH.out.bel hb23)
  replace HPa := Hid.mk (HPa.out.later hb23)
  replace HEa := Hid.mk (HEa.out.later hb23)
  replace HPb := Hid.mk (HPb.out.later hb23)
  replace HM := Hid.mk (HM.out.later hb23)
  have A3 := HA3.out
  have C3 := HC3.out
  clear k0 k1 k2 k3 k4 k5 k6
  have b2 := A3.cell 2 rfl
  have b3 := A3.cell 3 rfl
  have b4 := A3.cell 4 rfl
  have b5 := A3.cell 5 rfl
  have b6 := A3.cell 6 rfl
  have b7 := A3.cell 7 rfl
  have b9 := A3.cell 9 rfl
  have k2 := C3.cell 2 rfl
  have k3 := C3.cell 3 rfl
  have k4 := C3.cell 4 rfl
  have k5 := C3.cell 5 rfl
  have k6 := C3.cell 6 rfl
  have hw13 : w1.heap.size < w3.heap.size := A3.lt
  have hw23 : w2.heap.size < w3.heap.size := C3.lt
  clear A3 C3 HA HCH HB2 hsum a0 a1 a2 a3 a4 a5 a6 a7 a8 a9
  by_cases hab : ah + bh ≤ E.length
  rotate_left
  · have hF := Hid.mk (HF9.out (by simp) (by simp) (fun h => hab h.1))
    have hdd : decide ((E.length : Int) < (ah : Int) + (bh : Int)) = true := decide_eq_true (by omega)
    clear HF10 HF0 HF9 hab hent htu hcr hwi
    go_wp2
    go_ret2
    rw [hF.out]
    exact ⟨rfl, HB3.out⟩
  have hdd : decide ((E.length : Int) < (ah : Int) + (bh : Int)) = false := decide_eq_false (by omega)
  replace HF0 := Hid.mk (HF0.out (by simp) (by simp) hab)
  replace HF9 : Hid (¬ RG → applyF tp.data.toList ti.data.toList = ([], 9)) := fun h => HF9.out (by simp) (by simp) (fun k => h k.2)
  obtain ⟨W3, hW3⟩ : ∃ W3, W3 = w3.alloc (.cells #[.int .i64 c.alg, .int .i64 c.slots, .int .i64 c.points, .int .i64 c.probes, .string c.key, .int .i64 c.formats, .slice aP2 B2.length kP2, .slice none 0 0] 66) := ⟨_, rfl⟩
  have hb3w : Bel w3 W3 := by rw [hW3]; exact (Bel.refl w3).step_alloc _
  have HTB : Hid (BoxC w3.heap.size 66 #[.int .i64 c.alg, .int .i64 c.slots, .int .i64 c.points, .int .i64 c.probes, .string c.key, .int .i64 c.formats, .slice aP2 B2.length kP2, .slice none 0 0] W3) := by show BoxC _ _ _ W3; rw [hW3]; exact BoxC.new _ _ _
  have A4 := HA3.out.bel hb3w
  have H4 := Hid.mk (hent w1.heap.size _ _ _ W3 ⟨⟨A4.cell 2 rfl, A4.cell 3 rfl, A4.cell 4 rfl, A4.cell 5 rfl, A4.cell 6 rfl, A4.cell 7 rfl⟩, A4.cell 8 rfl, A4.cell 9 rfl⟩ (HPa.out.later hb3w) (HEa.out.later hb3w) (HPb.out.later hb3w))
  clear A4 hent HF10 hab
  go_wp2_with fail
  rw [← hW3]
  clear hW3
  refine H4.out.mono ?_
  rintro e w4 ⟨vO, rfl, hb4, hoO⟩
  obtain ⟨aO, kO, rfl⟩ := own_sliceW hoO
  have hb34 := hb3w.trans hb4
  have C4 := HC3.out.bel hb34
  have hw4 : w3.heap.size < w4.heap.size := (HTB.out.bel hb4).lt
  have HTB4 := Hid.mk (HTB.out.bel hb4)
  have H5 := Hid.mk (htu w2.heap.size _ _ w4 (C4.cell 4 rfl) (C4.cell 5 rfl) (C4.cell 6 rfl) (HM.out.later hb34) (OwnE.ents hoO))
  have HB34 := Hid.mk hb34
  clear C4 htu H4 hoO hb4 hb3w hb34 b2 b3 b4 b5 b6 b7 b9 k2 k3 k4 k5 k6
  go_wp2_with fail
  refine H5.out.mono ?_
  rintro e w5 ⟨vN, rfl, hb5, hoN⟩
  obtain ⟨aN, kN, rfl⟩ := own_sliceW hoN
  have T5 := HTB4.out.bel hb5
  have HB35 := Hid.mk (HB34.out.trans hb5)
  have C5 := HC3.out.bel HB35.out
  have k2 := C5.cell 2 rfl
  have t0 := T5.cell 0 rfl
  have t1 := T5.cell 1 rfl
  have t2 := T5.cell 2 rfl
  have t3 := T5.cell 3 rfl
  have t4 := T5.cell 4 rfl
  have t5 := T5.cell 5 rfl
  have t6 := T5.cell 6 rfl
  have t7 := T5.cell 7 rfl
  have f7 := T5.free 7
  have HV5 := Hid.mk (HB35.out.step_set (p := ⟨w3.heap.size, 7, none⟩) (Nat.le_refl _) (.slice aN NN.length kN))
  have HT5 := Hid.mk (T5.set 7 (.slice aN NN.length kN) (cs' := #[.int .i64 c.alg, .int .i64 c.slots, .int .i64 c.points, .int .i64 c.probes, .string c.key, .int .i64 c.formats, .slice aP2 B2.length kP2, .slice aN NN.length kN]) rfl)
  have HN5 := Hid.mk (ownsRow_setCell_below hoN (a := ⟨w3.heap.size, 7, none⟩) (by simp only; omega) (.slice aN NN.length kN))
  have hw35 : w2.heap.size ≠ w3.heap.size := by omega
  have H6 := Hid.mk (hcr _ _ _ (HPb.out.later HV5.out) (OwnE.ents HN5.out))
  clear C5 T5 hb5 hoN H5 HB34 HTB4 HB35 hcr
  go_wp2_with fail
  refine H6.out.mono ?_
  rintro e w6 ⟨x, rfl, hb6, hx⟩
  have HX := Hid.mk hx
  have HB6 := Hid.mk (HV5.out.trans hb6)
  have T6 := HT5.out.bel hb6
  have C6 := HC3.out.bel HB6.out
  have HN6 := Hid.mk (own_laterW HN5.out hb6)
  clear k2 t0 t1 t2 t3 t4 t5 t6 t7 f7
  have k2 := C6.cell 2 rfl
  have t0 := T6.cell 0 rfl
  have t1 := T6.cell 1 rfl
  have t2 := T6.cell 2 rfl
  have t3 := T6.cell 3 rfl
  have t4 := T6.cell 4 rfl
  have t5 := T6.cell 5 rfl
  have t6 := T6.cell 6 rfl
  have t7 := T6.cell 7 rfl
  clear T6 C6 hb6 hx H6 HV5 HT5 HN5
  cases x
  · have hF := Hid.mk (HF9.out (fun h => by have := HX.out.2 h; cases this))
    clear hwi HF0 HF9 HX
    go_wp2
    go_ret2
    rw [hF.out]
    exact ⟨rfl, HB3.out.trans HB6.out⟩
  · have hRG : RG := HX.out.1 (by simp)
    have hF := Hid.mk (HF0.out hRG)
    have H7 := Hid.mk (hwi hRG _ _ w6 (HPb.out.later HB6.out) (EOff.of (OwnE.ents HN6.out)))
    clear hwi HF0 HF9 HX hRG
    go_wp2_with fail
    refine H7.out.mono ?_
    rintro e w7 ⟨rfl, hb7⟩
    have HB7 := Hid.mk (HB3.out.trans (HB6.out.trans hb7))
    clear hb7
    go_wp2
    go_ret2
    rw [hF.out]
    exact ⟨rfl, HB7.out⟩

end Go.Proofs.YtpapdkhjdelfcabGreat
