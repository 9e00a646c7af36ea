import Derived.Test.YtgfildmmcbjpnabGreatLBH
import Derived.Test.YtgfildmmcbjpnabGreatLBQ
import Derived.Deep.RegionHeld3
namespace Go.Proofs.YtgfildmmcbjpnabGreat
open Go.RowKit

theorem opCells_new (w : World) (a b c d e : Value) (t : TypeId) : (w.alloc (.cells #[a, b, c, d, e] t)).cell? ⟨w.heap.size, 0, none⟩ = some a ∧ (w.alloc (.cells #[a, b, c, d, e] t)).cell? ⟨w.heap.size, 1, none⟩ = some b ∧ (w.alloc (.cells #[a, b, c, d, e] t)).cell? ⟨w.heap.size, 2, none⟩ = some c ∧ (w.alloc (.cells #[a, b, c, d, e] t)).cell? ⟨w.heap.size, 3, none⟩ = some d ∧ (w.alloc (.cells #[a, b, c, d, e] t)).cell? ⟨w.heap.size, 4, none⟩ = some e := ⟨by simp, by simp, by simp, by simp, by simp⟩

set_option maxRecDepth 100000 in
set_option maxHeartbeats 2000000 in
theorem deltas_add (base : Nat) (M : List Nat) (y : PrG) (A wt C : Int) (S : ByteArray) (w : World) (h : DPre base M y w) (hS : S.size ≤ maxLen) :
    Calls Tryz.prog 25 #[.pointer (some ⟨y.a, 0, none⟩), .agg #[.int .i64 4, .int .i64 A, .int .i64 wt, .int .i64 C, .string S]] w (RDelta base M y w) := by
  obtain ⟨n1, n2, n3⟩ := h.ne
  have H := Hid.mk h
  have hbl := h.2.2.1
  have hM := h.2.1
  have ha : y.a ∈ M := hbl _ (by simp [PrG.blocks])
  have hq : y.q ∈ M := hbl _ (by simp [PrG.blocks])
  have hlim := h.2.2.2.2
  obtain ⟨⟨hL, hSv, hPm, hG, hc, ⟨g0, g1, g2⟩, hH, -, -, -⟩, -⟩ := h
  have sv := fun wx (b : Bel w wx) => add_is M y.q y.c y.B y.g S wt wx (hSv.later b) (fun k hk => Nat.lt_of_lt_of_le (hM k hk) b.size) hc hG g0 (by omega)
  have hqa : y.q ∉ [y.a] := by simpa using fun e => n1 e.symm
  have cg := fun wx (b : But [y.q] w wx) => changed_any y.B y.vb 4 A wt C S wx (hPm.later (b.mono (fun k hk => Or.inl (by rw [List.mem_singleton.1 hk]; exact hq)))).unmask hG.1.1 (by simp) hS
  have hHs := fun wx (b : But [y.q] w wx) => hH.later (b.mono (M' := M) (fun k hk => Or.inl (by rw [List.mem_singleton.1 hk]; exact hq)))
  have hqM : ∀ k ∈ [y.q], k ∈ M ∨ w.heap.size ≤ k := fun k hk => Or.inl (by rw [List.mem_singleton.1 hk]; exact hq)
  have c0 := hL.1 0 _ rfl
  have c1 := hL.1 1 _ rfl
  have c2 := hL.1 2 _ rfl
  have c3 := hL.1 3 _ rfl
  have c4 := hL.1 4 _ rfl
  have c5 := hL.1 5 _ rfl
  have c6 := hL.1 6 _ rfl
  have c7 := hL.1 7 _ rfl
  have c8 := hL.1 8 _ rfl
  have f7 := hL.2 7 (by simp [PrG.cells])
  have f8 := hL.2 8 (by simp [PrG.cells])
  have HL := Hid.mk hL
  have HG := Hid.mk hG
  have HCK := Hid.mk hc
  have HM := Hid.mk hM
  have haq : y.a ∉ [y.q] := by simpa using n1
  clear hL hSv hPm hG hc hH n2 n3 hbl hM hS
  go_enter Tryz.func25, Tryz.ntmps25
  go_wp2_with fail
  have o0 : (w.alloc (.cells #[.int .i64 4, .int .i64 A, .int .i64 wt, .int .i64 C, .string S] 28)).cell? ⟨w.heap.size, 0, none⟩ = some (.int .i64 4) := by simp
  have o1 : (w.alloc (.cells #[.int .i64 4, .int .i64 A, .int .i64 wt, .int .i64 C, .string S] 28)).cell? ⟨w.heap.size, 1, none⟩ = some (.int .i64 A) := by simp
  have o2 : (w.alloc (.cells #[.int .i64 4, .int .i64 A, .int .i64 wt, .int .i64 C, .string S] 28)).cell? ⟨w.heap.size, 2, none⟩ = some (.int .i64 wt) := by simp
  have o3 : (w.alloc (.cells #[.int .i64 4, .int .i64 A, .int .i64 wt, .int .i64 C, .string S] 28)).cell? ⟨w.heap.size, 3, none⟩ = some (.int .i64 C) := by simp
  have o4 : (w.alloc (.cells #[.int .i64 4, .int .i64 A, .int .i64 wt, .int .i64 C, .string S] 28)).cell? ⟨w.heap.size, 4, none⟩ = some (.string S) := by simp
  have hbo : Bel w (w.alloc (.cells #[.int .i64 4, .int .i64 A, .int .i64 wt, .int .i64 C, .string S] 28)) := Bel.step_alloc (Bel.refl w) _
  generalize (w.alloc (.cells #[.int .i64 4, .int .i64 A, .int .i64 wt, .int .i64 C, .string S] 28)) = wo at *
  have k0 := hbo.cell c0
  have hqs := HM.out _ hq
  have hoq : w.heap.size ∉ [y.q] := by simp; omega
  generalize w.heap.size = po at o0 o1 o2 o3 o4 hoq ⊢
  go_region_held3 (fun w' => But [y.q] wo w' ∧ w'.cell? ⟨y.a, 0, none⟩ = some (.pointer (some ⟨y.q, 0, none⟩)) ∧ w'.cell? ⟨po, 4, none⟩ = some (.string S) ∧ w'.cell? ⟨po, 2, none⟩ = some (.int .i64 wt)) ((exact ⟨by (repeat (first | exact But.refl _ _ | assumption | refine But.drew ?_ | refine But.drewN ?_ _ | refine But.alloc ?_ _ | refine But.set ?_ (by simp) _ | refine But.trans ?_ (by assumption) | refine But.step ?_ (by assumption))), But.cell (w := wo) (by (repeat (first | exact But.refl _ _ | assumption | refine But.drew ?_ | refine But.drewN ?_ _ | refine But.alloc ?_ _ | refine But.set ?_ (by simp) _ | refine But.trans ?_ (by assumption) | refine But.step ?_ (by assumption)))) k0 haq, But.cell (w := wo) (by (repeat (first | exact But.refl _ _ | assumption | refine But.drew ?_ | refine But.drewN ?_ _ | refine But.alloc ?_ _ | refine But.set ?_ (by simp) _ | refine But.trans ?_ (by assumption) | refine But.step ?_ (by assumption)))) o4 hoq, But.cell (w := wo) (by (repeat (first | exact But.refl _ _ | assumption | refine But.drew ?_ | refine But.drewN ?_ _ | refine But.alloc ?_ _ | refine But.set ?_ (by simp) _ | refine But.trans ?_ (by assumption) | refine But.step ?_ (by assumption)))) o2 hoq⟩)) ((go_at_call 10; refine (sv _ (by (repeat (first | exact Bel.refl _ | assumption | refine Bel.step_alloc ?_ _ | refine Bel.step_drew ?_ | refine Bel.step_drewN ?_ _ | refine Bel.step_set ?_ (by simp <;> omega) _ | refine Bel.trans ?_ (by assumption))))).mono ?_; rintro e w1 ⟨rfl, b1, hS1⟩))
  have bo1 : But [y.q] wo w1 := by (repeat (first | exact But.refl _ _ | assumption | refine But.drew ?_ | refine But.drewN ?_ _ | refine But.alloc ?_ _ | refine But.set ?_ (by simp) _ | refine But.trans ?_ (by assumption) | refine But.step ?_ (by assumption)))
  have bw1 : But [y.q] w w1 := (But.of_bel hbo).trans bo1
  have m0 := bw1.cell c0 haq
  have m1 := bw1.cell c1 haq
  have m2 := bw1.cell c2 haq
  have m3 := bw1.cell c3 haq
  have m4 := bw1.cell c4 haq
  have m5 := bw1.cell c5 haq
  have m6 := bw1.cell c6 haq
  have m7 := bw1.cell c7 haq
  have m8 := bw1.cell c8 haq
  have e7 := bw1.frozen c7 haq f7
  have e8 := bw1.frozen c8 haq f8
  have p0 := bo1.cell o0 hoq
  have p1 := bo1.cell o1 hoq
  have p2 := bo1.cell o2 hoq
  have p3 := bo1.cell o3 hoq
  have p4 := bo1.cell o4 hoq
  have hH1 := hHs w1 bw1
  have cg1 := cg
  have HB1 := Hid.mk bw1
  clear c0 c1 c2 c3 c4 c5 c6 c7 c8 f7 f8 o0 o1 o2 o3 o4 k0 b1 bo1 sv cg hHs hbo
  go_wp2_with fail
  go_region_held3 (fun w' => Bel w1 w' ∧ w'.cell? ⟨y.a, 7, none⟩ = some y.vb ∧ w'.cell? ⟨po, 0, none⟩ = some (.int .i64 4) ∧ w'.cell? ⟨po, 1, none⟩ = some (.int .i64 A) ∧ w'.cell? ⟨po, 2, none⟩ = some (.int .i64 wt) ∧ w'.cell? ⟨po, 3, none⟩ = some (.int .i64 C) ∧ w'.cell? ⟨po, 4, none⟩ = some (.string S)) ((exact ⟨by (repeat (first | exact Bel.refl _ | assumption | refine Bel.step_alloc ?_ _ | refine Bel.step_drew ?_ | refine Bel.step_drewN ?_ _ | refine Bel.step_set ?_ (by simp <;> omega) _ | refine Bel.trans ?_ (by assumption))), Bel.cell (a := w1) (by (repeat (first | exact Bel.refl _ | assumption | refine Bel.step_alloc ?_ _ | refine Bel.step_drew ?_ | refine Bel.step_drewN ?_ _ | refine Bel.step_set ?_ (by simp <;> omega) _ | refine Bel.trans ?_ (by assumption)))) m7, Bel.cell (a := w1) (by (repeat (first | exact Bel.refl _ | assumption | refine Bel.step_alloc ?_ _ | refine Bel.step_drew ?_ | refine Bel.step_drewN ?_ _ | refine Bel.step_set ?_ (by simp <;> omega) _ | refine Bel.trans ?_ (by assumption)))) p0, Bel.cell (a := w1) (by (repeat (first | exact Bel.refl _ | assumption | refine Bel.step_alloc ?_ _ | refine Bel.step_drew ?_ | refine Bel.step_drewN ?_ _ | refine Bel.step_set ?_ (by simp <;> omega) _ | refine Bel.trans ?_ (by assumption)))) p1, Bel.cell (a := w1) (by (repeat (first | exact Bel.refl _ | assumption | refine Bel.step_alloc ?_ _ | refine Bel.step_drew ?_ | refine Bel.step_drewN ?_ _ | refine Bel.step_set ?_ (by simp <;> omega) _ | refine Bel.trans ?_ (by assumption)))) p2, Bel.cell (a := w1) (by (repeat (first | exact Bel.refl _ | assumption | refine Bel.step_alloc ?_ _ | refine Bel.step_drew ?_ | refine Bel.step_drewN ?_ _ | refine Bel.step_set ?_ (by simp <;> omega) _ | refine Bel.trans ?_ (by assumption)))) p3, Bel.cell (a := w1) (by (repeat (first | exact Bel.refl _ | assumption | refine Bel.step_alloc ?_ _ | refine Bel.step_drew ?_ | refine Bel.step_drewN ?_ _ | refine Bel.step_set ?_ (by simp <;> omega) _ | refine Bel.trans ?_ (by assumption)))) p4⟩)) ((go_at_call 51; refine (cg1 _ (bw1.step (by (repeat (first | exact Bel.refl _ | assumption | refine Bel.step_alloc ?_ _ | refine Bel.step_drew ?_ | refine Bel.step_drewN ?_ _ | refine Bel.step_set ?_ (by simp <;> omega) _ | refine Bel.trans ?_ (by assumption)))))).mono ?_; rintro e w2 ⟨v, k, there, err, rfl, b2, hF, hP2, herr, hnew⟩; have HQ : Hid (FindIs y.B S k there ∧ PoolAt w2 v (chg y.B 4 S wt k there).1 ∧ err = (chg y.B 4 S wt k there).2 ∧ (err = 0 → ∀ g, v.ownBlock = some g → w1.heap.size ≤ g)) := ⟨hF, hP2, herr, hnew⟩; clear hF hP2 herr hnew))
  obtain ⟨hF, hP2, herr, hnew⟩ := HQ.out
  clear HQ
  have b12 : Bel w1 w2 := by (repeat (first | exact Bel.refl _ | assumption | refine Bel.step_alloc ?_ _ | refine Bel.step_drew ?_ | refine Bel.step_drewN ?_ _ | refine Bel.step_set ?_ (by simp <;> omega) _ | refine Bel.trans ?_ (by assumption)))
  have hch := chg_add (n := wt) HG.out hF
  rw [hch] at hP2 herr
  simp only at hP2 herr
  subst herr
  obtain ⟨aoV, capV, rfl⟩ : ∃ ao cap, v = .slice ao (addB y.B S wt).length cap := by
    obtain ⟨ao, cap, h, _⟩ := hP2.open
    exact ⟨ao, cap, h⟩
  have hv : addE y.B S wt = 0 → Hid (∀ g, (Value.slice aoV (addB y.B S wt).length capV).ownBlock = some g → w.heap.size ≤ g) := fun h0 g hg => Nat.le_trans HB1.out.size (hnew h0 g hg)
  have hG2 := HG.out.add S wt
  have hsame : Hid (¬ addE y.B S wt = 0 → addB y.B S wt = y.B) := fun h0 => by simp [addB, h0]
  have HP2 := Hid.mk hP2
  have HG2 := Hid.mk hG2
  have HS1 := Hid.mk hS1
  clear hP2 hG2 hS1 hnew hF hch cg1 b2 bw1
  generalize addB y.B S wt = B' at *
  have n7 := b12.cell m7
  have n8 := b12.cell m8
  have n1' := b12.cell m1
  have n2' := b12.cell m2
  have n3' := b12.cell m3
  have n4' := b12.cell m4
  have n5' := b12.cell m5
  have n6' := b12.cell m6
  have d7 := b12.frozen m7 e7
  have d8 := b12.frozen m8 e8
  clear m0 m1 m2 m3 m4 m5 m6 m7 m8 e7 e8 p0 p1 p2 p3 p4
  have halt : y.a < w2.heap.size := World.block_lt_of_cell? w2 _ n7
  by_cases he : addE y.B S wt = 0
  · have HS2 : Hid (SvcAt M y.q y.c B' (y.g + 1) w1) := by have := HS1.out; rw [if_pos he] at this; exact this
    have HV := hv he
    have hset : ∀ wx, Bel w2 wx → Hid (But [y.a] w2 (wx.setCell ⟨y.a, 7, none⟩ (.slice aoV B'.length capV))) := fun wx b => ((But.of_bel b).set (by simp) _)
    have md : ∀ (G : Int), G = y.g + 1 → ∀ wx, Bel w2 wx → Calls Tryz.prog 52 #[.agg #[.int .i64 y.c.alg, .int .i64 y.c.slots, .int .i64 y.c.points, .int .i64 y.c.probes, .string y.c.key, .int .i64 y.c.formats], .int .i64 G, .slice aoV B'.length capV] (wx.setCell ⟨y.a, 7, none⟩ (.slice aoV B'.length capV)) (RStateE (wx.setCell ⟨y.a, 7, none⟩ (.slice aoV B'.length capV)) y.c G (.slice aoV B'.length capV) B') := fun G hG wx b => dmade_is y.c G (.slice aoV B'.length capV) B' _ HCK.out (RowAt.but HP2.out (hset wx b).out (fun g hg e => by have := HV.out g hg; have := H.out.mem.2.2.1; have := List.mem_singleton.1 e; omega)) HG2.out.1 ⟨by omega, by omega⟩
    have hrs : ∀ (G : Int), G = y.g + 1 → ∀ wx e w3, Bel w2 wx → RStateE (wx.setCell ⟨y.a, 7, none⟩ (.slice aoV B'.length capV)) y.c G (.slice aoV B'.length capV) B' e w3 → ∃ n, e = .returned (.pointer (some ⟨n, 0, none⟩)) ∧ Bel w2 wx ∧ Bel (wx.setCell ⟨y.a, 7, none⟩ (.slice aoV B'.length capV)) w3 ∧ Hid (RDelta base M y w (.returned (.bool true)) (w3.setCell ⟨y.a, 8, none⟩ (.pointer (some ⟨n, 0, none⟩)))) := fun G hG wx e w3 b hr => by
      obtain ⟨n, h1, h2, h3, h4⟩ := hr.has (M := M) (by omega) (fun k hk => by have := HM.out k hk; have := HB1.out.size; have := b12.size; have := b.size; simp [World.setCell]; omega) (fun g hg e => by have := HV.out g hg; have := HM.out g e; omega)
      rw [hG] at h4
      exact ⟨n, h1, b, h2, H.out.done HB1.out HS2.out (b12.trans b) (RowAt.later HP2.out b) HV.out HG2.out h2 h4⟩
    rw [he]
    clear HS1 hsame hv HS2 HP2 HG2 HB1 HM hset
    rcases hH1 with ⟨hvs, hg⟩ | ⟨qs, Es, hvs, ⟨vB, vE, -, h6, -⟩, -⟩
    · rw [hvs] at n8
      have md1 := md 1 (by omega)
      have hr1 := hrs 1 (by omega)
      clear md hrs
      go_wp2_with fail
      refine (md1 _ (by (repeat (first | exact Bel.refl _ | assumption | refine Bel.step_alloc ?_ _ | refine Bel.step_drew ?_ | refine Bel.step_drewN ?_ _ | refine Bel.step_set ?_ (by simp <;> omega) _ | refine Bel.trans ?_ (by assumption))))).mono ?_
      intro e w3 hr
      obtain ⟨n, rfl, hb3, hb4, HR⟩ := hr1 _ _ _ (by (repeat (first | exact Bel.refl _ | assumption | refine Bel.step_alloc ?_ _ | refine Bel.step_drew ?_ | refine Bel.step_drewN ?_ _ | refine Bel.step_set ?_ (by simp <;> omega) _ | refine Bel.trans ?_ (by assumption)))) hr
      have x8 := hb4.cell ((set_other (by simp)).trans n8)
      have z8 := hb4.frozen ((set_other (by simp)).trans n8) (by rw [frozen_set]; exact d8)
      clear hr hr1 md1
      go_wp2
      go_ret
      exact HR.out
    · rw [hvs] at n8
      have s6 := b12.cell (mask_cell.1 h6).1
      have md1 := md (y.g + 1) rfl
      have hr1 := hrs (y.g + 1) rfl
      clear md hrs
      go_wp2_with fail
      refine (md1 _ (by (repeat (first | exact Bel.refl _ | assumption | refine Bel.step_alloc ?_ _ | refine Bel.step_drew ?_ | refine Bel.step_drewN ?_ _ | refine Bel.step_set ?_ (by simp <;> omega) _ | refine Bel.trans ?_ (by assumption))))).mono ?_
      intro e w3 hr
      obtain ⟨n, rfl, hb3, hb4, HR⟩ := hr1 _ _ _ (by (repeat (first | exact Bel.refl _ | assumption | refine Bel.step_alloc ?_ _ | refine Bel.step_drew ?_ | refine Bel.step_drewN ?_ _ | refine Bel.step_set ?_ (by simp <;> omega) _ | refine Bel.trans ?_ (by assumption)))) hr
      have x8 := hb4.cell ((set_other (by simp)).trans n8)
      have z8 := hb4.frozen ((set_other (by simp)).trans n8) (by rw [frozen_set]; exact d8)
      clear hr hr1 md1
      go_wp2
      go_ret
      exact HR.out
  · have hE : (addE y.B S wt == 0) = false := by rw [beq_eq_false_iff_ne]; exact he
    have HR : Hid (RDelta base M y w (.returned (.bool true)) w2) := by
      have hS2 := HS1.out
      rw [if_neg he, hsame.out he] at hS2
      exact H.out.same HB1.out hS2 b12
    clear hH1
    go_wp2
    go_ret
    first | exact HR.out | (simpa using HR.out)

set_option maxRecDepth 100000 in
set_option maxHeartbeats 2000000 in
theorem deltas_rem (base : Nat) (M : List Nat) (y : PrG) (A wt C : Int) (S : ByteArray) (w : World) (h : DPre base M y w) (hS : S.size ≤ maxLen) :
    Calls Tryz.prog 25 #[.pointer (some ⟨y.a, 0, none⟩), .agg #[.int .i64 5, .int .i64 A, .int .i64 wt, .int .i64 C, .string S]] w (RDelta base M y w) := by
  obtain ⟨n1, n2, n3⟩ := h.ne
  have H := Hid.mk h
  have hbl := h.2.2.1
  have hM := h.2.1
  have ha : y.a ∈ M := hbl _ (by simp [PrG.blocks])
  have hq : y.q ∈ M := hbl _ (by simp [PrG.blocks])
  have hlim := h.2.2.2.2
  obtain ⟨⟨hL, hSv, hPm, hG, hc, ⟨g0, g1, g2⟩, hH, -, -, -⟩, -⟩ := h
  have sv := fun wx (b : Bel w wx) => remove_is M y.q y.c y.B y.g S wx (hSv.later b) (fun k hk => Nat.lt_of_lt_of_le (hM k hk) b.size) hc hG g0 (by omega)
  have hqa : y.q ∉ [y.a] := by simpa using fun e => n1 e.symm
  have cg := fun wx (b : But [y.q] w wx) => changed_any y.B y.vb 5 A wt C S wx (hPm.later (b.mono (fun k hk => Or.inl (by rw [List.mem_singleton.1 hk]; exact hq)))).unmask hG.1.1 (by simp) hS
  have hHs := fun wx (b : But [y.q] w wx) => hH.later (b.mono (M' := M) (fun k hk => Or.inl (by rw [List.mem_singleton.1 hk]; exact hq)))
  have hqM : ∀ k ∈ [y.q], k ∈ M ∨ w.heap.size ≤ k := fun k hk => Or.inl (by rw [List.mem_singleton.1 hk]; exact hq)
  have c0 := hL.1 0 _ rfl
  have c1 := hL.1 1 _ rfl
  have c2 := hL.1 2 _ rfl
  have c3 := hL.1 3 _ rfl
  have c4 := hL.1 4 _ rfl
  have c5 := hL.1 5 _ rfl
  have c6 := hL.1 6 _ rfl
  have c7 := hL.1 7 _ rfl
  have c8 := hL.1 8 _ rfl
  have f7 := hL.2 7 (by simp [PrG.cells])
  have f8 := hL.2 8 (by simp [PrG.cells])
  have HL := Hid.mk hL
  have HG := Hid.mk hG
  have HCK := Hid.mk hc
  have HM := Hid.mk hM
  have haq : y.a ∉ [y.q] := by simpa using n1
  clear hL hSv hPm hG hc hH n2 n3 hbl hM hS
  go_enter Tryz.func25, Tryz.ntmps25
  go_wp2_with fail
  have o0 : (w.alloc (.cells #[.int .i64 5, .int .i64 A, .int .i64 wt, .int .i64 C, .string S] 28)).cell? ⟨w.heap.size, 0, none⟩ = some (.int .i64 5) := by simp
  have o1 : (w.alloc (.cells #[.int .i64 5, .int .i64 A, .int .i64 wt, .int .i64 C, .string S] 28)).cell? ⟨w.heap.size, 1, none⟩ = some (.int .i64 A) := by simp
  have o2 : (w.alloc (.cells #[.int .i64 5, .int .i64 A, .int .i64 wt, .int .i64 C, .string S] 28)).cell? ⟨w.heap.size, 2, none⟩ = some (.int .i64 wt) := by simp
  have o3 : (w.alloc (.cells #[.int .i64 5, .int .i64 A, .int .i64 wt, .int .i64 C, .string S] 28)).cell? ⟨w.heap.size, 3, none⟩ = some (.int .i64 C) := by simp
  have o4 : (w.alloc (.cells #[.int .i64 5, .int .i64 A, .int .i64 wt, .int .i64 C, .string S] 28)).cell? ⟨w.heap.size, 4, none⟩ = some (.string S) := by simp
  have hbo : Bel w (w.alloc (.cells #[.int .i64 5, .int .i64 A, .int .i64 wt, .int .i64 C, .string S] 28)) := Bel.step_alloc (Bel.refl w) _
  generalize (w.alloc (.cells #[.int .i64 5, .int .i64 A, .int .i64 wt, .int .i64 C, .string S] 28)) = wo at *
  have k0 := hbo.cell c0
  have hqs := HM.out _ hq
  have hoq : w.heap.size ∉ [y.q] := by simp; omega
  generalize w.heap.size = po at o0 o1 o2 o3 o4 hoq ⊢
  go_region_held3 (fun w' => But [y.q] wo w' ∧ w'.cell? ⟨y.a, 0, none⟩ = some (.pointer (some ⟨y.q, 0, none⟩)) ∧ w'.cell? ⟨po, 4, none⟩ = some (.string S) ∧ w'.cell? ⟨po, 2, none⟩ = some (.int .i64 wt)) ((exact ⟨by (repeat (first | exact But.refl _ _ | assumption | refine But.drew ?_ | refine But.drewN ?_ _ | refine But.alloc ?_ _ | refine But.set ?_ (by simp) _ | refine But.trans ?_ (by assumption) | refine But.step ?_ (by assumption))), But.cell (w := wo) (by (repeat (first | exact But.refl _ _ | assumption | refine But.drew ?_ | refine But.drewN ?_ _ | refine But.alloc ?_ _ | refine But.set ?_ (by simp) _ | refine But.trans ?_ (by assumption) | refine But.step ?_ (by assumption)))) k0 haq, But.cell (w := wo) (by (repeat (first | exact But.refl _ _ | assumption | refine But.drew ?_ | refine But.drewN ?_ _ | refine But.alloc ?_ _ | refine But.set ?_ (by simp) _ | refine But.trans ?_ (by assumption) | refine But.step ?_ (by assumption)))) o4 hoq, But.cell (w := wo) (by (repeat (first | exact But.refl _ _ | assumption | refine But.drew ?_ | refine But.drewN ?_ _ | refine But.alloc ?_ _ | refine But.set ?_ (by simp) _ | refine But.trans ?_ (by assumption) | refine But.step ?_ (by assumption)))) o2 hoq⟩)) ((go_at_call 49; refine (sv _ (by (repeat (first | exact Bel.refl _ | assumption | refine Bel.step_alloc ?_ _ | refine Bel.step_drew ?_ | refine Bel.step_drewN ?_ _ | refine Bel.step_set ?_ (by simp <;> omega) _ | refine Bel.trans ?_ (by assumption))))).mono ?_; rintro e w1 ⟨rfl, b1, hS1⟩))
  have bo1 : But [y.q] wo w1 := by (repeat (first | exact But.refl _ _ | assumption | refine But.drew ?_ | refine But.drewN ?_ _ | refine But.alloc ?_ _ | refine But.set ?_ (by simp) _ | refine But.trans ?_ (by assumption) | refine But.step ?_ (by assumption)))
  have bw1 : But [y.q] w w1 := (But.of_bel hbo).trans bo1
  have m0 := bw1.cell c0 haq
  have m1 := bw1.cell c1 haq
  have m2 := bw1.cell c2 haq
  have m3 := bw1.cell c3 haq
  have m4 := bw1.cell c4 haq
  have m5 := bw1.cell c5 haq
  have m6 := bw1.cell c6 haq
  have m7 := bw1.cell c7 haq
  have m8 := bw1.cell c8 haq
  have e7 := bw1.frozen c7 haq f7
  have e8 := bw1.frozen c8 haq f8
  have p0 := bo1.cell o0 hoq
  have p1 := bo1.cell o1 hoq
  have p2 := bo1.cell o2 hoq
  have p3 := bo1.cell o3 hoq
  have p4 := bo1.cell o4 hoq
  have hH1 := hHs w1 bw1
  have cg1 := cg
  have HB1 := Hid.mk bw1
  clear c0 c1 c2 c3 c4 c5 c6 c7 c8 f7 f8 o0 o1 o2 o3 o4 k0 b1 bo1 sv cg hHs hbo
  go_wp2_with fail
  go_region_held3 (fun w' => Bel w1 w' ∧ w'.cell? ⟨y.a, 7, none⟩ = some y.vb ∧ w'.cell? ⟨po, 0, none⟩ = some (.int .i64 5) ∧ w'.cell? ⟨po, 1, none⟩ = some (.int .i64 A) ∧ w'.cell? ⟨po, 2, none⟩ = some (.int .i64 wt) ∧ w'.cell? ⟨po, 3, none⟩ = some (.int .i64 C) ∧ w'.cell? ⟨po, 4, none⟩ = some (.string S)) ((exact ⟨by (repeat (first | exact Bel.refl _ | assumption | refine Bel.step_alloc ?_ _ | refine Bel.step_drew ?_ | refine Bel.step_drewN ?_ _ | refine Bel.step_set ?_ (by simp <;> omega) _ | refine Bel.trans ?_ (by assumption))), Bel.cell (a := w1) (by (repeat (first | exact Bel.refl _ | assumption | refine Bel.step_alloc ?_ _ | refine Bel.step_drew ?_ | refine Bel.step_drewN ?_ _ | refine Bel.step_set ?_ (by simp <;> omega) _ | refine Bel.trans ?_ (by assumption)))) m7, Bel.cell (a := w1) (by (repeat (first | exact Bel.refl _ | assumption | refine Bel.step_alloc ?_ _ | refine Bel.step_drew ?_ | refine Bel.step_drewN ?_ _ | refine Bel.step_set ?_ (by simp <;> omega) _ | refine Bel.trans ?_ (by assumption)))) p0, Bel.cell (a := w1) (by (repeat (first | exact Bel.refl _ | assumption | refine Bel.step_alloc ?_ _ | refine Bel.step_drew ?_ | refine Bel.step_drewN ?_ _ | refine Bel.step_set ?_ (by simp <;> omega) _ | refine Bel.trans ?_ (by assumption)))) p1, Bel.cell (a := w1) (by (repeat (first | exact Bel.refl _ | assumption | refine Bel.step_alloc ?_ _ | refine Bel.step_drew ?_ | refine Bel.step_drewN ?_ _ | refine Bel.step_set ?_ (by simp <;> omega) _ | refine Bel.trans ?_ (by assumption)))) p2, Bel.cell (a := w1) (by (repeat (first | exact Bel.refl _ | assumption | refine Bel.step_alloc ?_ _ | refine Bel.step_drew ?_ | refine Bel.step_drewN ?_ _ | refine Bel.step_set ?_ (by simp <;> omega) _ | refine Bel.trans ?_ (by assumption)))) p3, Bel.cell (a := w1) (by (repeat (first | exact Bel.refl _ | assumption | refine Bel.step_alloc ?_ _ | refine Bel.step_drew ?_ | refine Bel.step_drewN ?_ _ | refine Bel.step_set ?_ (by simp <;> omega) _ | refine Bel.trans ?_ (by assumption)))) p4⟩)) ((go_at_call 51; refine (cg1 _ (bw1.step (by (repeat (first | exact Bel.refl _ | assumption | refine Bel.step_alloc ?_ _ | refine Bel.step_drew ?_ | refine Bel.step_drewN ?_ _ | refine Bel.step_set ?_ (by simp <;> omega) _ | refine Bel.trans ?_ (by assumption)))))).mono ?_; rintro e w2 ⟨v, k, there, err, rfl, b2, hF, hP2, herr, hnew⟩; have HQ : Hid (FindIs y.B S k there ∧ PoolAt w2 v (chg y.B 5 S wt k there).1 ∧ err = (chg y.B 5 S wt k there).2 ∧ (err = 0 → ∀ g, v.ownBlock = some g → w1.heap.size ≤ g)) := ⟨hF, hP2, herr, hnew⟩; clear hF hP2 herr hnew))
  obtain ⟨hF, hP2, herr, hnew⟩ := HQ.out
  clear HQ
  have b12 : Bel w1 w2 := by (repeat (first | exact Bel.refl _ | assumption | refine Bel.step_alloc ?_ _ | refine Bel.step_drew ?_ | refine Bel.step_drewN ?_ _ | refine Bel.step_set ?_ (by simp <;> omega) _ | refine Bel.trans ?_ (by assumption)))
  have hch := chg_rem (n := wt) HG.out hF
  rw [hch] at hP2 herr
  simp only at hP2 herr
  subst herr
  obtain ⟨aoV, capV, rfl⟩ : ∃ ao cap, v = .slice ao (remB y.B S).length cap := by
    obtain ⟨ao, cap, h, _⟩ := hP2.open
    exact ⟨ao, cap, h⟩
  have hv : remE y.B S = 0 → Hid (∀ g, (Value.slice aoV (remB y.B S).length capV).ownBlock = some g → w.heap.size ≤ g) := fun h0 g hg => Nat.le_trans HB1.out.size (hnew h0 g hg)
  have hG2 := HG.out.rem S
  have hsame : Hid (¬ remE y.B S = 0 → remB y.B S = y.B) := fun h0 => by simp [remB, h0]
  have HP2 := Hid.mk hP2
  have HG2 := Hid.mk hG2
  have HS1 := Hid.mk hS1
  clear hP2 hG2 hS1 hnew hF hch cg1 b2 bw1
  generalize remB y.B S = B' at *
  have n7 := b12.cell m7
  have n8 := b12.cell m8
  have n1' := b12.cell m1
  have n2' := b12.cell m2
  have n3' := b12.cell m3
  have n4' := b12.cell m4
  have n5' := b12.cell m5
  have n6' := b12.cell m6
  have d7 := b12.frozen m7 e7
  have d8 := b12.frozen m8 e8
  clear m0 m1 m2 m3 m4 m5 m6 m7 m8 e7 e8 p0 p1 p2 p3 p4
  have halt : y.a < w2.heap.size := World.block_lt_of_cell? w2 _ n7
  by_cases he : remE y.B S = 0
  · have HS2 : Hid (SvcAt M y.q y.c B' (y.g + 1) w1) := by have := HS1.out; rw [if_pos he] at this; exact this
    have HV := hv he
    have hset : ∀ wx, Bel w2 wx → Hid (But [y.a] w2 (wx.setCell ⟨y.a, 7, none⟩ (.slice aoV B'.length capV))) := fun wx b => ((But.of_bel b).set (by simp) _)
    have md : ∀ (G : Int), G = y.g + 1 → ∀ wx, Bel w2 wx → Calls Tryz.prog 52 #[.agg #[.int .i64 y.c.alg, .int .i64 y.c.slots, .int .i64 y.c.points, .int .i64 y.c.probes, .string y.c.key, .int .i64 y.c.formats], .int .i64 G, .slice aoV B'.length capV] (wx.setCell ⟨y.a, 7, none⟩ (.slice aoV B'.length capV)) (RStateE (wx.setCell ⟨y.a, 7, none⟩ (.slice aoV B'.length capV)) y.c G (.slice aoV B'.length capV) B') := fun G hG wx b => dmade_is y.c G (.slice aoV B'.length capV) B' _ HCK.out (RowAt.but HP2.out (hset wx b).out (fun g hg e => by have := HV.out g hg; have := H.out.mem.2.2.1; have := List.mem_singleton.1 e; omega)) HG2.out.1 ⟨by omega, by omega⟩
    have hrs : ∀ (G : Int), G = y.g + 1 → ∀ wx e w3, Bel w2 wx → RStateE (wx.setCell ⟨y.a, 7, none⟩ (.slice aoV B'.length capV)) y.c G (.slice aoV B'.length capV) B' e w3 → ∃ n, e = .returned (.pointer (some ⟨n, 0, none⟩)) ∧ Bel w2 wx ∧ Bel (wx.setCell ⟨y.a, 7, none⟩ (.slice aoV B'.length capV)) w3 ∧ Hid (RDelta base M y w (.returned (.bool true)) (w3.setCell ⟨y.a, 8, none⟩ (.pointer (some ⟨n, 0, none⟩)))) := fun G hG wx e w3 b hr => by
      obtain ⟨n, h1, h2, h3, h4⟩ := hr.has (M := M) (by omega) (fun k hk => by have := HM.out k hk; have := HB1.out.size; have := b12.size; have := b.size; simp [World.setCell]; omega) (fun g hg e => by have := HV.out g hg; have := HM.out g e; omega)
      rw [hG] at h4
      exact ⟨n, h1, b, h2, H.out.done HB1.out HS2.out (b12.trans b) (RowAt.later HP2.out b) HV.out HG2.out h2 h4⟩
    rw [he]
    clear HS1 hsame hv HS2 HP2 HG2 HB1 HM hset
    rcases hH1 with ⟨hvs, hg⟩ | ⟨qs, Es, hvs, ⟨vB, vE, -, h6, -⟩, -⟩
    · rw [hvs] at n8
      have md1 := md 1 (by omega)
      have hr1 := hrs 1 (by omega)
      clear md hrs
      go_wp2_with fail
      refine (md1 _ (by (repeat (first | exact Bel.refl _ | assumption | refine Bel.step_alloc ?_ _ | refine Bel.step_drew ?_ | refine Bel.step_drewN ?_ _ | refine Bel.step_set ?_ (by simp <;> omega) _ | refine Bel.trans ?_ (by assumption))))).mono ?_
      intro e w3 hr
      obtain ⟨n, rfl, hb3, hb4, HR⟩ := hr1 _ _ _ (by (repeat (first | exact Bel.refl _ | assumption | refine Bel.step_alloc ?_ _ | refine Bel.step_drew ?_ | refine Bel.step_drewN ?_ _ | refine Bel.step_set ?_ (by simp <;> omega) _ | refine Bel.trans ?_ (by assumption)))) hr
      have x8 := hb4.cell ((set_other (by simp)).trans n8)
      have z8 := hb4.frozen ((set_other (by simp)).trans n8) (by rw [frozen_set]; exact d8)
      clear hr hr1 md1
      go_wp2
      go_ret
      exact HR.out
    · rw [hvs] at n8
      have s6 := b12.cell (mask_cell.1 h6).1
      have md1 := md (y.g + 1) rfl
      have hr1 := hrs (y.g + 1) rfl
      clear md hrs
      go_wp2_with fail
      refine (md1 _ (by (repeat (first | exact Bel.refl _ | assumption | refine Bel.step_alloc ?_ _ | refine Bel.step_drew ?_ | refine Bel.step_drewN ?_ _ | refine Bel.step_set ?_ (by simp <;> omega) _ | refine Bel.trans ?_ (by assumption))))).mono ?_
      intro e w3 hr
      obtain ⟨n, rfl, hb3, hb4, HR⟩ := hr1 _ _ _ (by (repeat (first | exact Bel.refl _ | assumption | refine Bel.step_alloc ?_ _ | refine Bel.step_drew ?_ | refine Bel.step_drewN ?_ _ | refine Bel.step_set ?_ (by simp <;> omega) _ | refine Bel.trans ?_ (by assumption)))) hr
      have x8 := hb4.cell ((set_other (by simp)).trans n8)
      have z8 := hb4.frozen ((set_other (by simp)).trans n8) (by rw [frozen_set]; exact d8)
      clear hr hr1 md1
      go_wp2
      go_ret
      exact HR.out
  · have hE : (remE y.B S == 0) = false := by rw [beq_eq_false_iff_ne]; exact he
    have HR : Hid (RDelta base M y w (.returned (.bool true)) w2) := by
      have hS2 := HS1.out
      rw [if_neg he, hsame.out he] at hS2
      exact H.out.same HB1.out hS2 b12
    clear hH1
    go_wp2
    go_ret
    first | exact HR.out | (simpa using HR.out)

set_option maxRecDepth 100000 in
set_option maxHeartbeats 2000000 in
theorem deltas_set (base : Nat) (M : List Nat) (y : PrG) (A wt C : Int) (S : ByteArray) (w : World) (h : DPre base M y w) (hS : S.size ≤ maxLen) :
    Calls Tryz.prog 25 #[.pointer (some ⟨y.a, 0, none⟩), .agg #[.int .i64 6, .int .i64 A, .int .i64 wt, .int .i64 C, .string S]] w (RDelta base M y w) := by
  obtain ⟨n1, n2, n3⟩ := h.ne
  have H := Hid.mk h
  have hbl := h.2.2.1
  have hM := h.2.1
  have ha : y.a ∈ M := hbl _ (by simp [PrG.blocks])
  have hq : y.q ∈ M := hbl _ (by simp [PrG.blocks])
  have hlim := h.2.2.2.2
  obtain ⟨⟨hL, hSv, hPm, hG, hc, ⟨g0, g1, g2⟩, hH, -, -, -⟩, -⟩ := h
  have sv := fun wx (b : Bel w wx) => set_is M y.q y.c y.B y.g S wt wx (hSv.later b) (fun k hk => Nat.lt_of_lt_of_le (hM k hk) b.size) hc hG g0 (by omega)
  have hqa : y.q ∉ [y.a] := by simpa using fun e => n1 e.symm
  have cg := fun wx (b : But [y.q] w wx) => changed_any y.B y.vb 6 A wt C S wx (hPm.later (b.mono (fun k hk => Or.inl (by rw [List.mem_singleton.1 hk]; exact hq)))).unmask hG.1.1 (by simp) hS
  have hHs := fun wx (b : But [y.q] w wx) => hH.later (b.mono (M' := M) (fun k hk => Or.inl (by rw [List.mem_singleton.1 hk]; exact hq)))
  have hqM : ∀ k ∈ [y.q], k ∈ M ∨ w.heap.size ≤ k := fun k hk => Or.inl (by rw [List.mem_singleton.1 hk]; exact hq)
  have c0 := hL.1 0 _ rfl
  have c1 := hL.1 1 _ rfl
  have c2 := hL.1 2 _ rfl
  have c3 := hL.1 3 _ rfl
  have c4 := hL.1 4 _ rfl
  have c5 := hL.1 5 _ rfl
  have c6 := hL.1 6 _ rfl
  have c7 := hL.1 7 _ rfl
  have c8 := hL.1 8 _ rfl
  have f7 := hL.2 7 (by simp [PrG.cells])
  have f8 := hL.2 8 (by simp [PrG.cells])
  have HL := Hid.mk hL
  have HG := Hid.mk hG
  have HCK := Hid.mk hc
  have HM := Hid.mk hM
  have haq : y.a ∉ [y.q] := by simpa using n1
  clear hL hSv hPm hG hc hH n2 n3 hbl hM hS
  go_enter Tryz.func25, Tryz.ntmps25
  go_wp2_with fail
  have o0 : (w.alloc (.cells #[.int .i64 6, .int .i64 A, .int .i64 wt, .int .i64 C, .string S] 28)).cell? ⟨w.heap.size, 0, none⟩ = some (.int .i64 6) := by simp
  have o1 : (w.alloc (.cells #[.int .i64 6, .int .i64 A, .int .i64 wt, .int .i64 C, .string S] 28)).cell? ⟨w.heap.size, 1, none⟩ = some (.int .i64 A) := by simp
  have o2 : (w.alloc (.cells #[.int .i64 6, .int .i64 A, .int .i64 wt, .int .i64 C, .string S] 28)).cell? ⟨w.heap.size, 2, none⟩ = some (.int .i64 wt) := by simp
  have o3 : (w.alloc (.cells #[.int .i64 6, .int .i64 A, .int .i64 wt, .int .i64 C, .string S] 28)).cell? ⟨w.heap.size, 3, none⟩ = some (.int .i64 C) := by simp
  have o4 : (w.alloc (.cells #[.int .i64 6, .int .i64 A, .int .i64 wt, .int .i64 C, .string S] 28)).cell? ⟨w.heap.size, 4, none⟩ = some (.string S) := by simp
  have hbo : Bel w (w.alloc (.cells #[.int .i64 6, .int .i64 A, .int .i64 wt, .int .i64 C, .string S] 28)) := Bel.step_alloc (Bel.refl w) _
  generalize (w.alloc (.cells #[.int .i64 6, .int .i64 A, .int .i64 wt, .int .i64 C, .string S] 28)) = wo at *
  have k0 := hbo.cell c0
  have hqs := HM.out _ hq
  have hoq : w.heap.size ∉ [y.q] := by simp; omega
  generalize w.heap.size = po at o0 o1 o2 o3 o4 hoq ⊢
  go_region_held3 (fun w' => But [y.q] wo w' ∧ w'.cell? ⟨y.a, 0, none⟩ = some (.pointer (some ⟨y.q, 0, none⟩)) ∧ w'.cell? ⟨po, 4, none⟩ = some (.string S) ∧ w'.cell? ⟨po, 2, none⟩ = some (.int .i64 wt)) ((exact ⟨by (repeat (first | exact But.refl _ _ | assumption | refine But.drew ?_ | refine But.drewN ?_ _ | refine But.alloc ?_ _ | refine But.set ?_ (by simp) _ | refine But.trans ?_ (by assumption) | refine But.step ?_ (by assumption))), But.cell (w := wo) (by (repeat (first | exact But.refl _ _ | assumption | refine But.drew ?_ | refine But.drewN ?_ _ | refine But.alloc ?_ _ | refine But.set ?_ (by simp) _ | refine But.trans ?_ (by assumption) | refine But.step ?_ (by assumption)))) k0 haq, But.cell (w := wo) (by (repeat (first | exact But.refl _ _ | assumption | refine But.drew ?_ | refine But.drewN ?_ _ | refine But.alloc ?_ _ | refine But.set ?_ (by simp) _ | refine But.trans ?_ (by assumption) | refine But.step ?_ (by assumption)))) o4 hoq, But.cell (w := wo) (by (repeat (first | exact But.refl _ _ | assumption | refine But.drew ?_ | refine But.drewN ?_ _ | refine But.alloc ?_ _ | refine But.set ?_ (by simp) _ | refine But.trans ?_ (by assumption) | refine But.step ?_ (by assumption)))) o2 hoq⟩)) ((go_at_call 50; refine (sv _ (by (repeat (first | exact Bel.refl _ | assumption | refine Bel.step_alloc ?_ _ | refine Bel.step_drew ?_ | refine Bel.step_drewN ?_ _ | refine Bel.step_set ?_ (by simp <;> omega) _ | refine Bel.trans ?_ (by assumption))))).mono ?_; rintro e w1 ⟨rfl, b1, hS1⟩))
  have bo1 : But [y.q] wo w1 := by (repeat (first | exact But.refl _ _ | assumption | refine But.drew ?_ | refine But.drewN ?_ _ | refine But.alloc ?_ _ | refine But.set ?_ (by simp) _ | refine But.trans ?_ (by assumption) | refine But.step ?_ (by assumption)))
  have bw1 : But [y.q] w w1 := (But.of_bel hbo).trans bo1
  have m0 := bw1.cell c0 haq
  have m1 := bw1.cell c1 haq
  have m2 := bw1.cell c2 haq
  have m3 := bw1.cell c3 haq
  have m4 := bw1.cell c4 haq
  have m5 := bw1.cell c5 haq
  have m6 := bw1.cell c6 haq
  have m7 := bw1.cell c7 haq
  have m8 := bw1.cell c8 haq
  have e7 := bw1.frozen c7 haq f7
  have e8 := bw1.frozen c8 haq f8
  have p0 := bo1.cell o0 hoq
  have p1 := bo1.cell o1 hoq
  have p2 := bo1.cell o2 hoq
  have p3 := bo1.cell o3 hoq
  have p4 := bo1.cell o4 hoq
  have hH1 := hHs w1 bw1
  have cg1 := cg
  have HB1 := Hid.mk bw1
  clear c0 c1 c2 c3 c4 c5 c6 c7 c8 f7 f8 o0 o1 o2 o3 o4 k0 b1 bo1 sv cg hHs hbo
  go_wp2_with fail
  go_region_held3 (fun w' => Bel w1 w' ∧ w'.cell? ⟨y.a, 7, none⟩ = some y.vb ∧ w'.cell? ⟨po, 0, none⟩ = some (.int .i64 6) ∧ w'.cell? ⟨po, 1, none⟩ = some (.int .i64 A) ∧ w'.cell? ⟨po, 2, none⟩ = some (.int .i64 wt) ∧ w'.cell? ⟨po, 3, none⟩ = some (.int .i64 C) ∧ w'.cell? ⟨po, 4, none⟩ = some (.string S)) ((exact ⟨by (repeat (first | exact Bel.refl _ | assumption | refine Bel.step_alloc ?_ _ | refine Bel.step_drew ?_ | refine Bel.step_drewN ?_ _ | refine Bel.step_set ?_ (by simp <;> omega) _ | refine Bel.trans ?_ (by assumption))), Bel.cell (a := w1) (by (repeat (first | exact Bel.refl _ | assumption | refine Bel.step_alloc ?_ _ | refine Bel.step_drew ?_ | refine Bel.step_drewN ?_ _ | refine Bel.step_set ?_ (by simp <;> omega) _ | refine Bel.trans ?_ (by assumption)))) m7, Bel.cell (a := w1) (by (repeat (first | exact Bel.refl _ | assumption | refine Bel.step_alloc ?_ _ | refine Bel.step_drew ?_ | refine Bel.step_drewN ?_ _ | refine Bel.step_set ?_ (by simp <;> omega) _ | refine Bel.trans ?_ (by assumption)))) p0, Bel.cell (a := w1) (by (repeat (first | exact Bel.refl _ | assumption | refine Bel.step_alloc ?_ _ | refine Bel.step_drew ?_ | refine Bel.step_drewN ?_ _ | refine Bel.step_set ?_ (by simp <;> omega) _ | refine Bel.trans ?_ (by assumption)))) p1, Bel.cell (a := w1) (by (repeat (first | exact Bel.refl _ | assumption | refine Bel.step_alloc ?_ _ | refine Bel.step_drew ?_ | refine Bel.step_drewN ?_ _ | refine Bel.step_set ?_ (by simp <;> omega) _ | refine Bel.trans ?_ (by assumption)))) p2, Bel.cell (a := w1) (by (repeat (first | exact Bel.refl _ | assumption | refine Bel.step_alloc ?_ _ | refine Bel.step_drew ?_ | refine Bel.step_drewN ?_ _ | refine Bel.step_set ?_ (by simp <;> omega) _ | refine Bel.trans ?_ (by assumption)))) p3, Bel.cell (a := w1) (by (repeat (first | exact Bel.refl _ | assumption | refine Bel.step_alloc ?_ _ | refine Bel.step_drew ?_ | refine Bel.step_drewN ?_ _ | refine Bel.step_set ?_ (by simp <;> omega) _ | refine Bel.trans ?_ (by assumption)))) p4⟩)) ((go_at_call 51; refine (cg1 _ (bw1.step (by (repeat (first | exact Bel.refl _ | assumption | refine Bel.step_alloc ?_ _ | refine Bel.step_drew ?_ | refine Bel.step_drewN ?_ _ | refine Bel.step_set ?_ (by simp <;> omega) _ | refine Bel.trans ?_ (by assumption)))))).mono ?_; rintro e w2 ⟨v, k, there, err, rfl, b2, hF, hP2, herr, hnew⟩; have HQ : Hid (FindIs y.B S k there ∧ PoolAt w2 v (chg y.B 6 S wt k there).1 ∧ err = (chg y.B 6 S wt k there).2 ∧ (err = 0 → ∀ g, v.ownBlock = some g → w1.heap.size ≤ g)) := ⟨hF, hP2, herr, hnew⟩; clear hF hP2 herr hnew))
  obtain ⟨hF, hP2, herr, hnew⟩ := HQ.out
  clear HQ
  have b12 : Bel w1 w2 := by (repeat (first | exact Bel.refl _ | assumption | refine Bel.step_alloc ?_ _ | refine Bel.step_drew ?_ | refine Bel.step_drewN ?_ _ | refine Bel.step_set ?_ (by simp <;> omega) _ | refine Bel.trans ?_ (by assumption)))
  have hch := chg_set (n := wt) HG.out hF
  rw [hch] at hP2 herr
  simp only at hP2 herr
  subst herr
  obtain ⟨aoV, capV, rfl⟩ : ∃ ao cap, v = .slice ao (setB y.B S wt).length cap := by
    obtain ⟨ao, cap, h, _⟩ := hP2.open
    exact ⟨ao, cap, h⟩
  have hv : setE y.B S wt = 0 → Hid (∀ g, (Value.slice aoV (setB y.B S wt).length capV).ownBlock = some g → w.heap.size ≤ g) := fun h0 g hg => Nat.le_trans HB1.out.size (hnew h0 g hg)
  have hG2 := HG.out.set S wt
  have hsame : Hid (¬ setE y.B S wt = 0 → setB y.B S wt = y.B) := fun h0 => by simp [setB, h0]
  have HP2 := Hid.mk hP2
  have HG2 := Hid.mk hG2
  have HS1 := Hid.mk hS1
  clear hP2 hG2 hS1 hnew hF hch cg1 b2 bw1
  generalize setB y.B S wt = B' at *
  have n7 := b12.cell m7
  have n8 := b12.cell m8
  have n1' := b12.cell m1
  have n2' := b12.cell m2
  have n3' := b12.cell m3
  have n4' := b12.cell m4
  have n5' := b12.cell m5
  have n6' := b12.cell m6
  have d7 := b12.frozen m7 e7
  have d8 := b12.frozen m8 e8
  clear m0 m1 m2 m3 m4 m5 m6 m7 m8 e7 e8 p0 p1 p2 p3 p4
  have halt : y.a < w2.heap.size := World.block_lt_of_cell? w2 _ n7
  by_cases he : setE y.B S wt = 0
  · have HS2 : Hid (SvcAt M y.q y.c B' (y.g + 1) w1) := by have := HS1.out; rw [if_pos he] at this; exact this
    have HV := hv he
    have hset : ∀ wx, Bel w2 wx → Hid (But [y.a] w2 (wx.setCell ⟨y.a, 7, none⟩ (.slice aoV B'.length capV))) := fun wx b => ((But.of_bel b).set (by simp) _)
    have md : ∀ (G : Int), G = y.g + 1 → ∀ wx, Bel w2 wx → Calls Tryz.prog 52 #[.agg #[.int .i64 y.c.alg, .int .i64 y.c.slots, .int .i64 y.c.points, .int .i64 y.c.probes, .string y.c.key, .int .i64 y.c.formats], .int .i64 G, .slice aoV B'.length capV] (wx.setCell ⟨y.a, 7, none⟩ (.slice aoV B'.length capV)) (RStateE (wx.setCell ⟨y.a, 7, none⟩ (.slice aoV B'.length capV)) y.c G (.slice aoV B'.length capV) B') := fun G hG wx b => dmade_is y.c G (.slice aoV B'.length capV) B' _ HCK.out (RowAt.but HP2.out (hset wx b).out (fun g hg e => by have := HV.out g hg; have := H.out.mem.2.2.1; have := List.mem_singleton.1 e; omega)) HG2.out.1 ⟨by omega, by omega⟩
    have hrs : ∀ (G : Int), G = y.g + 1 → ∀ wx e w3, Bel w2 wx → RStateE (wx.setCell ⟨y.a, 7, none⟩ (.slice aoV B'.length capV)) y.c G (.slice aoV B'.length capV) B' e w3 → ∃ n, e = .returned (.pointer (some ⟨n, 0, none⟩)) ∧ Bel w2 wx ∧ Bel (wx.setCell ⟨y.a, 7, none⟩ (.slice aoV B'.length capV)) w3 ∧ Hid (RDelta base M y w (.returned (.bool true)) (w3.setCell ⟨y.a, 8, none⟩ (.pointer (some ⟨n, 0, none⟩)))) := fun G hG wx e w3 b hr => by
      obtain ⟨n, h1, h2, h3, h4⟩ := hr.has (M := M) (by omega) (fun k hk => by have := HM.out k hk; have := HB1.out.size; have := b12.size; have := b.size; simp [World.setCell]; omega) (fun g hg e => by have := HV.out g hg; have := HM.out g e; omega)
      rw [hG] at h4
      exact ⟨n, h1, b, h2, H.out.done HB1.out HS2.out (b12.trans b) (RowAt.later HP2.out b) HV.out HG2.out h2 h4⟩
    rw [he]
    clear HS1 hsame hv HS2 HP2 HG2 HB1 HM hset
    rcases hH1 with ⟨hvs, hg⟩ | ⟨qs, Es, hvs, ⟨vB, vE, -, h6, -⟩, -⟩
    · rw [hvs] at n8
      have md1 := md 1 (by omega)
      have hr1 := hrs 1 (by omega)
      clear md hrs
      go_wp2_with fail
      refine (md1 _ (by (repeat (first | exact Bel.refl _ | assumption | refine Bel.step_alloc ?_ _ | refine Bel.step_drew ?_ | refine Bel.step_drewN ?_ _ | refine Bel.step_set ?_ (by simp <;> omega) _ | refine Bel.trans ?_ (by assumption))))).mono ?_
      intro e w3 hr
      obtain ⟨n, rfl, hb3, hb4, HR⟩ := hr1 _ _ _ (by (repeat (first | exact Bel.refl _ | assumption | refine Bel.step_alloc ?_ _ | refine Bel.step_drew ?_ | refine Bel.step_drewN ?_ _ | refine Bel.step_set ?_ (by simp <;> omega) _ | refine Bel.trans ?_ (by assumption)))) hr
      have x8 := hb4.cell ((set_other (by simp)).trans n8)
      have z8 := hb4.frozen ((set_other (by simp)).trans n8) (by rw [frozen_set]; exact d8)
      clear hr hr1 md1
      go_wp2
      go_ret
      exact HR.out
    · rw [hvs] at n8
      have s6 := b12.cell (mask_cell.1 h6).1
      have md1 := md (y.g + 1) rfl
      have hr1 := hrs (y.g + 1) rfl
      clear md hrs
      go_wp2_with fail
      refine (md1 _ (by (repeat (first | exact Bel.refl _ | assumption | refine Bel.step_alloc ?_ _ | refine Bel.step_drew ?_ | refine Bel.step_drewN ?_ _ | refine Bel.step_set ?_ (by simp <;> omega) _ | refine Bel.trans ?_ (by assumption))))).mono ?_
      intro e w3 hr
      obtain ⟨n, rfl, hb3, hb4, HR⟩ := hr1 _ _ _ (by (repeat (first | exact Bel.refl _ | assumption | refine Bel.step_alloc ?_ _ | refine Bel.step_drew ?_ | refine Bel.step_drewN ?_ _ | refine Bel.step_set ?_ (by simp <;> omega) _ | refine Bel.trans ?_ (by assumption)))) hr
      have x8 := hb4.cell ((set_other (by simp)).trans n8)
      have z8 := hb4.frozen ((set_other (by simp)).trans n8) (by rw [frozen_set]; exact d8)
      clear hr hr1 md1
      go_wp2
      go_ret
      exact HR.out
  · have hE : (setE y.B S wt == 0) = false := by rw [beq_eq_false_iff_ne]; exact he
    have HR : Hid (RDelta base M y w (.returned (.bool true)) w2) := by
      have hS2 := HS1.out
      rw [if_neg he, hsame.out he] at hS2
      exact H.out.same HB1.out hS2 b12
    clear hH1
    go_wp2
    go_ret
    first | exact HR.out | (simpa using HR.out)

end Go.Proofs.YtgfildmmcbjpnabGreat
