import Derived.Test.YtgfildmmcbjpnabGreatLAP
namespace Go.Proofs.YtgfildmmcbjpnabGreat
open Go.RowKit

theorem digits114211 : Digits ⟨#[49, 49, 52, 50, 49, 49]⟩ := digits_of [49, 49, 52, 50, 49, 49] (by decide)
theorem bits01_zero {s : ByteArray} (h : Bits01 s) : Bits01 (s ++ ⟨#[48]⟩) := bits01_snoc (n := 48) h (Or.inl rfl)
theorem pow2_8 (q : Nat) (h : q ≤ 8) : (2 : Int) ^ q ≤ 256 := by
  rcases (show q = 0 ∨ q = 1 ∨ q = 2 ∨ q = 3 ∨ q = 4 ∨ q = 5 ∨ q = 6 ∨ q = 7 ∨ q = 8 by omega) with rfl | rfl | rfl | rfl | rfl | rfl | rfl | rfl | rfl <;> decide

set_option maxRecDepth 100000 in
set_option maxHeartbeats 1600000 in
theorem packed_1 (p : Nat) (c : Cfg) (gen : Int) (B : List BK) (E : List EN) (w : World) (h : StateAt w p c gen B E) (hBl : 0 ≤ B.length) (hB : B.length ≤ 2) (hL : E.length ≤ 140000) (hid : ∀ x ∈ E, (∃ b ∈ B, b.1 = x.1)) :
    Calls Tryz.prog 86 #[.pointer (some ⟨p, 0, none⟩)] w (RStr w fun s => s.size ≤ 1300000) := by
  have h0 := h
  obtain ⟨vB, vE, _, _, h7, h8, hpB, hpE⟩ := h
  obtain ⟨aoB, capB, rfl⟩ : ∃ ao cap, vB = .slice ao B.length cap := by
    rcases hpB.form with ⟨rfl, rfl⟩ | ⟨g, cap, rfl, _⟩
    · exact ⟨_, _, rfl⟩
    · exact ⟨_, _, rfl⟩
  obtain ⟨ao, cap, rfl, hc⟩ := hpE.off
  clear hpB hpE
  go_enter Tryz.func86, Tryz.ntmps86
  go_wp2
  refine wp_loop_rounds 1 ?_
  rw [rounds_succ]
  go_wp2_with fail
  go_quiet (fail)
  go_wp2_with fail
  refine (pointed_any p c gen B E _ (h0.later (by (repeat (first | exact Bel.refl _ | assumption | refine Bel.step_alloc ?_ _ | refine Bel.step_drew ?_ | refine Bel.step_drewN ?_ _ | refine Bel.step_set ?_ (by simp <;> omega) _ | refine Bel.trans ?_ (by assumption)))))).mono ?_
  rintro e w1 ⟨pb, rfl, hb1, -⟩
  have hbw : Bel w w1 := by (repeat (first | exact Bel.refl _ | assumption | refine Bel.step_alloc ?_ _ | refine Bel.step_drew ?_ | refine Bel.step_drewN ?_ _ | refine Bel.step_set ?_ (by simp <;> omega) _ | refine Bel.trans ?_ (by assumption)))
  clear hb1
  go_wp2_with fail
  go_loopg [5, 6] E.length (fun r t i wr => ∃ (x : ByteArray) (k : Nat), k ≤ E.length ∧ r = E.length - k ∧ t = .string x ∧ i = .int .i64 k ∧ x.size ≤ 67 * k ∧ Bits01 x ∧ Bel w wr)
  case atStart => exact ⟨_, 0, by omega, by omega, rfl, rfl, Nat.zero_le _, bits01_empty, hbw⟩
  case round =>
    obtain ⟨x, k, hk, hr, rfl, rfl, hx, h01, hb⟩ := hrel
    have q8 := hb.cell h8
    by_cases hlt : k < E.length
    · obtain ⟨g, off, rfl, q0, q1, q2⟩ := hc k hlt
      have r0 := hb.cell q0
      have r1 := hb.cell q1
      have r2 := hb.cell q2
      have hidk := hid _ (List.getElem_mem hlt)
      clear hc hid q0 q1 q2
      generalize E[k] = en at *
      obtain ⟨id, ehi, elo⟩ := en
      simp only at r0 r1 r2 hidk
      have hx2 : x.size ≤ 9380000 := by omega
      cases pb
      · go_wp2_with fail
        refine (place_any p c gen B E id _ (h0.later hb) (by omega) hidk).mono ?_
        rintro e w2 ⟨m, rfl, hb2, hm1, hm2⟩
        go_wp2_with fail
        refine (binary_any _ _ _ (by decide) (by decide)).mono ?_
        rintro e w3 ⟨y, rfl, hb3, hy, hy01⟩
        have hy2 : y.size ≤ 3 := by have h := hy; simp at h; omega
        clear hy
        go_wp2_with fail
        go_roundg (E.length - (k + 1))
        case measure => omega
        case rel => exact ⟨_, k + 1, by omega, rfl, rfl, by go_num, by simp; omega, bits01_append h01 hy01, by (repeat (first | exact Bel.refl _ | assumption | refine Bel.step_alloc ?_ _ | refine Bel.step_drew ?_ | refine Bel.step_drewN ?_ _ | refine Bel.step_set ?_ (by simp <;> omega) _ | refine Bel.trans ?_ (by assumption)))⟩
      · go_wp2_with fail
        refine (binary_any _ _ _ (by decide) (by decide)).mono ?_
        rintro e w4 ⟨y1, rfl, hb4, hy1, hy101⟩
        have hz1 : y1.size = 32 := by simpa using hy1
        clear hy1
        have s8 := hb4.cell q8
        have s2 := hb4.cell r2
        go_wp2_with fail
        refine (binary_any _ _ _ (by decide) (by decide)).mono ?_
        rintro e w5 ⟨y2, rfl, hb5, hy2, hy201⟩
        have hz2 : y2.size = 32 := by simpa using hy2
        clear hy2
        have t8 := hb5.cell s8
        have t0 := hb5.cell (hb4.cell r0)
        have hb15 := (hb.trans hb4).trans hb5
        go_wp2_with fail
        refine (place_any p c gen B E id _ (h0.later hb15) (by omega) hidk).mono ?_
        rintro e w2 ⟨m, rfl, hb2, hm1, hm2⟩
        go_wp2_with fail
        refine (binary_any _ _ _ (by decide) (by decide)).mono ?_
        rintro e w3 ⟨y, rfl, hb3, hy, hy01⟩
        have hy2 : y.size ≤ 3 := by have h := hy; simp at h; omega
        clear hy
        go_wp2_with fail
        go_roundg (E.length - (k + 1))
        case measure => omega
        case rel => exact ⟨_, k + 1, by omega, rfl, rfl, by go_num, by simp; omega, bits01_append (bits01_append (bits01_append h01 hy101) hy201) hy01, by (repeat (first | exact Bel.refl _ | assumption | refine Bel.step_alloc ?_ _ | refine Bel.step_drew ?_ | refine Bel.step_drewN ?_ _ | refine Bel.step_set ?_ (by simp <;> omega) _ | refine Bel.trans ?_ (by assumption)))⟩
    · have hx3 : x.size ≤ 9380000 := by omega
      clear hx
      go_wp2_with fail
      go_loopg [5] 8 (fun r t wx => wr = wx ∧ ∃ (y : ByteArray), t = .string y ∧ y.size ≤ 9380000 + (8 - r) ∧ r ≤ 8 ∧ Bits01 y ∧ (y.size % 8 = 0 ∨ y.size % 8 + r ≥ 8))
      case atStart => exact ⟨rfl, x, rfl, by omega, by omega, h01, by omega⟩
      case round =>
        obtain ⟨rfl, y, rfl, hy, hr8, hy01, hyr⟩ := hrel
        have hyb : y.size ≤ 9380008 := by omega
        by_cases h8m : 0 < y.size % 8
        · go_wp2_with fail
          go_roundg (gk - 1)
          case measure => omega
          case rel => exact ⟨rfl, _, rfl, by rw [ByteArray.size_append, show (⟨#[48]⟩ : ByteArray).size = 1 from rfl]; omega, by omega, bits01_zero hy01, by rw [ByteArray.size_append, show (⟨#[48]⟩ : ByteArray).size = 1 from rfl]; omega⟩
        · have HY : Hid (y.size % 8 = 0) := by have h := h8m; show _ = _; omega
          have h8f : decide ((0 : Int) < (y.size : Int) % 8) = false := by simp; omega
          clear hyr hy hr8
          go_wp2_with fail
          clear h8m
          go_loopg [11, 12] (y.size / 8) (fun r t i wx => ∃ (z : ByteArray) (k : Nat), k + r = y.size / 8 ∧ t = .string z ∧ i = .int .i64 (8 * k) ∧ z.size ≤ k ∧ Bel w wx)
          case atStart => exact ⟨_, 0, by omega, rfl, rfl, Nat.zero_le _, hb⟩
          case round =>
            obtain ⟨z, k, hkr, rfl, rfl, hz, hbz⟩ := hrel
            by_cases hlt : 8 * k < y.size
            · have hltb : decide (8 * (k : Int) < (y.size : Int)) = true := decide_eq_true (by omega)
              go_wp2_with fail
              go_loopg [13, 14] 8 (fun r v i wx => wr = wx ∧ ∃ (u : Int) (q : Nat), q ≤ 8 ∧ r = 8 - q ∧ v = .int .i64 u ∧ i = .int .i64 q ∧ 0 ≤ u ∧ u < 2 ^ q)
              case atStart => exact ⟨rfl, 0, 0, by omega, by omega, rfl, rfl, by omega, by decide⟩
              case round =>
                obtain ⟨rfl, u, q, hq, hr, rfl, rfl, hu0, hu1⟩ := hrel
                have hu2 := pow2_8 q hq
                by_cases hq8 : q < 8
                · have hin : 8 * k + q < y.size := by have hY := HY.out; omega
                  have h48 := hy01 (8 * k + q) hin
                  have h5 : (48 : Int) ≤ (y[8 * k + q].toNat : Int) := by omega
                  have h6 : (y[8 * k + q].toNat : Int) ≤ 49 := by omega
                  clear h48
                  go_wp2_with fail
                  go_roundg (8 - (q + 1))
                  case measure => omega
                  case rel => exact ⟨rfl, _, q + 1, by omega, rfl, rfl, by go_num, by omega, by rw [Int.pow_succ]; omega⟩
                · go_wp2_with fail
                  refine (ones_any _ _ _ (by omega) (by omega) (by decide) (by decide)).mono ?_
                  rintro e w7 ⟨o1, rfl, hb7, ho⟩
                  have ho1 : o1.size = 1 := by simpa using ho
                  clear ho
                  have hz2 : z.size ≤ 9380008 := by omega
                  go_wp2_with fail
                  go_roundg (y.size / 8 - (k + 1))
                  case measure => have hY := HY.out; omega
                  case rel => exact ⟨_, k + 1, by have hY := HY.out; omega, rfl, by go_num, by simp; omega, by (repeat (first | exact Bel.refl _ | assumption | refine Bel.step_alloc ?_ _ | refine Bel.step_drew ?_ | refine Bel.step_drewN ?_ _ | refine Bel.step_set ?_ (by simp <;> omega) _ | refine Bel.trans ?_ (by assumption)))⟩
            · go_wp2
              go_ret
              exact ⟨_, rfl, hbz, by omega⟩

set_option maxRecDepth 100000 in
set_option maxHeartbeats 1600000 in
theorem packed_2 (p : Nat) (c : Cfg) (gen : Int) (B : List BK) (E : List EN) (w : World) (h : StateAt w p c gen B E) (hBl : 3 ≤ B.length) (hB : B.length ≤ 4) (hL : E.length ≤ 140000) (hid : ∀ x ∈ E, (∃ b ∈ B, b.1 = x.1)) :
    Calls Tryz.prog 86 #[.pointer (some ⟨p, 0, none⟩)] w (RStr w fun s => s.size ≤ 1300000) := by
  have h0 := h
  obtain ⟨vB, vE, _, _, h7, h8, hpB, hpE⟩ := h
  obtain ⟨aoB, capB, rfl⟩ : ∃ ao cap, vB = .slice ao B.length cap := by
    rcases hpB.form with ⟨rfl, rfl⟩ | ⟨g, cap, rfl, _⟩
    · exact ⟨_, _, rfl⟩
    · exact ⟨_, _, rfl⟩
  obtain ⟨ao, cap, rfl, hc⟩ := hpE.off
  clear hpB hpE
  go_enter Tryz.func86, Tryz.ntmps86
  go_wp2
  refine wp_loop_rounds 2 ?_
  rw [rounds_succ]
  go_wp2_with fail
  go_quiet (fail)
  go_wp2_with fail
  rw [rounds_succ]
  go_wp2_with fail
  go_quiet (fail)
  go_wp2_with fail
  refine (pointed_any p c gen B E _ (h0.later (by (repeat (first | exact Bel.refl _ | assumption | refine Bel.step_alloc ?_ _ | refine Bel.step_drew ?_ | refine Bel.step_drewN ?_ _ | refine Bel.step_set ?_ (by simp <;> omega) _ | refine Bel.trans ?_ (by assumption)))))).mono ?_
  rintro e w1 ⟨pb, rfl, hb1, -⟩
  have hbw : Bel w w1 := by (repeat (first | exact Bel.refl _ | assumption | refine Bel.step_alloc ?_ _ | refine Bel.step_drew ?_ | refine Bel.step_drewN ?_ _ | refine Bel.step_set ?_ (by simp <;> omega) _ | refine Bel.trans ?_ (by assumption)))
  clear hb1
  go_wp2_with fail
  go_loopg [5, 6] E.length (fun r t i wr => ∃ (x : ByteArray) (k : Nat), k ≤ E.length ∧ r = E.length - k ∧ t = .string x ∧ i = .int .i64 k ∧ x.size ≤ 67 * k ∧ Bits01 x ∧ Bel w wr)
  case atStart => exact ⟨_, 0, by omega, by omega, rfl, rfl, Nat.zero_le _, bits01_empty, hbw⟩
  case round =>
    obtain ⟨x, k, hk, hr, rfl, rfl, hx, h01, hb⟩ := hrel
    have q8 := hb.cell h8
    by_cases hlt : k < E.length
    · obtain ⟨g, off, rfl, q0, q1, q2⟩ := hc k hlt
      have r0 := hb.cell q0
      have r1 := hb.cell q1
      have r2 := hb.cell q2
      have hidk := hid _ (List.getElem_mem hlt)
      clear hc hid q0 q1 q2
      generalize E[k] = en at *
      obtain ⟨id, ehi, elo⟩ := en
      simp only at r0 r1 r2 hidk
      have hx2 : x.size ≤ 9380000 := by omega
      cases pb
      · go_wp2_with fail
        refine (place_any p c gen B E id _ (h0.later hb) (by omega) hidk).mono ?_
        rintro e w2 ⟨m, rfl, hb2, hm1, hm2⟩
        go_wp2_with fail
        refine (binary_any _ _ _ (by decide) (by decide)).mono ?_
        rintro e w3 ⟨y, rfl, hb3, hy, hy01⟩
        have hy2 : y.size ≤ 3 := by have h := hy; simp at h; omega
        clear hy
        go_wp2_with fail
        go_roundg (E.length - (k + 1))
        case measure => omega
        case rel => exact ⟨_, k + 1, by omega, rfl, rfl, by go_num, by simp; omega, bits01_append h01 hy01, by (repeat (first | exact Bel.refl _ | assumption | refine Bel.step_alloc ?_ _ | refine Bel.step_drew ?_ | refine Bel.step_drewN ?_ _ | refine Bel.step_set ?_ (by simp <;> omega) _ | refine Bel.trans ?_ (by assumption)))⟩
      · go_wp2_with fail
        refine (binary_any _ _ _ (by decide) (by decide)).mono ?_
        rintro e w4 ⟨y1, rfl, hb4, hy1, hy101⟩
        have hz1 : y1.size = 32 := by simpa using hy1
        clear hy1
        have s8 := hb4.cell q8
        have s2 := hb4.cell r2
        go_wp2_with fail
        refine (binary_any _ _ _ (by decide) (by decide)).mono ?_
        rintro e w5 ⟨y2, rfl, hb5, hy2, hy201⟩
        have hz2 : y2.size = 32 := by simpa using hy2
        clear hy2
        have t8 := hb5.cell s8
        have t0 := hb5.cell (hb4.cell r0)
        have hb15 := (hb.trans hb4).trans hb5
        go_wp2_with fail
        refine (place_any p c gen B E id _ (h0.later hb15) (by omega) hidk).mono ?_
        rintro e w2 ⟨m, rfl, hb2, hm1, hm2⟩
        go_wp2_with fail
        refine (binary_any _ _ _ (by decide) (by decide)).mono ?_
        rintro e w3 ⟨y, rfl, hb3, hy, hy01⟩
        have hy2 : y.size ≤ 3 := by have h := hy; simp at h; omega
        clear hy
        go_wp2_with fail
        go_roundg (E.length - (k + 1))
        case measure => omega
        case rel => exact ⟨_, k + 1, by omega, rfl, rfl, by go_num, by simp; omega, bits01_append (bits01_append (bits01_append h01 hy101) hy201) hy01, by (repeat (first | exact Bel.refl _ | assumption | refine Bel.step_alloc ?_ _ | refine Bel.step_drew ?_ | refine Bel.step_drewN ?_ _ | refine Bel.step_set ?_ (by simp <;> omega) _ | refine Bel.trans ?_ (by assumption)))⟩
    · have hx3 : x.size ≤ 9380000 := by omega
      clear hx
      go_wp2_with fail
      go_loopg [5] 8 (fun r t wx => wr = wx ∧ ∃ (y : ByteArray), t = .string y ∧ y.size ≤ 9380000 + (8 - r) ∧ r ≤ 8 ∧ Bits01 y ∧ (y.size % 8 = 0 ∨ y.size % 8 + r ≥ 8))
      case atStart => exact ⟨rfl, x, rfl, by omega, by omega, h01, by omega⟩
      case round =>
        obtain ⟨rfl, y, rfl, hy, hr8, hy01, hyr⟩ := hrel
        have hyb : y.size ≤ 9380008 := by omega
        by_cases h8m : 0 < y.size % 8
        · go_wp2_with fail
          go_roundg (gk - 1)
          case measure => omega
          case rel => exact ⟨rfl, _, rfl, by rw [ByteArray.size_append, show (⟨#[48]⟩ : ByteArray).size = 1 from rfl]; omega, by omega, bits01_zero hy01, by rw [ByteArray.size_append, show (⟨#[48]⟩ : ByteArray).size = 1 from rfl]; omega⟩
        · have HY : Hid (y.size % 8 = 0) := by have h := h8m; show _ = _; omega
          have h8f : decide ((0 : Int) < (y.size : Int) % 8) = false := by simp; omega
          clear hyr hy hr8
          go_wp2_with fail
          clear h8m
          go_loopg [11, 12] (y.size / 8) (fun r t i wx => ∃ (z : ByteArray) (k : Nat), k + r = y.size / 8 ∧ t = .string z ∧ i = .int .i64 (8 * k) ∧ z.size ≤ k ∧ Bel w wx)
          case atStart => exact ⟨_, 0, by omega, rfl, rfl, Nat.zero_le _, hb⟩
          case round =>
            obtain ⟨z, k, hkr, rfl, rfl, hz, hbz⟩ := hrel
            by_cases hlt : 8 * k < y.size
            · have hltb : decide (8 * (k : Int) < (y.size : Int)) = true := decide_eq_true (by omega)
              go_wp2_with fail
              go_loopg [13, 14] 8 (fun r v i wx => wr = wx ∧ ∃ (u : Int) (q : Nat), q ≤ 8 ∧ r = 8 - q ∧ v = .int .i64 u ∧ i = .int .i64 q ∧ 0 ≤ u ∧ u < 2 ^ q)
              case atStart => exact ⟨rfl, 0, 0, by omega, by omega, rfl, rfl, by omega, by decide⟩
              case round =>
                obtain ⟨rfl, u, q, hq, hr, rfl, rfl, hu0, hu1⟩ := hrel
                have hu2 := pow2_8 q hq
                by_cases hq8 : q < 8
                · have hin : 8 * k + q < y.size := by have hY := HY.out; omega
                  have h48 := hy01 (8 * k + q) hin
                  have h5 : (48 : Int) ≤ (y[8 * k + q].toNat : Int) := by omega
                  have h6 : (y[8 * k + q].toNat : Int) ≤ 49 := by omega
                  clear h48
                  go_wp2_with fail
                  go_roundg (8 - (q + 1))
                  case measure => omega
                  case rel => exact ⟨rfl, _, q + 1, by omega, rfl, rfl, by go_num, by omega, by rw [Int.pow_succ]; omega⟩
                · go_wp2_with fail
                  refine (ones_any _ _ _ (by omega) (by omega) (by decide) (by decide)).mono ?_
                  rintro e w7 ⟨o1, rfl, hb7, ho⟩
                  have ho1 : o1.size = 1 := by simpa using ho
                  clear ho
                  have hz2 : z.size ≤ 9380008 := by omega
                  go_wp2_with fail
                  go_roundg (y.size / 8 - (k + 1))
                  case measure => have hY := HY.out; omega
                  case rel => exact ⟨_, k + 1, by have hY := HY.out; omega, rfl, by go_num, by simp; omega, by (repeat (first | exact Bel.refl _ | assumption | refine Bel.step_alloc ?_ _ | refine Bel.step_drew ?_ | refine Bel.step_drewN ?_ _ | refine Bel.step_set ?_ (by simp <;> omega) _ | refine Bel.trans ?_ (by assumption)))⟩
            · go_wp2
              go_ret
              exact ⟨_, rfl, hbz, by omega⟩

set_option maxRecDepth 100000 in
set_option maxHeartbeats 1600000 in
theorem packed_3 (p : Nat) (c : Cfg) (gen : Int) (B : List BK) (E : List EN) (w : World) (h : StateAt w p c gen B E) (hBl : 5 ≤ B.length) (hB : B.length ≤ 8) (hL : E.length ≤ 140000) (hid : ∀ x ∈ E, (∃ b ∈ B, b.1 = x.1)) :
    Calls Tryz.prog 86 #[.pointer (some ⟨p, 0, none⟩)] w (RStr w fun s => s.size ≤ 1300000) := by
  have h0 := h
  obtain ⟨vB, vE, _, _, h7, h8, hpB, hpE⟩ := h
  obtain ⟨aoB, capB, rfl⟩ : ∃ ao cap, vB = .slice ao B.length cap := by
    rcases hpB.form with ⟨rfl, rfl⟩ | ⟨g, cap, rfl, _⟩
    · exact ⟨_, _, rfl⟩
    · exact ⟨_, _, rfl⟩
  obtain ⟨ao, cap, rfl, hc⟩ := hpE.off
  clear hpB hpE
  go_enter Tryz.func86, Tryz.ntmps86
  go_wp2
  refine wp_loop_rounds 3 ?_
  rw [rounds_succ]
  go_wp2_with fail
  go_quiet (fail)
  go_wp2_with fail
  rw [rounds_succ]
  go_wp2_with fail
  go_quiet (fail)
  go_wp2_with fail
  rw [rounds_succ]
  go_wp2_with fail
  go_quiet (fail)
  go_wp2_with fail
  refine (pointed_any p c gen B E _ (h0.later (by (repeat (first | exact Bel.refl _ | assumption | refine Bel.step_alloc ?_ _ | refine Bel.step_drew ?_ | refine Bel.step_drewN ?_ _ | refine Bel.step_set ?_ (by simp <;> omega) _ | refine Bel.trans ?_ (by assumption)))))).mono ?_
  rintro e w1 ⟨pb, rfl, hb1, -⟩
  have hbw : Bel w w1 := by (repeat (first | exact Bel.refl _ | assumption | refine Bel.step_alloc ?_ _ | refine Bel.step_drew ?_ | refine Bel.step_drewN ?_ _ | refine Bel.step_set ?_ (by simp <;> omega) _ | refine Bel.trans ?_ (by assumption)))
  clear hb1
  go_wp2_with fail
  go_loopg [5, 6] E.length (fun r t i wr => ∃ (x : ByteArray) (k : Nat), k ≤ E.length ∧ r = E.length - k ∧ t = .string x ∧ i = .int .i64 k ∧ x.size ≤ 67 * k ∧ Bits01 x ∧ Bel w wr)
  case atStart => exact ⟨_, 0, by omega, by omega, rfl, rfl, Nat.zero_le _, bits01_empty, hbw⟩
  case round =>
    obtain ⟨x, k, hk, hr, rfl, rfl, hx, h01, hb⟩ := hrel
    have q8 := hb.cell h8
    by_cases hlt : k < E.length
    · obtain ⟨g, off, rfl, q0, q1, q2⟩ := hc k hlt
      have r0 := hb.cell q0
      have r1 := hb.cell q1
      have r2 := hb.cell q2
      have hidk := hid _ (List.getElem_mem hlt)
      clear hc hid q0 q1 q2
      generalize E[k] = en at *
      obtain ⟨id, ehi, elo⟩ := en
      simp only at r0 r1 r2 hidk
      have hx2 : x.size ≤ 9380000 := by omega
      cases pb
      · go_wp2_with fail
        refine (place_any p c gen B E id _ (h0.later hb) (by omega) hidk).mono ?_
        rintro e w2 ⟨m, rfl, hb2, hm1, hm2⟩
        go_wp2_with fail
        refine (binary_any _ _ _ (by decide) (by decide)).mono ?_
        rintro e w3 ⟨y, rfl, hb3, hy, hy01⟩
        have hy2 : y.size ≤ 3 := by have h := hy; simp at h; omega
        clear hy
        go_wp2_with fail
        go_roundg (E.length - (k + 1))
        case measure => omega
        case rel => exact ⟨_, k + 1, by omega, rfl, rfl, by go_num, by simp; omega, bits01_append h01 hy01, by (repeat (first | exact Bel.refl _ | assumption | refine Bel.step_alloc ?_ _ | refine Bel.step_drew ?_ | refine Bel.step_drewN ?_ _ | refine Bel.step_set ?_ (by simp <;> omega) _ | refine Bel.trans ?_ (by assumption)))⟩
      · go_wp2_with fail
        refine (binary_any _ _ _ (by decide) (by decide)).mono ?_
        rintro e w4 ⟨y1, rfl, hb4, hy1, hy101⟩
        have hz1 : y1.size = 32 := by simpa using hy1
        clear hy1
        have s8 := hb4.cell q8
        have s2 := hb4.cell r2
        go_wp2_with fail
        refine (binary_any _ _ _ (by decide) (by decide)).mono ?_
        rintro e w5 ⟨y2, rfl, hb5, hy2, hy201⟩
        have hz2 : y2.size = 32 := by simpa using hy2
        clear hy2
        have t8 := hb5.cell s8
        have t0 := hb5.cell (hb4.cell r0)
        have hb15 := (hb.trans hb4).trans hb5
        go_wp2_with fail
        refine (place_any p c gen B E id _ (h0.later hb15) (by omega) hidk).mono ?_
        rintro e w2 ⟨m, rfl, hb2, hm1, hm2⟩
        go_wp2_with fail
        refine (binary_any _ _ _ (by decide) (by decide)).mono ?_
        rintro e w3 ⟨y, rfl, hb3, hy, hy01⟩
        have hy2 : y.size ≤ 3 := by have h := hy; simp at h; omega
        clear hy
        go_wp2_with fail
        go_roundg (E.length - (k + 1))
        case measure => omega
        case rel => exact ⟨_, k + 1, by omega, rfl, rfl, by go_num, by simp; omega, bits01_append (bits01_append (bits01_append h01 hy101) hy201) hy01, by (repeat (first | exact Bel.refl _ | assumption | refine Bel.step_alloc ?_ _ | refine Bel.step_drew ?_ | refine Bel.step_drewN ?_ _ | refine Bel.step_set ?_ (by simp <;> omega) _ | refine Bel.trans ?_ (by assumption)))⟩
    · have hx3 : x.size ≤ 9380000 := by omega
      clear hx
      go_wp2_with fail
      go_loopg [5] 8 (fun r t wx => wr = wx ∧ ∃ (y : ByteArray), t = .string y ∧ y.size ≤ 9380000 + (8 - r) ∧ r ≤ 8 ∧ Bits01 y ∧ (y.size % 8 = 0 ∨ y.size % 8 + r ≥ 8))
      case atStart => exact ⟨rfl, x, rfl, by omega, by omega, h01, by omega⟩
      case round =>
        obtain ⟨rfl, y, rfl, hy, hr8, hy01, hyr⟩ := hrel
        have hyb : y.size ≤ 9380008 := by omega
        by_cases h8m : 0 < y.size % 8
        · go_wp2_with fail
          go_roundg (gk - 1)
          case measure => omega
          case rel => exact ⟨rfl, _, rfl, by rw [ByteArray.size_append, show (⟨#[48]⟩ : ByteArray).size = 1 from rfl]; omega, by omega, bits01_zero hy01, by rw [ByteArray.size_append, show (⟨#[48]⟩ : ByteArray).size = 1 from rfl]; omega⟩
        · have HY : Hid (y.size % 8 = 0) := by have h := h8m; show _ = _; omega
          have h8f : decide ((0 : Int) < (y.size : Int) % 8) = false := by simp; omega
          clear hyr hy hr8
          go_wp2_with fail
          clear h8m
          go_loopg [11, 12] (y.size / 8) (fun r t i wx => ∃ (z : ByteArray) (k : Nat), k + r = y.size / 8 ∧ t = .string z ∧ i = .int .i64 (8 * k) ∧ z.size ≤ k ∧ Bel w wx)
          case atStart => exact ⟨_, 0, by omega, rfl, rfl, Nat.zero_le _, hb⟩
          case round =>
            obtain ⟨z, k, hkr, rfl, rfl, hz, hbz⟩ := hrel
            by_cases hlt : 8 * k < y.size
            · have hltb : decide (8 * (k : Int) < (y.size : Int)) = true := decide_eq_true (by omega)
              go_wp2_with fail
              go_loopg [13, 14] 8 (fun r v i wx => wr = wx ∧ ∃ (u : Int) (q : Nat), q ≤ 8 ∧ r = 8 - q ∧ v = .int .i64 u ∧ i = .int .i64 q ∧ 0 ≤ u ∧ u < 2 ^ q)
              case atStart => exact ⟨rfl, 0, 0, by omega, by omega, rfl, rfl, by omega, by decide⟩
              case round =>
                obtain ⟨rfl, u, q, hq, hr, rfl, rfl, hu0, hu1⟩ := hrel
                have hu2 := pow2_8 q hq
                by_cases hq8 : q < 8
                · have hin : 8 * k + q < y.size := by have hY := HY.out; omega
                  have h48 := hy01 (8 * k + q) hin
                  have h5 : (48 : Int) ≤ (y[8 * k + q].toNat : Int) := by omega
                  have h6 : (y[8 * k + q].toNat : Int) ≤ 49 := by omega
                  clear h48
                  go_wp2_with fail
                  go_roundg (8 - (q + 1))
                  case measure => omega
                  case rel => exact ⟨rfl, _, q + 1, by omega, rfl, rfl, by go_num, by omega, by rw [Int.pow_succ]; omega⟩
                · go_wp2_with fail
                  refine (ones_any _ _ _ (by omega) (by omega) (by decide) (by decide)).mono ?_
                  rintro e w7 ⟨o1, rfl, hb7, ho⟩
                  have ho1 : o1.size = 1 := by simpa using ho
                  clear ho
                  have hz2 : z.size ≤ 9380008 := by omega
                  go_wp2_with fail
                  go_roundg (y.size / 8 - (k + 1))
                  case measure => have hY := HY.out; omega
                  case rel => exact ⟨_, k + 1, by have hY := HY.out; omega, rfl, by go_num, by simp; omega, by (repeat (first | exact Bel.refl _ | assumption | refine Bel.step_alloc ?_ _ | refine Bel.step_drew ?_ | refine Bel.step_drewN ?_ _ | refine Bel.step_set ?_ (by simp <;> omega) _ | refine Bel.trans ?_ (by assumption)))⟩
            · go_wp2
              go_ret
              exact ⟨_, rfl, hbz, by omega⟩

theorem packed_any (p : Nat) (c : Cfg) (gen : Int) (B : List BK) (E : List EN) (w : World) (h : StateAt w p c gen B E) (hB : B.length ≤ 8) (hL : E.length ≤ 140000) (hid : ∀ x ∈ E, (∃ b ∈ B, b.1 = x.1)) :
    Calls Tryz.prog 86 #[.pointer (some ⟨p, 0, none⟩)] w (RStr w fun s => s.size ≤ 1300000) := by
  rcases (show B.length ≤ 2 ∨ (3 ≤ B.length ∧ B.length ≤ 4) ∨ 5 ≤ B.length by omega) with k | k | k
  · exact packed_1 p c gen B E w h (Nat.zero_le _) k hL hid
  · exact packed_2 p c gen B E w h k.1 k.2 hL hid
  · exact packed_3 p c gen B E w h k hB hL hid

end Go.Proofs.YtgfildmmcbjpnabGreat

namespace Go.Proofs.YtgfildmmcbjpnabGreat
open Go.RowKit

theorem keep5 {w w' : World} {a0 a1 a2 a3 a4 : Addr} {v0 v1 v2 v3 v4 : Value} (h : Bel w w') (c0 : w.cell? a0 = some v0) (c1 : w.cell? a1 = some v1) (c2 : w.cell? a2 = some v2) (c3 : w.cell? a3 = some v3) (c4 : w.cell? a4 = some v4) :
    Bel w w' ∧ w'.cell? a0 = some v0 ∧ w'.cell? a1 = some v1 ∧ w'.cell? a2 = some v2 ∧ w'.cell? a3 = some v3 ∧ w'.cell? a4 = some v4 := ⟨h, h.cell c0, h.cell c1, h.cell c2, h.cell c3, h.cell c4⟩
theorem I64.six {a b c d e f : Int} (ha : I64 a) (hb : I64 b) (hc : I64 c) (hd : I64 d) (he : I64 e) (hf : I64 f) : ∀ t, I64 ([a, b, c, d, e, f].getD t 0) := by
  intro t
  match t with
  | 0 => exact ha
  | 1 => exact hb
  | 2 => exact hc
  | 3 => exact hd
  | 4 => exact he
  | 5 => exact hf
  | _ + 6 => exact (show I64 0 from ⟨by decide, by decide⟩)
theorem W32.i64 {a : Int} (h : W32 a) : I64 a := ⟨by have := h.1; omega, by have := h.2; omega⟩

set_option maxRecDepth 100000 in
set_option maxHeartbeats 1600000 in
theorem image_any (p : Nat) (c : Cfg) (gen : Int) (B : List BK) (E : List EN) (format : Int) (w : World) (h : StateAt w p c gen B E) (hok : StateOK c gen B E) (hf : I64 format) (hI : ∀ x ∈ E, I64 x.2.1 ∧ I64 x.2.2) :
    Calls Tryz.prog 44 #[.pointer (some ⟨p, 0, none⟩), .int .i64 format] w (RStr w fun s => 4 ≤ s.size ∧ s.size ≤ 9000000) := by
  have h0 := h
  obtain ⟨vB, vE, ⟨c0, c1, c2, c3, c4, c5⟩, c6, c7, c8, hpB, hpE⟩ := h
  obtain ⟨hc, hg, hB, hE, hid, -⟩ := hok
  obtain ⟨k1, k2, k3, k4, -, k5, k6, k7, k8, k9, -, -⟩ := hc
  obtain ⟨alg, slots, points, probes, key, formats⟩ := c
  simp only at c0 c1 c2 c3 c4 c5 k1 k2 k3 k4 k5 k6 k7 k8 k9
  go_enter Tryz.func44, Tryz.ntmps44
  go_upto_region 1 with fail
  go_cut [5] (fun v5 wc => ∃ z : ByteArray, v5 = .string z ∧ z.size ≤ 54 ∧ Bel w wc)
  case first =>
    go_region_held3 (fun w' => Bel w w' ∧ w'.cell? ⟨p, 0, none⟩ = some (.int .i64 alg) ∧ w'.cell? ⟨p, 1, none⟩ = some (.int .i64 slots) ∧ w'.cell? ⟨p, 2, none⟩ = some (.int .i64 points) ∧ w'.cell? ⟨p, 3, none⟩ = some (.int .i64 probes) ∧ w'.cell? ⟨p, 6, none⟩ = some (.int .i64 gen)) ((refine keep5 ?_ c0 c1 c2 c3 c6; (repeat (first | exact Bel.refl _ | assumption | refine Bel.step_alloc ?_ _ | refine Bel.step_drew ?_ | refine Bel.step_drewN ?_ _ | refine Bel.step_set ?_ (by simp <;> omega) _ | refine Bel.trans ?_ (by assumption))))) ((go_at_call 62; refine (fields_any _ 6 _ _ [format, alg, gen, slots, points, probes] _ rfl (by decide) digits114211 (by intro t ht; match t, ht with | 0, _ => simp | 1, _ => simp | 2, _ => simp | 3, _ => simp | 4, _ => simp | 5, _ => simp) (I64.six hf ⟨by omega, by omega⟩ hg ⟨by omega, by omega⟩ ⟨by omega, by omega⟩ ⟨by omega, by omega⟩)).mono ?_; rintro e w4 ⟨z, rfl, hb4, hz⟩))
    all_goals
      go_wp2_with fail
      go_meet
      case rel => exact ⟨z, rfl, by omega, by (repeat (first | exact Bel.refl _ | assumption | refine Bel.step_alloc ?_ _ | refine Bel.step_drew ?_ | refine Bel.step_drewN ?_ _ | refine Bel.step_set ?_ (by simp <;> omega) _ | refine Bel.trans ?_ (by assumption)))⟩
  case rest =>
    obtain ⟨z, rfl, hz, hb⟩ := hcut
    have d4 := hb.cell c4
    have d7 := hb.cell c7
    have d8 := hb.cell c8
    go_wp2_with fail
    refine (names_any B vB _ (hpB.later hb) hB).mono ?_
    rintro e w1 ⟨nm, rfl, hb1, hnm⟩
    have hnm2 : nm.size ≤ 81 := hnm
    clear hnm
    have e4 := hb1.cell d4
    have e8 := hb1.cell d8
    have hEl : ∃ ao cap, vE = .slice ao E.length cap := by
      obtain ⟨ao, cap, hv, _⟩ := hpE.off
      exact ⟨ao, cap, hv⟩
    obtain ⟨ao, cap, rfl⟩ := hEl
    go_wp2_with fail
    refine (ones_any _ _ _ (by omega) (by omega) (by decide) (by decide)).mono ?_
    rintro e w2 ⟨n2, rfl, hb2, hn2⟩
    have hn2' : n2.size = 2 := by simpa using hn2
    clear hn2
    have f4 := hb2.cell e4
    have f8 := hb2.cell e8
    have hbA := (hb.trans hb1).trans hb2
    by_cases hf1 : format = 1
    · subst hf1
      go_wp2_with fail
      refine (plain_any p _ gen B E E _ _ (h0.later hbA) hB.1 (hpE.off.later hbA) hE (fun x hx => ⟨hid x hx, hI x hx⟩)).mono ?_
      rintro e w3 ⟨bd, rfl, hb3, hbd⟩
      have hbd2 : bd.size ≤ 3780000 := by have h := hbd; omega
      clear hbd
      have g4 := hb3.cell f4
      go_wp2_with fail
      have hsz : (({ data := #[67, 72] } : ByteArray) ++ z ++ key ++ nm ++ n2 ++ bd).size ≤ 8990000 := by
        simp only [ByteArray.size_append, show (({ data := #[67, 72] } : ByteArray)).size = 2 from rfl]
        omega
      generalize (({ data := #[67, 72] } : ByteArray) ++ z ++ key ++ nm ++ n2 ++ bd) = all at *
      refine (sealed_any all _ (by omega)).mono ?_
      rintro e w5 ⟨t, rfl, hb5, ht⟩
      have ht1 : 4 ≤ t.size := by have h := ht; omega
      have ht2 : t.size ≤ 9000000 := by have h := ht; omega
      clear ht
      go_wp2
      go_ret
      exact ⟨_, rfl, by (repeat (first | exact Bel.refl _ | assumption | refine Bel.step_alloc ?_ _ | refine Bel.step_drew ?_ | refine Bel.step_drewN ?_ _ | refine Bel.step_set ?_ (by simp <;> omega) _ | refine Bel.trans ?_ (by assumption))), ht1, ht2⟩
    · have hf1' : (format == 1) = false := by simpa using hf1
      go_wp2_with fail
      refine (packed_any p _ gen B E _ (h0.later hbA) hB.1 hE hid).mono ?_
      rintro e w3 ⟨bd, rfl, hb3, hbd⟩
      have hbd2 : bd.size ≤ 3780000 := by have h := hbd; omega
      clear hbd
      have g4 := hb3.cell f4
      go_wp2_with fail
      have hsz : (({ data := #[67, 72] } : ByteArray) ++ z ++ key ++ nm ++ n2 ++ bd).size ≤ 8990000 := by
        simp only [ByteArray.size_append, show (({ data := #[67, 72] } : ByteArray)).size = 2 from rfl]
        omega
      generalize (({ data := #[67, 72] } : ByteArray) ++ z ++ key ++ nm ++ n2 ++ bd) = all at *
      refine (sealed_any all _ (by omega)).mono ?_
      rintro e w5 ⟨t, rfl, hb5, ht⟩
      have ht1 : 4 ≤ t.size := by have h := ht; omega
      have ht2 : t.size ≤ 9000000 := by have h := ht; omega
      clear ht
      go_wp2
      go_ret
      exact ⟨_, rfl, by (repeat (first | exact Bel.refl _ | assumption | refine Bel.step_alloc ?_ _ | refine Bel.step_drew ?_ | refine Bel.step_drewN ?_ _ | refine Bel.step_set ?_ (by simp <;> omega) _ | refine Bel.trans ?_ (by assumption))), ht1, ht2⟩

end Go.Proofs.YtgfildmmcbjpnabGreat
