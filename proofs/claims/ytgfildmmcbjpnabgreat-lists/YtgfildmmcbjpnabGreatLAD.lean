import Derived.Test.YtgfildmmcbjpnabGreatLAA
import Derived.Test.YtgfildmmcbjpnabGreatLAC
import Derived.Deep.RegionHeld3
import Derived.Deep.DeepCutAuto
import Derived.Deep.LoopGhost
namespace Go.Proofs.YtgfildmmcbjpnabGreat
open Go.RowKit

/-- four words in a row of their own -/
def Four (w : World) (b : Nat) : Prop := ∃ x0 x1 x2 x3 x4 x5 x6 x7 : Int, (W32 x0 ∧ W32 x1 ∧ W32 x2 ∧ W32 x3 ∧ W32 x4 ∧ W32 x5 ∧ W32 x6 ∧ W32 x7) ∧
  w.cell? ⟨b, 0, none⟩ = some (.int .i64 x0) ∧ w.cell? ⟨b, 1, none⟩ = some (.int .i64 x1) ∧ w.cell? ⟨b, 2, none⟩ = some (.int .i64 x2) ∧ w.cell? ⟨b, 3, none⟩ = some (.int .i64 x3) ∧
  w.cell? ⟨b, 4, none⟩ = some (.int .i64 x4) ∧ w.cell? ⟨b, 5, none⟩ = some (.int .i64 x5) ∧ w.cell? ⟨b, 6, none⟩ = some (.int .i64 x6) ∧ w.cell? ⟨b, 7, none⟩ = some (.int .i64 x7)
theorem Four.later {a w : World} (h : Bel a w) {b : Nat} (k : Four a b) : Four w b := by
  obtain ⟨x0, x1, x2, x3, x4, x5, x6, x7, hx, c0, c1, c2, c3, c4, c5, c6, c7⟩ := k
  exact ⟨x0, x1, x2, x3, x4, x5, x6, x7, hx, h.cell c0, h.cell c1, h.cell c2, h.cell c3, h.cell c4, h.cell c5, h.cell c6, h.cell c7⟩
theorem cellW_set {w : World} {p a : Addr} {x z : Int} (hx : W32 x) (hz : W32 z) (h : w.cell? p = some (.int .i64 x)) : ∃ y, W32 y ∧ (w.setCell a (.int .i64 z)).cell? p = some (.int .i64 y) := by
  rcases cell_set (b := a) (u := .int .i64 z) h with d | d
  · exact ⟨x, hx, d⟩
  · exact ⟨z, hz, d⟩
theorem Four.set {w : World} {b : Nat} (k : Four w b) (a : Addr) {z : Int} (hz : W32 z) : Four (w.setCell a (.int .i64 z)) b := by
  obtain ⟨x0, x1, x2, x3, x4, x5, x6, x7, ⟨h0, h1, h2, h3, h4, h5, h6, h7⟩, c0, c1, c2, c3, c4, c5, c6, c7⟩ := k
  obtain ⟨y0, k0, d0⟩ := cellW_set (a := a) h0 hz c0
  obtain ⟨y1, k1, d1⟩ := cellW_set (a := a) h1 hz c1
  obtain ⟨y2, k2, d2⟩ := cellW_set (a := a) h2 hz c2
  obtain ⟨y3, k3, d3⟩ := cellW_set (a := a) h3 hz c3
  obtain ⟨y4, k4, d4⟩ := cellW_set (a := a) h4 hz c4
  obtain ⟨y5, k5, d5⟩ := cellW_set (a := a) h5 hz c5
  obtain ⟨y6, k6, d6⟩ := cellW_set (a := a) h6 hz c6
  obtain ⟨y7, k7, d7⟩ := cellW_set (a := a) h7 hz c7
  exact ⟨y0, y1, y2, y3, y4, y5, y6, y7, ⟨k0, k1, k2, k3, k4, k5, k6, k7⟩, d0, d1, d2, d3, d4, d5, d6, d7⟩

theorem keep4 {w w' : World} {a0 a1 a2 a3 : Addr} {v0 v1 v2 v3 : Value} (h : Bel w w') (c0 : w.cell? a0 = some v0) (c1 : w.cell? a1 = some v1) (c2 : w.cell? a2 = some v2) (c3 : w.cell? a3 = some v3) :
    Bel w w' ∧ w'.cell? a0 = some v0 ∧ w'.cell? a1 = some v1 ∧ w'.cell? a2 = some v2 ∧ w'.cell? a3 = some v3 := ⟨h, h.cell c0, h.cell c1, h.cell c2, h.cell c3⟩
def RFour (w : World) (e : Ending) (w' : World) : Prop := ∃ b' cap' : Nat, e = .returned (.slice (some ⟨b', 0, none⟩) 4 cap') ∧ Bel w w' ∧ Four w' b'

/-- a round's state: nothing old turned; the four words; the local words -/
def St (w : World) (b : Nat) (vs : List Value) (wc : World) : Prop := Bel w wc ∧ Four wc b ∧ ∀ v ∈ vs, BoxW w.heap.size wc v
theorem St.later {w a : World} {b : Nat} {vs : List Value} (h : St w b vs a) {w' : World} (k : Bel a w') : St w b vs w' := ⟨h.1.trans k, h.2.1.later k, fun v hv => (h.2.2 v hv).later k⟩
theorem St.set {w a : World} {b : Nat} {vs : List Value} (h : St w b vs a) {p : Addr} (hp : w.heap.size ≤ p.block) {z : Int} (hz : W32 z) : St w b vs (a.setCell p (.int .i64 z)) :=
  ⟨h.1.step_set hp _, h.2.1.set p hz, fun v hv => (h.2.2 v hv).set p hz⟩
theorem St.more {w a : World} {b : Nat} {vs : List Value} (h : St w b vs a) {v : Value} (k : BoxW w.heap.size a v) : St w b (vs ++ [v]) a := ⟨h.1, h.2.1, fun u hu => by
  rcases List.mem_append.1 hu with hu | hu
  · exact h.2.2 u hu
  · simp at hu; subst hu; exact k⟩

set_option maxRecDepth 100000 in
set_option maxHeartbeats 4000000 in
theorem round_any (b cap : Nat) (n : Int) (w : World) (hn : 0 ≤ n) (hn2 : n ≤ 4) (h4 : Four w b) :
    Calls Tryz.prog 113 #[.slice (some ⟨b, 0, none⟩) 4 cap, .int .i64 n] w (RFour w) := by
  go_enter Tryz.func113, Tryz.ntmps113
  go_wp2
  go_loopg [0, 1] n.toNat (fun g v i wr => ∃ (b' cap' : Nat) (q : Int), v = .slice (some ⟨b', 0, none⟩) 4 cap' ∧ i = .int .i64 q ∧ 0 ≤ q ∧ q ≤ 4 ∧ g = q.toNat ∧ Four wr b' ∧ Bel w wr)
  case atStart => exact ⟨b, cap, n, rfl, rfl, hn, hn2, rfl, h4, Bel.refl _⟩
  case round =>
    obtain ⟨b', cap', q, rfl, rfl, hq1, hq2, hg, h4', hb⟩ := hrel
    clear h4
    by_cases hlt : 0 < q
    · have hS : St w b' [] wr := ⟨hb, h4', fun v hv => by simp at hv⟩
      clear hb h4'
      go_wp2_with fail
      go_cut [5] (fun u5 wc => St w b' [u5] wc)
      case first =>
        obtain ⟨x0, x1, x2, x3, x4, x5, x6, x7, ⟨g0, g1, g2, g3, g4, g5, g6, g7⟩, c0, c1, c2, c3, c4, c5, c6, c7⟩ := hS.2.1
        go_region_held3 (fun w' => Bel wr w' ∧ w'.cell? ⟨b', 0, none⟩ = some (.int .i64 x0) ∧ w'.cell? ⟨b', 1, none⟩ = some (.int .i64 x1) ∧ w'.cell? ⟨b', 2, none⟩ = some (.int .i64 x2) ∧ w'.cell? ⟨b', 3, none⟩ = some (.int .i64 x3)) ((refine keep4 ?_ c0 c1 c2 c3; (repeat (first | exact Bel.refl _ | assumption | refine Bel.step_alloc ?_ _ | refine Bel.step_drew ?_ | refine Bel.step_drewN ?_ _ | refine Bel.step_set ?_ (by simp <;> omega) _ | refine Bel.trans ?_ (by assumption))))) ((go_at_call 121; refine (plus_any _ _ _ _ _ g0 g1 g2 g3).mono ?_; rintro e w2 ⟨z0, z1, rfl, hb2, k0, k1, -⟩; obtain ⟨hq2, hf2⟩ := hb2.cells))
        all_goals
          go_wp2_with fail
          go_meet
          case rel =>
            have hB : Bel wr w2 := by (repeat (first | exact Bel.refl _ | assumption | refine Bel.step_alloc ?_ _ | refine Bel.step_drew ?_ | refine Bel.step_drewN ?_ _ | refine Bel.step_set ?_ (by simp <;> omega) _ | refine Bel.trans ?_ (by assumption)))
            have hz := hb2.size
            have hw := (hS.1.trans hB).size
            have hw1 := hS.1.size
            simp only [World.size_alloc, World.size_drew] at hz
            first
              | (refine ((hS.later hB).later (Bel.step_alloc (Bel.refl _) _)).more ⟨w2.heap.size, z0, z1, rfl, hw, ?_, ?_, ?_, ?_, k0, k1⟩ <;> (simp; done))
              | exact (((hS.later hB).set (p := ⟨wr.heap.size, 0, none⟩) hw1 k0).set (p := ⟨wr.heap.size, 1, none⟩) hw1 k1).more (BoxW.stored hw1 ((hq2 _ _ (by simp)).trans (by simp; rfl)) ((hq2 _ _ (by simp)).trans (by simp; rfl)) ((hf2 _ _ (by simp)).trans (by simp)) ((hf2 _ _ (by simp)).trans (by simp)) k0 k1)
      case rest =>
        replace hS := hcut
        clear hcut
        go_upto_region 4 with fail
        go_cut [6] (fun u6 wc => St w b' [u5, u6] wc)
        case first =>
          obtain ⟨x0, x1, x2, x3, x4, x5, x6, x7, ⟨g0, g1, g2, g3, g4, g5, g6, g7⟩, c0, c1, c2, c3, c4, c5, c6, c7⟩ := hS.2.1
          go_wp2_with fail
          refine (turned_any _ _ _ _ g2 g3 (by decide)).mono ?_
          rintro e w2 ⟨z0, z1, rfl, hb2, k0, k1, -⟩
          go_wp2_with fail
          go_meet
          case rel =>
            have hB : Bel wc w2 := by (repeat (first | exact Bel.refl _ | assumption | refine Bel.step_alloc ?_ _ | refine Bel.step_drew ?_ | refine Bel.step_drewN ?_ _ | refine Bel.step_set ?_ (by simp <;> omega) _ | refine Bel.trans ?_ (by assumption)))
            exact ((hS.later hB).later (Bel.step_alloc (Bel.refl _) _)).more ⟨w2.heap.size, z0, z1, rfl, (hS.1.trans hB).size, by simp, by simp, by simp, by simp, k0, k1⟩
        case rest =>
          replace hS := hcut
          clear hcut
          go_upto_region 5 with fail
          go_cut [] (fun wc => St w b' [u5, u6] wc)
          case first =>
            obtain ⟨x0, x1, x2, x3, x4, x5, x6, x7, ⟨g0, g1, g2, g3, g4, g5, g6, g7⟩, c0, c1, c2, c3, c4, c5, c6, c7⟩ := hS.2.1
            obtain ⟨p6, X6, Y6, rfl, hp6, c60, c61, f60, f61, hX6, hY6⟩ := hS.2.2 u6 (by simp)
            obtain ⟨p5, X5, Y5, rfl, hp5, c50, c51, f50, f51, hX5, hY5⟩ := hS.2.2 u5 (by simp)
            go_wp2_with fail
            refine (mixed_any _ _ _ _ _ hX6 hY6 hX5 hY5).mono ?_
            rintro e w2 ⟨z0, z1, rfl, hb2, k0, k1, -⟩
            have d60 := hb2.cell c60
            have d61 := hb2.cell c61
            have e60 := hb2.frozen c60 f60
            have e61 := hb2.frozen c61 f61
            go_wp2_with fail
            go_meet
            case rel =>
              have hB : Bel wc w2 := by (repeat (first | exact Bel.refl _ | assumption | refine Bel.step_alloc ?_ _ | refine Bel.step_drew ?_ | refine Bel.step_drewN ?_ _ | refine Bel.step_set ?_ (by simp <;> omega) _ | refine Bel.trans ?_ (by assumption)))
              exact ((hS.later hB).set (p := ⟨p6, 0, none⟩) hp6 k0).set (p := ⟨p6, 1, none⟩) hp6 k1
          case rest =>
            replace hS := hcut
            clear hcut
            go_upto_region 6 with fail
            go_cut [] (fun wc => St w b' [u5, u6] wc)
            case first =>
              obtain ⟨x0, x1, x2, x3, x4, x5, x6, x7, ⟨g0, g1, g2, g3, g4, g5, g6, g7⟩, c0, c1, c2, c3, c4, c5, c6, c7⟩ := hS.2.1
              obtain ⟨p5, X5, Y5, rfl, hp5, c50, c51, f50, f51, hX5, hY5⟩ := hS.2.2 u5 (by simp)
              go_wp2_with fail
              refine (turned_any _ _ _ _ hX5 hY5 (by decide)).mono ?_
              rintro e w2 ⟨z0, z1, rfl, hb2, k0, k1, -⟩
              have d50 := hb2.cell c50
              have d51 := hb2.cell c51
              have e50 := hb2.frozen c50 f50
              have e51 := hb2.frozen c51 f51
              go_wp2_with fail
              go_meet
              case rel =>
                have hB : Bel wc w2 := by (repeat (first | exact Bel.refl _ | assumption | refine Bel.step_alloc ?_ _ | refine Bel.step_drew ?_ | refine Bel.step_drewN ?_ _ | refine Bel.step_set ?_ (by simp <;> omega) _ | refine Bel.trans ?_ (by assumption)))
                exact ((hS.later hB).set (p := ⟨p5, 0, none⟩) hp5 k0).set (p := ⟨p5, 1, none⟩) hp5 k1
            case rest =>
              replace hS := hcut
              clear hcut
              go_upto_region 7 with fail
              go_cut [7] (fun u7 wc => St w b' [u5, u6, u7] wc)
              case first =>
                obtain ⟨x0, x1, x2, x3, x4, x5, x6, x7, ⟨g0, g1, g2, g3, g4, g5, g6, g7⟩, c0, c1, c2, c3, c4, c5, c6, c7⟩ := hS.2.1
                go_region_held3 (fun w' => Bel wc w' ∧ w'.cell? ⟨b', 4, none⟩ = some (.int .i64 x4) ∧ w'.cell? ⟨b', 5, none⟩ = some (.int .i64 x5) ∧ w'.cell? ⟨b', 6, none⟩ = some (.int .i64 x6) ∧ w'.cell? ⟨b', 7, none⟩ = some (.int .i64 x7)) ((refine keep4 ?_ c4 c5 c6 c7; (repeat (first | exact Bel.refl _ | assumption | refine Bel.step_alloc ?_ _ | refine Bel.step_drew ?_ | refine Bel.step_drewN ?_ _ | refine Bel.step_set ?_ (by simp <;> omega) _ | refine Bel.trans ?_ (by assumption))))) ((go_at_call 121; refine (plus_any _ _ _ _ _ g4 g5 g6 g7).mono ?_; rintro e w2 ⟨z0, z1, rfl, hb2, k0, k1, -⟩; obtain ⟨hq2, hf2⟩ := hb2.cells))
                all_goals
                  go_wp2_with fail
                  go_meet
                  case rel =>
                    have hB : Bel wc w2 := by (repeat (first | exact Bel.refl _ | assumption | refine Bel.step_alloc ?_ _ | refine Bel.step_drew ?_ | refine Bel.step_drewN ?_ _ | refine Bel.step_set ?_ (by simp <;> omega) _ | refine Bel.trans ?_ (by assumption)))
                    have hz := hb2.size
                    have hw := (hS.1.trans hB).size
                    have hw1 := hS.1.size
                    simp only [World.size_alloc, World.size_drew] at hz
                    first
                      | (refine ((hS.later hB).later (Bel.step_alloc (Bel.refl _) _)).more ⟨w2.heap.size, z0, z1, rfl, hw, ?_, ?_, ?_, ?_, k0, k1⟩ <;> (simp; done))
                      | exact (((hS.later hB).set (p := ⟨wc.heap.size, 0, none⟩) hw1 k0).set (p := ⟨wc.heap.size, 1, none⟩) hw1 k1).more (BoxW.stored hw1 ((hq2 _ _ (by simp)).trans (by simp; rfl)) ((hq2 _ _ (by simp)).trans (by simp; rfl)) ((hf2 _ _ (by simp)).trans (by simp)) ((hf2 _ _ (by simp)).trans (by simp)) k0 k1)
              case rest =>
                replace hS := hcut
                clear hcut
                go_upto_region 8 with fail
                go_cut [8] (fun u8 wc => St w b' [u5, u6, u7, u8] wc)
                case first =>
                  obtain ⟨x0, x1, x2, x3, x4, x5, x6, x7, ⟨g0, g1, g2, g3, g4, g5, g6, g7⟩, c0, c1, c2, c3, c4, c5, c6, c7⟩ := hS.2.1
                  go_wp2_with fail
                  refine (turned_any _ _ _ _ g6 g7 (by decide)).mono ?_
                  rintro e w2 ⟨z0, z1, rfl, hb2, k0, k1, -⟩
                  go_wp2_with fail
                  go_meet
                  case rel =>
                    have hB : Bel wc w2 := by (repeat (first | exact Bel.refl _ | assumption | refine Bel.step_alloc ?_ _ | refine Bel.step_drew ?_ | refine Bel.step_drewN ?_ _ | refine Bel.step_set ?_ (by simp <;> omega) _ | refine Bel.trans ?_ (by assumption)))
                    exact ((hS.later hB).later (Bel.step_alloc (Bel.refl _) _)).more ⟨w2.heap.size, z0, z1, rfl, (hS.1.trans hB).size, by simp, by simp, by simp, by simp, k0, k1⟩
                case rest =>
                  replace hS := hcut
                  clear hcut
                  go_upto_region 9 with fail
                  go_cut [] (fun wc => St w b' [u5, u6, u7, u8] wc)
                  case first =>
                    obtain ⟨x0, x1, x2, x3, x4, x5, x6, x7, ⟨g0, g1, g2, g3, g4, g5, g6, g7⟩, c0, c1, c2, c3, c4, c5, c6, c7⟩ := hS.2.1
                    obtain ⟨p8, X8, Y8, rfl, hp8, c80, c81, f80, f81, hX8, hY8⟩ := hS.2.2 u8 (by simp)
                    obtain ⟨p7, X7, Y7, rfl, hp7, c70, c71, f70, f71, hX7, hY7⟩ := hS.2.2 u7 (by simp)
                    go_wp2_with fail
                    refine (mixed_any _ _ _ _ _ hX8 hY8 hX7 hY7).mono ?_
                    rintro e w2 ⟨z0, z1, rfl, hb2, k0, k1, -⟩
                    have d80 := hb2.cell c80
                    have d81 := hb2.cell c81
                    have e80 := hb2.frozen c80 f80
                    have e81 := hb2.frozen c81 f81
                    go_wp2_with fail
                    go_meet
                    case rel =>
                      have hB : Bel wc w2 := by (repeat (first | exact Bel.refl _ | assumption | refine Bel.step_alloc ?_ _ | refine Bel.step_drew ?_ | refine Bel.step_drewN ?_ _ | refine Bel.step_set ?_ (by simp <;> omega) _ | refine Bel.trans ?_ (by assumption)))
                      exact ((hS.later hB).set (p := ⟨p8, 0, none⟩) hp8 k0).set (p := ⟨p8, 1, none⟩) hp8 k1
                  case rest =>
                    replace hS := hcut
                    clear hcut
                    go_upto_region 10 with fail
                    go_cut [] (fun wc => St w b' [u5, u6, u7, u8] wc)
                    case first =>
                      obtain ⟨x0, x1, x2, x3, x4, x5, x6, x7, ⟨g0, g1, g2, g3, g4, g5, g6, g7⟩, c0, c1, c2, c3, c4, c5, c6, c7⟩ := hS.2.1
                      obtain ⟨p5, X5, Y5, rfl, hp5, c50, c51, f50, f51, hX5, hY5⟩ := hS.2.2 u5 (by simp)
                      obtain ⟨p8, X8, Y8, rfl, hp8, c80, c81, f80, f81, hX8, hY8⟩ := hS.2.2 u8 (by simp)
                      go_wp2_with fail
                      refine (plus_any _ _ _ _ _ hX5 hY5 hX8 hY8).mono ?_
                      rintro e w2 ⟨z0, z1, rfl, hb2, k0, k1, -⟩
                      have d50 := hb2.cell c50
                      have d51 := hb2.cell c51
                      have e50 := hb2.frozen c50 f50
                      have e51 := hb2.frozen c51 f51
                      go_wp2_with fail
                      go_meet
                      case rel =>
                        have hB : Bel wc w2 := by (repeat (first | exact Bel.refl _ | assumption | refine Bel.step_alloc ?_ _ | refine Bel.step_drew ?_ | refine Bel.step_drewN ?_ _ | refine Bel.step_set ?_ (by simp <;> omega) _ | refine Bel.trans ?_ (by assumption)))
                        exact ((hS.later hB).set (p := ⟨p5, 0, none⟩) hp5 k0).set (p := ⟨p5, 1, none⟩) hp5 k1
                    case rest =>
                      replace hS := hcut
                      clear hcut
                      go_upto_region 11 with fail
                      go_cut [] (fun wc => St w b' [u5, u6, u7, u8] wc)
                      case first =>
                        obtain ⟨x0, x1, x2, x3, x4, x5, x6, x7, ⟨g0, g1, g2, g3, g4, g5, g6, g7⟩, c0, c1, c2, c3, c4, c5, c6, c7⟩ := hS.2.1
                        obtain ⟨p8, X8, Y8, rfl, hp8, c80, c81, f80, f81, hX8, hY8⟩ := hS.2.2 u8 (by simp)
                        go_wp2_with fail
                        refine (turned_any _ _ _ _ hX8 hY8 (by decide)).mono ?_
                        rintro e w2 ⟨z0, z1, rfl, hb2, k0, k1, -⟩
                        have d80 := hb2.cell c80
                        have d81 := hb2.cell c81
                        have e80 := hb2.frozen c80 f80
                        have e81 := hb2.frozen c81 f81
                        go_wp2_with fail
                        go_meet
                        case rel =>
                          have hB : Bel wc w2 := by (repeat (first | exact Bel.refl _ | assumption | refine Bel.step_alloc ?_ _ | refine Bel.step_drew ?_ | refine Bel.step_drewN ?_ _ | refine Bel.step_set ?_ (by simp <;> omega) _ | refine Bel.trans ?_ (by assumption)))
                          exact ((hS.later hB).set (p := ⟨p8, 0, none⟩) hp8 k0).set (p := ⟨p8, 1, none⟩) hp8 k1
                      case rest =>
                        replace hS := hcut
                        clear hcut
                        go_upto_region 12 with fail
                        go_cut [] (fun wc => St w b' [u5, u6, u7, u8] wc)
                        case first =>
                          obtain ⟨x0, x1, x2, x3, x4, x5, x6, x7, ⟨g0, g1, g2, g3, g4, g5, g6, g7⟩, c0, c1, c2, c3, c4, c5, c6, c7⟩ := hS.2.1
                          obtain ⟨p8, X8, Y8, rfl, hp8, c80, c81, f80, f81, hX8, hY8⟩ := hS.2.2 u8 (by simp)
                          obtain ⟨p5, X5, Y5, rfl, hp5, c50, c51, f50, f51, hX5, hY5⟩ := hS.2.2 u5 (by simp)
                          go_wp2_with fail
                          refine (mixed_any _ _ _ _ _ hX8 hY8 hX5 hY5).mono ?_
                          rintro e w2 ⟨z0, z1, rfl, hb2, k0, k1, -⟩
                          have d80 := hb2.cell c80
                          have d81 := hb2.cell c81
                          have e80 := hb2.frozen c80 f80
                          have e81 := hb2.frozen c81 f81
                          go_wp2_with fail
                          go_meet
                          case rel =>
                            have hB : Bel wc w2 := by (repeat (first | exact Bel.refl _ | assumption | refine Bel.step_alloc ?_ _ | refine Bel.step_drew ?_ | refine Bel.step_drewN ?_ _ | refine Bel.step_set ?_ (by simp <;> omega) _ | refine Bel.trans ?_ (by assumption)))
                            exact ((hS.later hB).set (p := ⟨p8, 0, none⟩) hp8 k0).set (p := ⟨p8, 1, none⟩) hp8 k1
                        case rest =>
                          replace hS := hcut
                          clear hcut
                          go_upto_region 13 with fail
                          go_cut [] (fun wc => St w b' [u5, u6, u7, u8] wc)
                          case first =>
                            obtain ⟨x0, x1, x2, x3, x4, x5, x6, x7, ⟨g0, g1, g2, g3, g4, g5, g6, g7⟩, c0, c1, c2, c3, c4, c5, c6, c7⟩ := hS.2.1
                            obtain ⟨p7, X7, Y7, rfl, hp7, c70, c71, f70, f71, hX7, hY7⟩ := hS.2.2 u7 (by simp)
                            obtain ⟨p6, X6, Y6, rfl, hp6, c60, c61, f60, f61, hX6, hY6⟩ := hS.2.2 u6 (by simp)
                            go_wp2_with fail
                            refine (plus_any _ _ _ _ _ hX7 hY7 hX6 hY6).mono ?_
                            rintro e w2 ⟨z0, z1, rfl, hb2, k0, k1, -⟩
                            have d70 := hb2.cell c70
                            have d71 := hb2.cell c71
                            have e70 := hb2.frozen c70 f70
                            have e71 := hb2.frozen c71 f71
                            go_wp2_with fail
                            go_meet
                            case rel =>
                              have hB : Bel wc w2 := by (repeat (first | exact Bel.refl _ | assumption | refine Bel.step_alloc ?_ _ | refine Bel.step_drew ?_ | refine Bel.step_drewN ?_ _ | refine Bel.step_set ?_ (by simp <;> omega) _ | refine Bel.trans ?_ (by assumption)))
                              exact ((hS.later hB).set (p := ⟨p7, 0, none⟩) hp7 k0).set (p := ⟨p7, 1, none⟩) hp7 k1
                          case rest =>
                            replace hS := hcut
                            clear hcut
                            go_upto_region 14 with fail
                            go_cut [] (fun wc => St w b' [u5, u6, u7, u8] wc)
                            case first =>
                              obtain ⟨x0, x1, x2, x3, x4, x5, x6, x7, ⟨g0, g1, g2, g3, g4, g5, g6, g7⟩, c0, c1, c2, c3, c4, c5, c6, c7⟩ := hS.2.1
                              obtain ⟨p6, X6, Y6, rfl, hp6, c60, c61, f60, f61, hX6, hY6⟩ := hS.2.2 u6 (by simp)
                              go_wp2_with fail
                              refine (turned_any _ _ _ _ hX6 hY6 (by decide)).mono ?_
                              rintro e w2 ⟨z0, z1, rfl, hb2, k0, k1, -⟩
                              have d60 := hb2.cell c60
                              have d61 := hb2.cell c61
                              have e60 := hb2.frozen c60 f60
                              have e61 := hb2.frozen c61 f61
                              go_wp2_with fail
                              go_meet
                              case rel =>
                                have hB : Bel wc w2 := by (repeat (first | exact Bel.refl _ | assumption | refine Bel.step_alloc ?_ _ | refine Bel.step_drew ?_ | refine Bel.step_drewN ?_ _ | refine Bel.step_set ?_ (by simp <;> omega) _ | refine Bel.trans ?_ (by assumption)))
                                exact ((hS.later hB).set (p := ⟨p6, 0, none⟩) hp6 k0).set (p := ⟨p6, 1, none⟩) hp6 k1
                            case rest =>
                              replace hS := hcut
                              clear hcut
                              go_upto_region 15 with fail
                              go_cut [] (fun wc => St w b' [u5, u6, u7, u8] wc)
                              case first =>
                                obtain ⟨x0, x1, x2, x3, x4, x5, x6, x7, ⟨g0, g1, g2, g3, g4, g5, g6, g7⟩, c0, c1, c2, c3, c4, c5, c6, c7⟩ := hS.2.1
                                obtain ⟨p6, X6, Y6, rfl, hp6, c60, c61, f60, f61, hX6, hY6⟩ := hS.2.2 u6 (by simp)
                                obtain ⟨p7, X7, Y7, rfl, hp7, c70, c71, f70, f71, hX7, hY7⟩ := hS.2.2 u7 (by simp)
                                go_wp2_with fail
                                refine (mixed_any _ _ _ _ _ hX6 hY6 hX7 hY7).mono ?_
                                rintro e w2 ⟨z0, z1, rfl, hb2, k0, k1, -⟩
                                have d60 := hb2.cell c60
                                have d61 := hb2.cell c61
                                have e60 := hb2.frozen c60 f60
                                have e61 := hb2.frozen c61 f61
                                go_wp2_with fail
                                go_meet
                                case rel =>
                                  have hB : Bel wc w2 := by (repeat (first | exact Bel.refl _ | assumption | refine Bel.step_alloc ?_ _ | refine Bel.step_drew ?_ | refine Bel.step_drewN ?_ _ | refine Bel.step_set ?_ (by simp <;> omega) _ | refine Bel.trans ?_ (by assumption)))
                                  exact ((hS.later hB).set (p := ⟨p6, 0, none⟩) hp6 k0).set (p := ⟨p6, 1, none⟩) hp6 k1
                              case rest =>
                                replace hS := hcut
                                clear hcut
                                go_upto_region 16 with fail
                                go_cut [] (fun wc => St w b' [u5, u6, u7, u8] wc)
                                case first =>
                                  obtain ⟨x0, x1, x2, x3, x4, x5, x6, x7, ⟨g0, g1, g2, g3, g4, g5, g6, g7⟩, c0, c1, c2, c3, c4, c5, c6, c7⟩ := hS.2.1
                                  obtain ⟨p7, X7, Y7, rfl, hp7, c70, c71, f70, f71, hX7, hY7⟩ := hS.2.2 u7 (by simp)
                                  go_wp2_with fail
                                  refine (turned_any _ _ _ _ hX7 hY7 (by decide)).mono ?_
                                  rintro e w2 ⟨z0, z1, rfl, hb2, k0, k1, -⟩
                                  have d70 := hb2.cell c70
                                  have d71 := hb2.cell c71
                                  have e70 := hb2.frozen c70 f70
                                  have e71 := hb2.frozen c71 f71
                                  go_wp2_with fail
                                  go_meet
                                  case rel =>
                                    have hB : Bel wc w2 := by (repeat (first | exact Bel.refl _ | assumption | refine Bel.step_alloc ?_ _ | refine Bel.step_drew ?_ | refine Bel.step_drewN ?_ _ | refine Bel.step_set ?_ (by simp <;> omega) _ | refine Bel.trans ?_ (by assumption)))
                                    exact ((hS.later hB).set (p := ⟨p7, 0, none⟩) hp7 k0).set (p := ⟨p7, 1, none⟩) hp7 k1
                                case rest =>
                                  replace hS := hcut
                                  clear hcut
                                  obtain ⟨p5, X5, Y5, rfl, hp5, c50, c51, f50, f51, hX5, hY5⟩ := hS.2.2 u5 (by simp)
                                  obtain ⟨p6, X6, Y6, rfl, hp6, c60, c61, f60, f61, hX6, hY6⟩ := hS.2.2 u6 (by simp)
                                  obtain ⟨p7, X7, Y7, rfl, hp7, c70, c71, f70, f71, hX7, hY7⟩ := hS.2.2 u7 (by simp)
                                  obtain ⟨p8, X8, Y8, rfl, hp8, c80, c81, f80, f81, hX8, hY8⟩ := hS.2.2 u8 (by simp)
                                  go_wp2_with fail
                                  go_roundg (q - 1).toNat
                                  case measure => omega
                                  case rel => exact ⟨wc.heap.size, 4, q - 1, rfl, rfl, by omega, by omega, rfl, ⟨X5, Y5, X6, Y6, X7, Y7, X8, Y8, ⟨hX5, hY5, hX6, hY6, hX7, hY7, hX8, hY8⟩, by simp, by simp, by simp, by simp, by simp, by simp, by simp, by simp⟩, hS.1.step_alloc _⟩
    · go_wp2
      go_ret
      exact ⟨b', cap', rfl, hb, h4'⟩

end Go.Proofs.YtgfildmmcbjpnabGreat
