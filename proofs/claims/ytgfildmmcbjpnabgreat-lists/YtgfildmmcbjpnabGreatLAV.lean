import Derived.Test.YtgfildmmcbjpnabGreatLAQ
import Derived.Test.YtgfildmmcbjpnabGreatLAU
namespace Go.Proofs.YtgfildmmcbjpnabGreat
open Go.RowKit

theorem digits444 : Digits ⟨#[52, 52, 52]⟩ := digits_of [52, 52, 52] (by decide)
theorem digits222 : Digits ⟨#[50, 50, 50]⟩ := digits_of [50, 50, 50] (by decide)

/-- a part of a slice of entries -/
def cutE (ao : Option Addr) (_L cap n h : Nat) : Value := .slice (if cap = n then ao else ao.map (·.add (n * 3))) (h - n) (cap - n)
theorem slice_ents (wx : World) (ao : Option Addr) (L cap n m : Nat) (h : n + m ≤ L) (hc : L ≤ cap) :
    (Instr.slice 82 (.slice ao L cap) (some (.int .i64 n)) (some (.int .i64 ((L : Int) - (m : Int)))) none).run Tryz.prog wx = .ok (cutE ao L cap n (L - m)) wx := by
  rw [run_slice_lh (P := Tryz.prog) wx 82 ao L cap (by kernel_rfl) .i64 .i64 _ _ (by omega) (by omega) (by omega)]
  have e1 : ((L : Int) - (m : Int)).toNat = L - m := by omega
  have hs : (sizeOf (Tryz.prog.elem 82)).run Tryz.prog wx = .ok 3 wx := by kernel_rfl
  rw [hs]
  simp only [Result.andThen, sliced, cutE, Int.toNat_natCast, e1]
theorem EntsOff.cut {w : World} {ao : Option Addr} {cap n m : Nat} {E : List EN} (h : EntsOff w (.slice ao E.length cap) E) (hnm : n + m ≤ E.length) (hc : E.length ≤ cap) : EntsOff w (cutE ao E.length cap n (E.length - m)) ((E.drop n).take (E.length - m - n)) := by
  obtain ⟨ao', cap', hv, hcell⟩ := h
  simp only [Value.slice.injEq] at hv
  obtain ⟨rfl, -, rfl⟩ := hv
  have hl : ((E.drop n).take (E.length - m - n)).length = E.length - m - n := by simp; omega
  refine ⟨_, _, by rw [cutE, hl], fun j hj => ?_⟩
  rw [hl] at hj
  obtain ⟨g, off, h1, h2, h3, h4⟩ := hcell (n + j) (by omega)
  have hne : ¬ cap = n := by omega
  have e : ((E.drop n).take (E.length - m - n))[j]'(by rw [hl]; exact hj) = E[n + j]'(by omega) := by simp
  rw [e]
  refine ⟨g, off + n * 3, ?_, ?_, ?_, ?_⟩
  · rw [if_neg hne, h1]
    simp only [Option.map_some, Addr.add]
    split
    · rename_i h0; rw [h0]; rfl
    · rfl
  · rw [show off + n * 3 + j * 3 = off + (n + j) * 3 by omega]; exact h2
  · rw [show off + n * 3 + j * 3 + 1 = off + (n + j) * 3 + 1 by omega]; exact h3
  · rw [show off + n * 3 + j * 3 + 2 = off + (n + j) * 3 + 2 by omega]; exact h4

set_option maxRecDepth 100000 in
set_option maxHeartbeats 3200000 in
theorem patch_any (pa pb : Nat) (ca cb : Cfg) (ga gb : Int) (BA BB : List BK) (EA EB : List EN) (w : World) (hA : StateAt w pa ca ga BA EA) (hAo : StateOK ca ga BA EA) (hAI : ∀ x ∈ EA, W32 x.2.1 ∧ W32 x.2.2) (hB : StateAt w pb cb gb BB EB) (hBo : StateOK cb gb BB EB) (hBI : ∀ x ∈ EB, W32 x.2.1 ∧ W32 x.2.2) :
    Calls Tryz.prog 46 #[.pointer (some ⟨pa, 0, none⟩), .pointer (some ⟨pb, 0, none⟩)] w (RStr w Any) := by
  have hA0 := hA
  have hB0 := hB
  obtain ⟨vBa, vEa, _, a6, a7, a8, hpBa, hpEa⟩ := hA
  obtain ⟨vBb, vEb, _, b6, b7, b8, hpBb, hpEb⟩ := hB
  have hla := hAo.2.2.2.1
  have hlb := hBo.2.2.2.1
  have hga := hAo.2.1
  have hgb := hBo.2.1
  go_enter Tryz.func46, Tryz.ntmps46
  go_upto_region 1 with fail
  go_cut [5, 6] (fun v5 v6 wc => ∃ n m : Nat, v5 = .int .i64 n ∧ v6 = .int .i64 m ∧ n + m ≤ EA.length ∧ n + m ≤ EB.length ∧ Bel w wc)
  case first =>
    go_region_held3 (fun w' => Bel w w' ∧ w'.cell? ⟨pa, 8, none⟩ = some vEa ∧ w'.cell? ⟨pb, 8, none⟩ = some vEb) ((refine keep2 ?_ a8 b8; (repeat (first | exact Bel.refl _ | assumption | refine Bel.step_alloc ?_ _ | refine Bel.step_drew ?_ | refine Bel.step_drewN ?_ _ | refine Bel.step_set ?_ (by simp <;> omega) _ | refine Bel.trans ?_ (by assumption))))) ((go_at_call 87; refine (stay_any vEa vEb EA EB _ (hpEa.off.later (by (repeat (first | exact Bel.refl _ | assumption | refine Bel.step_alloc ?_ _ | refine Bel.step_drew ?_ | refine Bel.step_drewN ?_ _ | refine Bel.step_set ?_ (by simp <;> omega) _ | refine Bel.trans ?_ (by assumption))))) (hpEb.off.later (by (repeat (first | exact Bel.refl _ | assumption | refine Bel.step_alloc ?_ _ | refine Bel.step_drew ?_ | refine Bel.step_drewN ?_ _ | refine Bel.step_set ?_ (by simp <;> omega) _ | refine Bel.trans ?_ (by assumption))))) hla hlb).mono ?_; rintro e w4 ⟨n, m, rfl, hb4, hn, hm⟩))
    all_goals
      go_wp2_with fail
      go_meet
      case rel => exact ⟨n, m, rfl, rfl, hn, hm, by (repeat (first | exact Bel.refl _ | assumption | refine Bel.step_alloc ?_ _ | refine Bel.step_drew ?_ | refine Bel.step_drewN ?_ _ | refine Bel.step_set ?_ (by simp <;> omega) _ | refine Bel.trans ?_ (by assumption)))⟩
  case rest =>
    obtain ⟨n, m, rfl, rfl, hn, hm, hb⟩ := hcut
    go_wp2_with fail
    refine (image_any pa ca ga BA EA 1 _ (hA0.later hb) hAo ⟨by decide, by decide⟩ (fun x hx => ⟨(hAI x hx).1.i64, (hAI x hx).2.i64⟩)).mono ?_
    rintro e w1 ⟨t, rfl, hb1, ht1, ht2⟩
    go_wp2_with fail
    have hz : (t.extract 0 (t.size - 4)).size = t.size - 4 := by simp
    generalize t.extract 0 (t.size - 4) = tt at *
    refine (sum_any tt _ (by unfold maxLen; omega)).mono ?_
    rintro e w2 ⟨cc, rfl, hb2, hc1, hc2⟩
    have hbA := (hb.trans hb1).trans hb2
    have q6 := hbA.cell a6
    have r6 := hbA.cell b6
    go_upto_region 4 with fail
    go_cut [9] (fun v9 wc => ∃ z : ByteArray, v9 = .string z ∧ z.size ≤ 27 ∧ Bel w2 wc)
    case first =>
      go_region_held3 (fun w' => Bel w2 w' ∧ w'.cell? ⟨pa, 6, none⟩ = some (.int .i64 ga) ∧ w'.cell? ⟨pb, 6, none⟩ = some (.int .i64 gb)) ((refine keep2 ?_ q6 r6; (repeat (first | exact Bel.refl _ | assumption | refine Bel.step_alloc ?_ _ | refine Bel.step_drew ?_ | refine Bel.step_drewN ?_ _ | refine Bel.step_set ?_ (by simp <;> omega) _ | refine Bel.trans ?_ (by assumption))))) ((go_at_call 62; refine (fields_any _ 3 _ _ [ga, cc, gb] _ rfl (by decide) digits444 (by intro t ht; match t, ht with | 0, _ => simp | 1, _ => simp | 2, _ => simp) (I64.three hga ⟨by omega, by omega⟩ hgb)).mono ?_; rintro e w4 ⟨z, rfl, hb4, hz⟩))
      all_goals
        go_wp2_with fail
        go_meet
        case rel => exact ⟨z, rfl, by omega, by (repeat (first | exact Bel.refl _ | assumption | refine Bel.step_alloc ?_ _ | refine Bel.step_drew ?_ | refine Bel.step_drewN ?_ _ | refine Bel.step_set ?_ (by simp <;> omega) _ | refine Bel.trans ?_ (by assumption)))⟩
    case rest =>
      obtain ⟨z, rfl, hz9, hbz⟩ := hcut
      have hbB := hbA.trans hbz
      have s7 := hbB.cell b7
      go_wp2_with fail
      refine (names_any BB vBb _ (hpBb.later hbB) hBo.2.2.1).mono ?_
      rintro e w3 ⟨nm, rfl, hb3, hnm⟩
      have hnm2 : nm.size ≤ 81 := hnm
      clear hnm
      have hbC := hbB.trans hb3
      have s8 := hbC.cell b8
      obtain ⟨ao, cap, rfl, hcE⟩ := hpEb.off
      go_wp2_with fail
      refine (fields_any _ 3 _ _ [(n : Int), m, EB.length - n - m] _ rfl (by decide) digits222 (by intro t ht; match t, ht with | 0, _ => simp | 1, _ => simp | 2, _ => simp) (I64.three ⟨by omega, by omega⟩ ⟨by omega, by omega⟩ ⟨by omega, by omega⟩)).mono ?_
      rintro e w5 ⟨kk, rfl, hb5, hkk⟩
      have hbD : Bel w w5 := hbC.trans (by (repeat (first | exact Bel.refl _ | assumption | refine Bel.step_alloc ?_ _ | refine Bel.step_drew ?_ | refine Bel.step_drewN ?_ _ | refine Bel.step_set ?_ (by simp <;> omega) _ | refine Bel.trans ?_ (by assumption))))
      have t8 := hbD.cell b8
      go_upto_region 7 with fail
      have hcapE : EB.length ≤ cap := by
        rcases hpEb.form with ⟨h1, h2⟩ | ⟨g, cap', h1, h2, _⟩
        · simp [h2]
        · simp only [Value.slice.injEq] at h1
          omega
      have hsl := fun wx => slice_ents wx ao EB.length cap n m hm hcapE
      have hwr : IntKind.i64.wrap ((EB.length : Int) - (m : Int)) = (EB.length : Int) - (m : Int) := by rw [IntKind.wrap_i64]; omega
      go_cut [12] (fun v12 wc => ∃ z : ByteArray, v12 = .string z ∧ z.size ≤ 3780000 ∧ Bel w5 wc)
      case first =>
        have hEo : EntsOff w (.slice ao EB.length cap) EB := ⟨ao, cap, rfl, hcE⟩
        have hcut := hEo.cut hm hcapE
        have hlc : ((EB.drop n).take (EB.length - m - n)).length ≤ 140000 := by simp; omega
        have hmem : ∀ x ∈ (EB.drop n).take (EB.length - m - n), x ∈ EB := fun x hx => List.mem_of_mem_drop (List.mem_of_mem_take hx)
        go_region_held3 (fun w' => Bel w5 w' ∧ w'.cell? ⟨pb, 8, none⟩ = some (.slice ao EB.length cap) ∧ True) ((exact ⟨by (repeat (first | exact Bel.refl _ | assumption | refine Bel.step_alloc ?_ _ | refine Bel.step_drew ?_ | refine Bel.step_drewN ?_ _ | refine Bel.step_set ?_ (by simp <;> omega) _ | refine Bel.trans ?_ (by assumption))), Bel.cell (by (repeat (first | exact Bel.refl _ | assumption | refine Bel.step_alloc ?_ _ | refine Bel.step_drew ?_ | refine Bel.step_drewN ?_ _ | refine Bel.step_set ?_ (by simp <;> omega) _ | refine Bel.trans ?_ (by assumption)))) t8, trivial⟩)) ((go_at_call 85; refine (plain_any pb cb gb BB EB _ _ _ (hB0.later (hbD.trans (by (repeat (first | exact Bel.refl _ | assumption | refine Bel.step_alloc ?_ _ | refine Bel.step_drew ?_ | refine Bel.step_drewN ?_ _ | refine Bel.step_set ?_ (by simp <;> omega) _ | refine Bel.trans ?_ (by assumption)))))) hBo.2.2.1.1 (hcut.later (hbD.trans (by (repeat (first | exact Bel.refl _ | assumption | refine Bel.step_alloc ?_ _ | refine Bel.step_drew ?_ | refine Bel.step_drewN ?_ _ | refine Bel.step_set ?_ (by simp <;> omega) _ | refine Bel.trans ?_ (by assumption)))))) hlc (fun x hx => ⟨hBo.2.2.2.2.1 x (hmem x hx), (hBI x (hmem x hx)).1.i64, (hBI x (hmem x hx)).2.i64⟩)).mono ?_; rintro e w6 ⟨z6, rfl, hb6, hz6⟩))
        all_goals
          go_wp2_with fail
          go_meet
          case rel => exact ⟨z6, rfl, by have h := hz6; omega, by (repeat (first | exact Bel.refl _ | assumption | refine Bel.step_alloc ?_ _ | refine Bel.step_drew ?_ | refine Bel.step_drewN ?_ _ | refine Bel.step_set ?_ (by simp <;> omega) _ | refine Bel.trans ?_ (by assumption)))⟩
      case rest =>
        obtain ⟨z12, rfl, hz12, hb12⟩ := hcut
        clear hsl
        go_wp2_with fail
        have hkk2 : kk.size ≤ 27 := hkk
        have hsz : (({ data := #[67, 80] } : ByteArray) ++ z ++ nm ++ kk ++ z12).size ≤ 8990000 := by
          simp only [ByteArray.size_append, show (({ data := #[67, 80] } : ByteArray)).size = 2 from rfl]
          omega
        refine (sealed_any _ _ (by omega)).mono ?_
        rintro e w7 ⟨t7, rfl, hb7, -⟩
        go_wp2
        go_ret
        exact ⟨_, rfl, hbD.trans (by (repeat (first | exact Bel.refl _ | assumption | refine Bel.step_alloc ?_ _ | refine Bel.step_drew ?_ | refine Bel.step_drewN ?_ _ | refine Bel.step_set ?_ (by simp <;> omega) _ | refine Bel.trans ?_ (by assumption)))), trivial⟩

end Go.Proofs.YtgfildmmcbjpnabGreat

namespace Go.Proofs.YtgfildmmcbjpnabGreat
open Go.RowKit

def WholeIs (c : Cfg) (gen : Int) (E : List EN) (x : Bool) : Prop := x = true → c.OK ∧ 1 ≤ gen ∧ gen ≤ 1073741824 ∧ (¬ Pointed c → E = [] ∨ (E.length : Int) = c.slots)
theorem WholeIs.no (c : Cfg) (gen : Int) (E : List EN) : WholeIs c gen E false := fun h => by cases h

set_option maxRecDepth 100000 in
set_option maxHeartbeats 3200000 in
theorem whole_any (p : Nat) (c : Cfg) (gen : Int) (B : List BK) (E : List EN) (w : World) (h : StateAt w p c gen B E) (hfit : c.Fit) (hB : PoolOK B) (hE : E.length ≤ 140000) :
    Calls Tryz.prog 83 #[.pointer (some ⟨p, 0, none⟩)] w (RBool w (WholeIs c gen E)) := by
  have h0 := h
  obtain ⟨vB, vE, ⟨c0, c1, c2, c3, c4, c5⟩, c6, c7, c8, hpB, hpE⟩ := h
  have hm := may_any c w hfit
  simp only [Cfg.cells] at hm
  obtain ⟨aoB, capB, rfl, hcB⟩ : ∃ ao cap, vB = .slice ao B.length cap ∧ ∀ j (hj : j < B.length), ∃ g, ao = some ⟨g, 0, none⟩ ∧ w.cell? ⟨g, j * 2, none⟩ = some (.string B[j].1) ∧ w.cell? ⟨g, j * 2 + 1, none⟩ = some (.int .i64 B[j].2) := by
    rcases hpB.form with ⟨rfl, rfl⟩ | ⟨g, cap, rfl, _, _, hc⟩
    · exact ⟨_, _, rfl, fun j hj => by simp at hj⟩
    · exact ⟨_, _, rfl, fun j hj => ⟨g, rfl, hc j hj⟩⟩
  obtain ⟨ao, cap, rfl, hc⟩ := hpE.off
  clear hpB hpE
  go_enter Tryz.func83, Tryz.ntmps83
  go_wp2_with fail
  refine hm.mono ?_
  rintro e w1 ⟨ok, rfl, hb1, hok⟩
  clear hm
  have d6 := hb1.cell c6
  cases ok
  · go_wp2
    go_ret
    exact ⟨_, rfl, by (repeat (first | exact Bel.refl _ | assumption | refine Bel.step_alloc ?_ _ | refine Bel.step_drew ?_ | refine Bel.step_drewN ?_ _ | refine Bel.step_set ?_ (by simp <;> omega) _ | refine Bel.trans ?_ (by assumption))), WholeIs.no _ _ _⟩
  · have hok' : Hid c.OK := hok.1 rfl
    clear hok
    by_cases hg1 : gen < 1
    · go_wp2
      go_ret
      exact ⟨_, rfl, by (repeat (first | exact Bel.refl _ | assumption | refine Bel.step_alloc ?_ _ | refine Bel.step_drew ?_ | refine Bel.step_drewN ?_ _ | refine Bel.step_set ?_ (by simp <;> omega) _ | refine Bel.trans ?_ (by assumption))), WholeIs.no _ _ _⟩
    · by_cases hg2 : 1073741824 < gen
      · go_wp2
        go_ret
        exact ⟨_, rfl, by (repeat (first | exact Bel.refl _ | assumption | refine Bel.step_alloc ?_ _ | refine Bel.step_drew ?_ | refine Bel.step_drewN ?_ _ | refine Bel.step_set ?_ (by simp <;> omega) _ | refine Bel.trans ?_ (by assumption))), WholeIs.no _ _ _⟩
      · go_wp2_with fail
        refine (pointed_any p c gen B E _ (h0.later hb1)).mono ?_
        rintro e w2 ⟨pb, rfl, hb2, hpb⟩
        have hbA := hb1.trans hb2
        have e0 := hbA.cell c0
        have e2 := hbA.cell c2
        have HG : Hid (1 ≤ gen ∧ gen ≤ 1073741824) := ⟨by omega, by omega⟩
        clear d6 hg1 hg2
        have hP3 : 1 ≤ c.points ∧ c.points ≤ 3 := ⟨hok'.out.2.2.2.2.2.1, hok'.out.2.2.2.2.2.2.1⟩
        obtain ⟨hP1, hP2⟩ := hP3
        go_upto_if 42 with fail
        go_cut [6] (fun v6 wc => w2 = wc ∧ ∃ per : Int, v6 = .int .i64 per ∧ 0 ≤ per ∧ per ≤ 3)
        case first =>
          by_cases halg : (c.alg == 2) = true
          · go_wp2_with fail
            go_meet
            case rel => exact ⟨rfl, _, rfl, by omega, by omega⟩
          · have halg' : (c.alg == 2) = false := by simpa using halg
            go_wp2_with fail
            go_meet
            case rel => exact ⟨rfl, _, rfl, by omega, by omega⟩
        case rest =>
          obtain ⟨rfl, per, rfl, hper1, hper2⟩ := hcut
          have f7 := hbA.cell c7
          have f8 := hbA.cell c8
          go_wp2_with fail
          go_loopg [4, 7] B.length (fun r t i wr => Bel w2 wr ∧ ∃ (tot : Int) (k : Nat), k ≤ B.length ∧ r = B.length - k ∧ t = .int .i64 tot ∧ i = .int .i64 k ∧ 0 ≤ tot ∧ tot ≤ 6 * k)
          case atStart => exact ⟨Bel.refl _, 0, 0, by omega, by omega, rfl, rfl, by omega, by omega⟩
          case round =>
            obtain ⟨hbo, tot, k, hk, hr, rfl, rfl, ht0, ht6⟩ := hrel
            by_cases hlt : k < B.length
            · obtain ⟨gB, rfl, b0, b1⟩ := hcB k hlt
              have b0w := hbA.cell b0
              have b1w := hbA.cell b1
              have b0' := hbo.cell b0w
              have b1' := hbo.cell b1w
              have f7' := hbo.cell f7
              have f8' := hbo.cell f8
              have hgood := hB.2 _ (List.getElem_mem hlt)
              have hk8 := hB.1
              generalize B[k] = bk at *
              obtain ⟨idk, wt⟩ := bk
              simp only at b0' b1' hgood b0w b1w
              obtain ⟨-, -, hw0, hw6⟩ := hgood
              have hltb : decide ((k : Int) < (B.length : Int)) = true := decide_eq_true (by omega)
              go_wp2_with fail
              go_loopg [8, 9] E.length (fun r n j wx => Bel w2 wx ∧ ∃ (m q : Nat), q ≤ E.length ∧ r = E.length - q ∧ n = .int .i64 m ∧ j = .int .i64 q ∧ m ≤ q)
              case atStart => exact ⟨hbo, 0, 0, by omega, by omega, rfl, rfl, by omega⟩
              case round =>
                obtain ⟨hbr, m, q, hq, hr', rfl, rfl, hmq⟩ := hrel
                have g7 := hbr.cell f7
                have g8 := hbr.cell f8
                have b0'' := hbr.cell b0w
                have b1'' := hbr.cell b1w
                by_cases hlt' : q < E.length
                · obtain ⟨gE, off, rfl, s0, s1, s2⟩ := hc q hlt'
                  have s0' := (hbA.trans hbr).cell s0
                  generalize E[q] = en at *
                  obtain ⟨ide, ehi, elo⟩ := en
                  simp only at s0'
                  cases heq : (ide.toList == idk.toList)
                  · go_wp2_with fail
                    go_quiet (fail)
                    go_wp2_with fail
                    go_roundg (E.length - (q + 1))
                    case measure => omega
                    case rel => exact ⟨by (repeat (first | exact Bel.refl _ | assumption | refine Bel.step_alloc ?_ _ | refine Bel.step_drew ?_ | refine Bel.step_drewN ?_ _ | refine Bel.step_set ?_ (by simp <;> omega) _ | refine Bel.trans ?_ (by assumption))), m, q + 1, by omega, rfl, rfl, by go_num, by omega⟩
                  · go_wp2_with fail
                    go_quiet (fail)
                    go_wp2_with fail
                    go_roundg (E.length - (q + 1))
                    case measure => omega
                    case rel => exact ⟨by (repeat (first | exact Bel.refl _ | assumption | refine Bel.step_alloc ?_ _ | refine Bel.step_drew ?_ | refine Bel.step_drewN ?_ _ | refine Bel.step_set ?_ (by simp <;> omega) _ | refine Bel.trans ?_ (by assumption))), m + 1, q + 1, by omega, rfl, by go_num, by go_num, by omega⟩
                · have hpw : 0 ≤ per * wt ∧ per * wt ≤ 18 := by
                    rcases (show per = 0 ∨ per = 1 ∨ per = 2 ∨ per = 3 by omega) with rfl | rfl | rfl | rfl <;> omega
                  obtain ⟨hpw1, hpw2⟩ := hpw
                  have hm6 : m ≤ 140000 := by omega
                  go_upto_region 18 with fail
                  go_cut [114] (fun v wc => Bel w2 wc ∧ ∃ x, v = .bool x)
                  case first =>
                    cases pb
                    all_goals cases hn : ((m : Int) != per * wt)
                    all_goals cases hw : (wt == 0)
                    all_goals by_cases hm0 : 0 < m
                    all_goals
                      go_wp2_with fail
                      go_meet
                      case rel => exact ⟨hbr, _, rfl⟩
                  case rest =>
                    obtain ⟨hbc, x, rfl⟩ := hcut
                    have z7 := hbc.cell f7
                    have z1 := hbc.cell b1w
                    cases x
                    · go_wp2_with fail
                      go_roundg (B.length - (k + 1))
                      case measure => omega
                      case rel => exact ⟨by (repeat (first | exact Bel.refl _ | assumption | refine Bel.step_alloc ?_ _ | refine Bel.step_drew ?_ | refine Bel.step_drewN ?_ _ | refine Bel.step_set ?_ (by simp <;> omega) _ | refine Bel.trans ?_ (by assumption))), tot + wt, k + 1, by omega, rfl, rfl, by go_num, by omega, by omega⟩
                    · go_wp2
                      go_ret
                      exact ⟨_, rfl, by (repeat (first | exact Bel.refl _ | assumption | refine Bel.step_alloc ?_ _ | refine Bel.step_drew ?_ | refine Bel.step_drewN ?_ _ | refine Bel.step_set ?_ (by simp <;> omega) _ | refine Bel.trans ?_ (by assumption))), WholeIs.no _ _ _⟩
            · have hokp : pb = false → ¬ Pointed c := fun h1 h2 => by rw [hpb.2 h2] at h1; cases h1
              have f1' := hbo.cell (hbA.cell c1)
              have f8' := hbo.cell f8
              have f7' := hbo.cell f7
              cases pb
              · have hnp : Hid (¬ Pointed c) := hokp rfl
                clear hokp hpb
                by_cases ht : 0 < tot
                · have htd : decide (0 < tot) = true := decide_eq_true ht
                  have ht0' : (tot == 0) = false := by rw [beq_eq_false_iff_ne]; omega
                  cases hE2 : ((E.length : Int) == c.slots)
                  · go_wp2_with fail
                    go_quiet (fail)
                    go_wp2
                    go_ret
                    exact ⟨_, rfl, by (repeat (first | exact Bel.refl _ | assumption | refine Bel.step_alloc ?_ _ | refine Bel.step_drew ?_ | refine Bel.step_drewN ?_ _ | refine Bel.step_set ?_ (by simp <;> omega) _ | refine Bel.trans ?_ (by assumption))), WholeIs.no _ _ _⟩
                  · have HE2 : Hid ((E.length : Int) = c.slots) := beq_iff_eq.1 hE2
                    go_wp2_with fail
                    go_quiet (fail)
                    go_wp2
                    go_ret
                    exact ⟨_, rfl, by (repeat (first | exact Bel.refl _ | assumption | refine Bel.step_alloc ?_ _ | refine Bel.step_drew ?_ | refine Bel.step_drewN ?_ _ | refine Bel.step_set ?_ (by simp <;> omega) _ | refine Bel.trans ?_ (by assumption))), fun _ => ⟨hok'.out, HG.out.1, HG.out.2, fun _ => Or.inr HE2.out⟩⟩
                · have htd : decide (0 < tot) = false := decide_eq_false ht
                  have ht0' : (tot == 0) = true := by rw [beq_iff_eq]; omega
                  cases hE2 : ((E.length : Int) == 0)
                  · go_wp2_with fail
                    go_quiet (fail)
                    go_wp2
                    go_ret
                    exact ⟨_, rfl, by (repeat (first | exact Bel.refl _ | assumption | refine Bel.step_alloc ?_ _ | refine Bel.step_drew ?_ | refine Bel.step_drewN ?_ _ | refine Bel.step_set ?_ (by simp <;> omega) _ | refine Bel.trans ?_ (by assumption))), WholeIs.no _ _ _⟩
                  · have HE2 : Hid (E = []) := by
                      have h1 : (E.length : Int) = 0 := beq_iff_eq.1 hE2
                      exact List.eq_nil_of_length_eq_zero (by omega)
                    go_wp2_with fail
                    go_quiet (fail)
                    go_wp2
                    go_ret
                    exact ⟨_, rfl, by (repeat (first | exact Bel.refl _ | assumption | refine Bel.step_alloc ?_ _ | refine Bel.step_drew ?_ | refine Bel.step_drewN ?_ _ | refine Bel.step_set ?_ (by simp <;> omega) _ | refine Bel.trans ?_ (by assumption))), fun _ => ⟨hok'.out, HG.out.1, HG.out.2, fun _ => Or.inl HE2.out⟩⟩
              · have hpt : Hid (Pointed c) := hpb.1 rfl
                clear hokp hpb
                go_wp2_with fail
                go_loopg [10] E.length (fun r i wx => Bel w2 wx ∧ ∃ (j : Nat), r = E.length - j ∧ i = .int .i64 ((j : Int) + 1))
                case atStart => exact ⟨hbo, 0, by omega, rfl⟩
                case round =>
                  obtain ⟨hbr, j, hr', rfl⟩ := hrel
                  have g8 := hbr.cell f8
                  by_cases hlt' : j + 1 < E.length
                  · obtain ⟨gE, off, rfl, s0, s1, s2⟩ := hc j (by omega)
                    obtain ⟨gE', off', hao, v0, v1, v2⟩ := hc (j + 1) hlt'
                    simp only [Option.some.injEq, Addr.mk.injEq, and_true] at hao
                    obtain ⟨rfl, rfl⟩ := hao
                    have s0' := (hbA.trans hbr).cell s0
                    have s1' := (hbA.trans hbr).cell s1
                    have s2' := (hbA.trans hbr).cell s2
                    have v0' := (hbA.trans hbr).cell v0
                    have v1' := (hbA.trans hbr).cell v1
                    have v2' := (hbA.trans hbr).cell v2
                    have hpw : p < wr.heap.size := World.block_lt_of_cell? wr _ g8
                    have hgw : gE < wr.heap.size := World.block_lt_of_cell? wr _ s0'
                    clear hc hcB s0 s1 s2 v0 v1 v2
                    generalize E[j] = en at *
                    obtain ⟨ide, ehi, elo⟩ := en
                    generalize E[j + 1] = en at *
                    obtain ⟨idf, fhi, flo⟩ := en
                    simp only at s0' s1' s2' v0' v1' v2'
                    go_wp2_with fail
                    refine (below_any ehi elo fhi flo _).mono ?_
                    rintro e w5 ⟨less, rfl, hb5, -⟩
                    obtain ⟨hq5, hf5⟩ := hb5.cellsTo (wr.heap.size + 1 + 1) (by simp)
                    go_upto_region 29 with fail
                    go_cut [198] (fun v wc => Bel w2 wc ∧ ∃ x, v = .bool x)
                    case first =>
                      cases less
                      · go_wp2_with fail
                        all_goals
                          go_meet
                          case rel => exact ⟨by (repeat (first | exact Bel.refl _ | assumption | refine Bel.step_alloc ?_ _ | refine Bel.step_drew ?_ | refine Bel.step_drewN ?_ _ | refine Bel.step_set ?_ (by simp <;> omega) _ | refine Bel.trans ?_ (by assumption))), _, rfl⟩
                      · go_wp2_with fail
                        go_meet
                        case rel => exact ⟨by (repeat (first | exact Bel.refl _ | assumption | refine Bel.step_alloc ?_ _ | refine Bel.step_drew ?_ | refine Bel.step_drewN ?_ _ | refine Bel.step_set ?_ (by simp <;> omega) _ | refine Bel.trans ?_ (by assumption))), _, rfl⟩
                    case rest =>
                      obtain ⟨hbc, x, rfl⟩ := hcut
                      cases x
                      · go_wp2_with fail
                        go_roundg (E.length - (j + 1))
                        case measure => omega
                        case rel => exact ⟨hbc, j + 1, rfl, by go_num⟩
                      · go_wp2
                        go_ret
                        exact ⟨_, rfl, by (repeat (first | exact Bel.refl _ | assumption | refine Bel.step_alloc ?_ _ | refine Bel.step_drew ?_ | refine Bel.step_drewN ?_ _ | refine Bel.step_set ?_ (by simp <;> omega) _ | refine Bel.trans ?_ (by assumption))), WholeIs.no _ _ _⟩
                  · go_wp2
                    go_ret
                    exact ⟨_, rfl, by (repeat (first | exact Bel.refl _ | assumption | refine Bel.step_alloc ?_ _ | refine Bel.step_drew ?_ | refine Bel.step_drewN ?_ _ | refine Bel.step_set ?_ (by simp <;> omega) _ | refine Bel.trans ?_ (by assumption))), fun _ => ⟨hok'.out, HG.out.1, HG.out.2, fun h => absurd hpt.out h⟩⟩

end Go.Proofs.YtgfildmmcbjpnabGreat
