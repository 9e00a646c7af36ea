import Derived.Test.YtgfildmmcbjpnabGreatLAZ
import Derived.Deep.QuietTactic
import Derived.BigQuiet
import Derived.Deep.RegionWith
namespace Go.Proofs.YtgfildmmcbjpnabGreat
open Go.RowKit

set_option maxRecDepth 100000 in
set_option maxHeartbeats 8000000 in
theorem comes_is (p : Nat) (speaks : Int) (has : Value) (hg gen format : Int) (got : Value) (ng : Nat) (no : Bool) (frame : ByteArray) (w : World) (h : PlaneAt w p speaks has gen format got no) (hh : HasAt w has hg) (hge : I64 gen) (hfo : I64 format) (hgot : StrsAt w got ng) (hng : ng ≤ 65535) (hgp : ∀ g, got.ownBlock = some g → g ≠ p) (hfr : frame.size ≤ 1099511627776) :
    Calls Tryz.prog 66 #[.pointer (some ⟨p, 0, none⟩), .string frame] w (RComes w p speaks has got) := by
  have hpw : p < w.heap.size := World.block_lt_of_cell? w _ h.1.1
  have HI0 : Hid (PlI w p speaks has got gen format got ng no w) := ⟨But.refl _ _, h, hge, hfo, hgot, hng, fun g hg => ⟨hgp g hg, Or.inl hg⟩⟩
  have HH := Hid.mk hh
  clear h hh hge hfo hgot hng hgp
  obtain ⟨i0, hi, hz0, hz1, hz2⟩ := info_parts Tryz.infoStr
  go_enter Tryz.func66, Tryz.ntmps66
  go_wp2_with fail
  refine (unsealed_any frame _ hfr).mono ?_
  rintro e w1 ⟨a, ok, rfl, hb1, ha, -⟩
  have HI1 := Hid.mk (HI0.out.later hb1)
  have HH1 := Hid.mk (HH.out.later hb1)
  clear HI0 HH hb1
  cases ok
  · go_wp2
    (first | ((try simp only [Exit.inBlock, Exit.then]); refine bodyPost_ret (results_none rfl _ _ _) rfl ?_) | go_end0)
    exact HI1.out.done
  by_cases h2 : a.size < 2
  · have h2b : decide ((a.size : Int) < 2) = true := decide_eq_true (by omega)
    go_wp2
    (first | ((try simp only [Exit.inBlock, Exit.then]); refine bodyPost_ret (results_none rfl _ _ _) rfl ?_) | go_end0)
    exact HI1.out.done
  have h2b : decide ((a.size : Int) < 2) = false := decide_eq_false (by omega)
  have hby0 := byte_bd a 0 (by omega)
  cases hA : (((a[0]'(by omega)).toNat : Int) != 65)
  rotate_left
  · go_wp2
    (first | ((try simp only [Exit.inBlock, Exit.then]); refine bodyPost_ret (results_none rfl _ _ _) rfl ?_) | go_end0)
    exact HI1.out.done
  have hby1 := byte_bd a 1 (by omega)
  by_cases h22 : a.size = 2
  · have h22b : ((a.size : Int) == 2) = true := by rw [h22]; rfl
    obtain ⟨c0, c1, c2, c3, c4, c5⟩ := HI1.out.2.1.1
    have f5 := HI1.out.2.1.2 5
    have HP : Hid (∀ b : Bool, PlI w p speaks has got gen format got ng b (w1.setCell ⟨p, 5, none⟩ (.bool b))) := fun b => by
      obtain ⟨q1, q2, q3, q4, q5, q6, q7⟩ := HI1.out
      exact ⟨q1.put (Or.inl (by simp)) _, q2.put0.2.2.2.1 b, q3, q4, q5.put (fun e => (q7 _ e).1 rfl) _, q6, q7⟩
    go_wp2
    all_goals (first | ((try simp only [Exit.inBlock, Exit.then]); refine bodyPost_ret (results_none rfl _ _ _) rfl ?_) | go_end0)
    all_goals first | exact HI1.out.done | exact (HP.out _).done
  have h22b : ((a.size : Int) == 2) = false := by rw [beq_eq_false_iff_ne]; omega
  cases hB : (((a[1]'(by omega)).toNat : Int) != 1)
  rotate_left
  · go_wp2
    (first | ((try simp only [Exit.inBlock, Exit.then]); refine bodyPost_ret (results_none rfl _ _ _) rfl ?_) | go_end0)
    exact HI1.out.done
  by_cases h12 : a.size < 12
  · have h12b : decide ((a.size : Int) < 12) = true := decide_eq_true (by omega)
    go_wp2
    (first | ((try simp only [Exit.inBlock, Exit.then]); refine bodyPost_ret (results_none rfl _ _ _) rfl ?_) | go_end0)
    exact HI1.out.done
  have h12b : decide ((a.size : Int) < 12) = false := decide_eq_false (by omega)
  by_cases h59 : 59 < a.size
  · have h59b : decide ((a.size : Int) > 59) = true := decide_eq_true (by omega)
    go_wp2
    (first | ((try simp only [Exit.inBlock, Exit.then]); refine bodyPost_ret (results_none rfl _ _ _) rfl ?_) | go_end0)
    exact HI1.out.done
  have h59b : decide ((a.size : Int) > 59) = false := decide_eq_false (by omega)
  have hz1 : (a.extract 2 6).size = 4 := by simp; omega
  have hz2 : (a.extract 7 9).size = 2 := by simp; omega
  have hz3 : (a.extract 9 11).size = 2 := by simp; omega
  have hby6 := byte_bd a 6 (by omega)
  go_wp2_with fail
  refine (number_any _ _ (by omega)).mono ?_
  rintro e w2 ⟨rfl, rfl⟩
  have n1 := numOf4 _ hz1
  generalize numOf (a.extract 2 6).data.toList = fgen at *
  go_wp2_with fail
  refine (number_any _ _ (by omega)).mono ?_
  rintro e w2 ⟨rfl, rfl⟩
  have n2 := numOf_lt' _ 2 (Nat.le_of_eq hz2)
  generalize numOf (a.extract 7 9).data.toList = fn at *
  go_wp2_with fail
  refine (number_any _ _ (by omega)).mono ?_
  rintro e w2 ⟨rfl, rfl⟩
  have n3 := numOf_lt' _ 2 (Nat.le_of_eq hz3)
  generalize numOf (a.extract 9 11).data.toList = fk at *
  obtain ⟨n20, n21⟩ := n2
  obtain ⟨n30, n31⟩ := n3
  have n21' : fn < 65536 := by simpa using n21
  have n31' : fk < 65536 := by simpa using n31
  clear n21 n31 hz1 hz2 hz3
  obtain ⟨nn, rfl⟩ := Int.eq_ofNat_of_zero_le n20
  obtain ⟨kk, rfl⟩ := Int.eq_ofNat_of_zero_le n30
  have hpg := pgen_any p speaks has hg gen format got no w1 HI1.out.2.1 HH1.out
  go_wp2_with fail
  refine hpg.mono ?_
  rintro e w2 ⟨rfl, rfl⟩
  clear hpg
  obtain ⟨c0, c1, c2, c3, c4, c5⟩ := HI1.out.2.1.1
  have hz4 : (a.extract 11 a.size).size ≤ 48 := by simp; omega
  have HZ4 := Hid.mk hz4
  clear hA hB hby0 hby1 h2b h22b h12b h59b hz4
  generalize hfb : ((a[6]'(by omega)).toNat : Int) = fb at *
  by_cases e1 : fgen ≤ hg
  · have e1b : decide (fgen ≤ hg) = true := decide_eq_true e1
    go_wp2
    (first | ((try simp only [Exit.inBlock, Exit.then]); refine bodyPost_ret (results_none rfl _ _ _) rfl ?_) | go_end0)
    exact HI1.out.done
  have e1b : decide (fgen ≤ hg) = false := decide_eq_false e1
  by_cases e2 : fgen < gen
  · have e2b : decide (fgen < gen) = true := decide_eq_true e2
    go_wp2
    (first | ((try simp only [Exit.inBlock, Exit.then]); refine bodyPost_ret (results_none rfl _ _ _) rfl ?_) | go_end0)
    exact HI1.out.done
  have e2b : decide (fgen < gen) = false := decide_eq_false e2
  by_cases e3 : nn ≤ kk
  · have e3b : decide ((kk : Int) ≥ (nn : Int)) = true := decide_eq_true (by omega)
    go_wp2
    (first | ((try simp only [Exit.inBlock, Exit.then]); refine bodyPost_ret (results_none rfl _ _ _) rfl ?_) | go_end0)
    exact HI1.out.done
  have e3b : decide ((kk : Int) ≥ (nn : Int)) = false := decide_eq_false (by omega)
  cases e4 : (bits BinOp.and IntKind.i64 fb speaks == 0)
  rotate_left
  · go_wp2
    (first | ((try simp only [Exit.inBlock, Exit.then]); refine bodyPost_ret (results_none rfl _ _ _) rfl ?_) | go_end0)
    exact HI1.out.done
  have hnn : nn ≤ 65535 := by omega
  have hkn : kk < nn := by omega
  clear n20 n21' n30 n31'
  go_upto_if 108 with fail
  go_cut [7] (fun u wc => u = .int .i64 fb ∧ ∃ (gen' format' : Int) (got' : Value) (ng' : Nat), PlI w p speaks has got gen' format' got' ng' no wc)
  case first =>
    by_cases e5 : gen < fgen
    · have e5b : decide (fgen > gen) = true := decide_eq_true e5
      have f2 := HI1.out.2.1.2 2
      have f3 := HI1.out.2.1.2 3
      have f4 := HI1.out.2.1.2 4
      have hplt : p < w1.heap.size := World.block_lt_of_cell? w1 _ c0
      go_wp2_with (first | (at_make; refine wpList_make_full _ rfl _ _ 36 rfl w1.heap.size 9 i0 (.string ByteArray.empty) 1 Tryz.underlying36 hi hz0 hz1 _ _ _ _ nn rfl rfl rfl rfl ?b2 ?b3 ?b4 ?_))
      case b2 => first | omega | (rw [hz2]; omega)
      case b3 => unfold maxLen; omega
      case b4 => simp [World.setCell]
      intro w3 hown3 hg3
      have hb3 := (Bel.refl _).grown hg3 (fun g hg => by cases hg)
      have HF := Hid.mk (HI1.out.fresh ⟨by have := n1.1; omega, by have := n1.2; omega⟩ ⟨by omega, by omega⟩ hnn hb3 (StrsAt.made hown3) hplt)
      have d4 : w3.cell? ⟨p, 4, none⟩ = some got := hb3.cell ((set_other (by simp)).trans ((set_other (by simp)).trans c4))
      have g4 : w3.frozen? ⟨p, 4, none⟩ = false := hb3.frozen ((set_other (by simp)).trans ((set_other (by simp)).trans c4)) (by rw [frozen_set, frozen_set]; exact f4)
      clear hown3 hg3 hb3
      go_wp2_with fail
      go_meet
      case rel => exact ⟨rfl, _, _, _, _, HF.out⟩
    · have e5b : decide (fgen > gen) = false := decide_eq_false e5
      go_wp2_with fail
      go_meet
      case rel => exact ⟨rfl, gen, format, got, ng, HI1.out⟩
  case rest =>
    obtain ⟨rfl, gen', format', got', ng', hI⟩ := hcut
    have HI2 := Hid.mk hI
    obtain ⟨d0, d1, d2, d3, d4, d5⟩ := hI.2.1.1
    have hst := hI.2.2.2.2.1
    have hfz := Hid.mk hI.2.1.2
    clear hI HI1 HH1 c0 c1 c2 c3 c4 c5 e4 e1b e2b e3b
    generalize wc = w2 at *
    cases e6 : (fb != format')
    rotate_left
    · rcases hst with ⟨rfl, rfl⟩ | ⟨g, cap, rfl, -, -⟩
      all_goals
        go_wp2
        (first | ((try simp only [Exit.inBlock, Exit.then]); refine bodyPost_ret (results_none rfl _ _ _) rfl ?_) | go_end0)
        exact HI2.out.done
    rcases hst with ⟨rfl, rfl⟩ | ⟨g, cap, rfl, hgl, hcs⟩
    · have e7 : ((nn : Int) != 0) = true := by rw [bne_iff_ne]; omega
      go_wp2
      (first | ((try simp only [Exit.inBlock, Exit.then]); refine bodyPost_ret (results_none rfl _ _ _) rfl ?_) | go_end0)
      exact HI2.out.done
    by_cases h7 : nn = ng'
    rotate_left
    · have e7 : ((nn : Int) != (ng' : Int)) = true := by rw [bne_iff_ne]; omega
      go_wp2
      (first | ((try simp only [Exit.inBlock, Exit.then]); refine bodyPost_ret (results_none rfl _ _ _) rfl ?_) | go_end0)
      exact HI2.out.done
    subst h7
    have e7 : ((nn : Int) != (nn : Int)) = false := by simp
    have f5 := hfz.out 5
    have hgp : g ≠ p := (HI2.out.2.2.2.2.2.2 g rfl).1
    obtain ⟨s0, k0, k1, -⟩ := hcs kk hkn
    have x4 : (w2.setCell ⟨p, 5, none⟩ (.bool false)).cell? ⟨p, 4, none⟩ = some (.slice (some ⟨g, 0, none⟩) nn cap) := (set_other (by simp)).trans d4
    have xk : (w2.setCell ⟨p, 5, none⟩ (.bool false)).cell? ⟨g, kk, none⟩ = some (.string s0) := (set_other (Or.inl hgp.symm)).trans k0
    have fk : (w2.setCell ⟨p, 5, none⟩ (.bool false)).frozen? ⟨g, kk, none⟩ = false := by rw [frozen_set]; exact k1
    have HP : Hid (∀ wx, Bel (w2.setCell ⟨p, 5, none⟩ (.bool false)) wx → PlI w p speaks has got gen' format' (.slice (some ⟨g, 0, none⟩) nn cap) nn false (wx.setCell ⟨g, kk, none⟩ (.string (a.extract 11 a.size)))) := fun wx hb => HI2.out.piece HZ4.out hb
    clear hcs k0 k1 HI2 d0 d1 d2
    go_upto_region 18 with fail
    generalize w2.setCell ⟨p, 5, none⟩ (.bool false) = w3 at *
    have hpl : p < w3.heap.size := World.block_lt_of_cell? w3 _ x4
    have hgl3 : g < w3.heap.size := World.block_lt_of_cell? w3 _ xk
    go_cut [9] (fun u wc => u = .int .i64 (kk : Int) ∧ PlI w p speaks has got gen' format' (.slice (some ⟨g, 0, none⟩) nn cap) nn false wc)
    case first =>
      go_region_with fail
      all_goals
        go_wp2_with fail
        go_meet
        case rel => first | exact ⟨rfl, HP.out _ (by (repeat (first | exact Bel.refl _ | assumption | refine Bel.step_alloc ?_ _ | refine Bel.step_drew ?_ | refine Bel.step_drewN ?_ _ | refine Bel.step_set ?_ (by simp <;> omega) _ | refine Bel.trans ?_ (by assumption))))⟩ | exact ⟨rfl, (HP.out _ (by (repeat (first | exact Bel.refl _ | assumption | refine Bel.step_alloc ?_ _ | refine Bel.step_drew ?_ | refine Bel.step_drewN ?_ _ | refine Bel.step_set ?_ (by simp <;> omega) _ | refine Bel.trans ?_ (by assumption))))).later (by (repeat (first | exact Bel.refl _ | assumption | refine Bel.step_alloc ?_ _ | refine Bel.step_drew ?_ | refine Bel.step_drewN ?_ _ | refine Bel.step_set ?_ (by simp <;> omega) _ | refine Bel.trans ?_ (by assumption))))⟩
    case rest =>
      obtain ⟨rfl, hI⟩ := hcut
      clear x4 xk fk HP hpl hgl3 d3 d4 d5 hfz f5
      generalize wc = w4 at *
      have HI4 := Hid.mk hI
      obtain ⟨d0, d1, d2, d3, d4, d5⟩ := hI.2.1.1
      have f1 := hI.2.1.2 1
      have f2 := hI.2.1.2 2
      have f4 := hI.2.1.2 4
      obtain hcs : ∀ j, j < nn → ∃ s : ByteArray, w4.cell? ⟨g, j, none⟩ = some (.string s) ∧ s.size ≤ 48 := fun j hj => by
        rcases hI.2.2.2.2.1 with ⟨h, _⟩ | ⟨g', cap', hv, -, hc⟩
        · cases h
        · simp only [Value.slice.injEq, Option.some.injEq, Addr.mk.injEq, and_true, true_and] at hv
          obtain ⟨rfl, -⟩ := hv
          obtain ⟨s, h1, -, h3⟩ := hc j hj
          exact ⟨s, h1, h3⟩
      have HCS := Hid.mk hcs
      clear hI hcs
      go_wp2
      go_loopg [11, 12, 13] nn (fun r va vw vi wr => w4 = wr ∧ ∃ (k : Nat) (all : ByteArray) (wh : Bool), r = nn - k ∧ k ≤ nn ∧ va = .string all ∧ vw = .bool wh ∧ vi = .int .i64 k ∧ all.size ≤ 48 * k)
      case atStart => exact ⟨rfl, 0, _, true, by omega, by omega, rfl, rfl, rfl, by decide⟩
      case round =>
        obtain ⟨rfl, k, all, wh, hrk, hk, rfl, rfl, rfl, hall⟩ := hrel
        by_cases hkl : k < nn
        · have hkb : decide ((k : Int) < (nn : Int)) = true := decide_eq_true (by omega)
          obtain ⟨s1, q1, q2⟩ := HCS.out k hkl
          have hkn2 : (k : Int) < (nn : Int) := by omega
          have HSZ : Hid ((all ++ s1).size ≤ 48 * (k + 1)) := by show (all ++ s1).size ≤ _; rw [ByteArray.size_append]; omega
          cases hw : wh
          · go_wp2
            go_roundg (nn - (k + 1))
            case measure => omega
            case rel => exact ⟨rfl, k + 1, _, _, rfl, by omega, rfl, rfl, by go_num, HSZ.out⟩
          · go_wp2
            all_goals
              go_roundg (nn - (k + 1))
              case measure => omega
              case rel => exact ⟨rfl, k + 1, _, _, rfl, by omega, rfl, rfl, by go_num, HSZ.out⟩
        · have hkb : decide ((k : Int) < (nn : Int)) = false := decide_eq_false (by omega)
          cases wh
          · go_wp2
            (first | ((try simp only [Exit.inBlock, Exit.then]); refine bodyPost_ret (results_none rfl _ _ _) rfl ?_) | go_end0)
            exact HI4.out.done
          · have HO5 := Hid.mk HI4.out.over
            have hal : all.size ≤ 1099511627776 := by omega
            have hsz5 := HO5.out.1.size
            have HSZ5 := Hid.mk hsz5
            clear hsz5 HCS
            go_wp2_with fail
            refine (read3_any all _ hal).mono ?_
            rintro e w6 ⟨v, rf, ok, rfl, hb6, hok⟩
            have HO6 := Hid.mk (HO5.out.later hb6)
            cases ok
            · clear hok
              go_wp2
              all_goals (first | ((try simp only [Exit.inBlock, Exit.then]); refine bodyPost_ret (results_none rfl _ _ _) rfl ?_) | go_end0)
              all_goals exact HO6.out.done
            · obtain ⟨q, c, rg, B, E, rfl, hq, hSN, hSO, hWW, hg1, hg2, -⟩ := hok rfl
              have s6 : w6.cell? ⟨q, 6, none⟩ = some (.int .i64 rg) := by obtain ⟨vB, vE, ⟨_, h6, _⟩, _⟩ := hSN; exact h6
              have HF := Hid.mk (HO6.out.holds hSN HSZ5.out hpw hSO hWW)
              have x1 := HO6.out.2.1.1.2.1
              have y1 := HO6.out.2.1.2 1
              clear hok hSN hSO hWW d0 d1 d2 d3 d4 d5 f1 f2 f4
              go_wp2
              all_goals (first | ((try simp only [Exit.inBlock, Exit.then]); refine bodyPost_ret (results_none rfl _ _ _) rfl ?_) | go_end0)
              all_goals first | exact HO6.out.done | exact HF.out

end Go.Proofs.YtgfildmmcbjpnabGreat
