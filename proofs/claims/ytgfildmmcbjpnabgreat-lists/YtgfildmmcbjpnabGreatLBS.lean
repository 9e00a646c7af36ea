import Derived.Test.YtgfildmmcbjpnabGreatLAW
import Derived.Test.YtgfildmmcbjpnabGreatLBI
namespace Go.Proofs.YtgfildmmcbjpnabGreat
open Go.RowKit

theorem digits4122 : Digits ⟨#[52, 49, 50, 50]⟩ := digits_of [52, 49, 50, 50] (by decide)
theorem I64.four {a b c d : Int} (ha : I64 a) (hb : I64 b) (hc : I64 c) (hd : I64 d) : ∀ t, I64 ([a, b, c, d].getD t 0) := by
  intro t
  match t with
  | 0 => exact ha
  | 1 => exact hb
  | 2 => exact hc
  | 3 => exact hd
  | _ + 4 => exact (show I64 0 from ⟨by decide, by decide⟩)
/-- a byte and some bits of another number -/
theorem and_byte (a : Nat) (b : Int) (ha : a ≤ 255) (hb : 0 ≤ b) (hb2 : b ≤ 9223372036854775807) : 0 ≤ bits .and .i64 (a : Int) b ∧ bits .and .i64 (a : Int) b ≤ 255 := by
  obtain ⟨B, rfl⟩ := Int.eq_ofNat_of_zero_le hb
  rw [i64_and_nat a B (by omega) (by omega)]
  have := Nat.and_le_left (n := a) (m := B)
  omega

set_option maxRecDepth 100000 in
set_option maxHeartbeats 4000000 in
theorem answer_any (vs : Value) (gen speaks : Int) (frame : ByteArray) (w : World) (hv : HasAt w vs gen) (hs1 : 0 ≤ speaks) (hs3 : speaks ≤ 3) (hf : frame.size ≤ 1099511627776) :
    Calls Tryz.prog 32 #[vs, .int .i64 speaks, .string frame] w (RStr w Any) := by
  go_enter Tryz.func32, Tryz.ntmps32
  go_wp2_with fail
  refine (unsealed_any frame _ hf).mono ?_
  rintro e w1 ⟨q, ok, rfl, hb1, hq, -⟩
  cases ok
  · go_wp2
    go_ret
    exact ⟨_, rfl, hb1, trivial⟩
  by_cases h13 : q.size = 13
  rotate_left
  · have h13' : ((q.size : Int) != 13) = true := by rw [bne_iff_ne]; omega
    go_wp2
    go_ret
    exact ⟨_, rfl, hb1, trivial⟩
  have h13a : 13 ≤ q.size := by omega
  have h13b : q.size ≤ 13 := by omega
  have h13' : ((q.size : Int) != 13) = false := by rw [bne_eq_false_iff_eq]; omega
  clear h13
  have hb0 := byte_bd q 0 (by omega)
  have hb5 := byte_bd q 5 (by omega)
  cases hQ : (((q[0]'(by omega)).toNat : Int) != 81)
  rotate_left
  · go_wp2
    go_ret
    exact ⟨_, rfl, hb1, trivial⟩
  have hz1 : (q.extract 1 5).size = 4 := by simp; omega
  have hz2 : (q.extract 6 10).size = 4 := by simp; omega
  have hz3 : (q.extract 11 13).size = 2 := by simp; omega
  go_wp2_with fail
  refine (number_any _ _ (by omega)).mono ?_
  rintro e w2 ⟨rfl, rfl⟩
  have n1 := numOf4 _ hz1
  generalize numOf (q.extract 1 5).data.toList = has at *
  have hand := and_byte (q[5]'(by omega)).toNat speaks (by omega) hs1 (by omega)
  go_wp2_with fail
  refine (number_any _ _ (by omega)).mono ?_
  rintro e w3 ⟨rfl, rfl⟩
  have n2 := numOf4 _ hz2
  generalize numOf (q.extract 6 10).data.toList = qgen at *
  go_wp2_with fail
  refine (number_any _ _ (by omega)).mono ?_
  rintro e w4 ⟨rfl, rfl⟩
  have n3 := numOf_lt' _ 2 (Nat.le_of_eq hz3)
  generalize numOf (q.extract 11 13).data.toList = k at *
  obtain ⟨k0, k1⟩ := n3
  have k1' : k < 65536 := by simpa using k1
  clear k1
  obtain ⟨kk, rfl⟩ := Int.eq_ofNat_of_zero_le k0
  have k2 : kk ≤ 65535 := by omega
  clear k0 k1'
  generalize bits BinOp.and IntKind.i64 ((q[5]'(by omega)).toNat : Int) speaks = f at *
  obtain ⟨f0, f1⟩ := hand
  by_cases hf0 : f = 0
  · subst hf0
    go_wp2_with fail
    refine (sealed_any _ _ (by decide)).mono ?_
    rintro e w5 ⟨t, rfl, hb5, -⟩
    go_wp2
    go_ret
    exact ⟨_, rfl, by (repeat (first | exact Bel.refl _ | assumption | refine Bel.step_alloc ?_ _ | refine Bel.step_drew ?_ | refine Bel.step_drewN ?_ _ | refine Bel.step_set ?_ (by simp <;> omega) _ | refine Bel.trans ?_ (by assumption))), trivial⟩
  have hf0' : (f == 0) = false := by simpa using hf0
  rcases hv with ⟨rfl, rfl⟩ | ⟨p, c, B, E, rfl, hSt, hOK, hWW⟩
  · go_wp2_with fail
    refine (sealed_any _ _ (by decide)).mono ?_
    rintro e w5 ⟨t, rfl, hb5, -⟩
    go_wp2
    go_ret
    exact ⟨_, rfl, by (repeat (first | exact Bel.refl _ | assumption | refine Bel.step_alloc ?_ _ | refine Bel.step_drew ?_ | refine Bel.step_drewN ?_ _ | refine Bel.step_set ?_ (by simp <;> omega) _ | refine Bel.trans ?_ (by assumption))), trivial⟩
  have hSt1 := hSt.later hb1
  have hgi := hOK.2.1
  obtain ⟨vB, vE, _, c6, _⟩ := hSt1
  by_cases hhas : has = gen
  · subst hhas
    go_wp2_with fail
    refine (sealed_any _ _ (by decide)).mono ?_
    rintro e w5 ⟨t, rfl, hb5, -⟩
    go_wp2
    go_ret
    exact ⟨_, rfl, by (repeat (first | exact Bel.refl _ | assumption | refine Bel.step_alloc ?_ _ | refine Bel.step_drew ?_ | refine Bel.step_drewN ?_ _ | refine Bel.step_set ?_ (by simp <;> omega) _ | refine Bel.trans ?_ (by assumption))), trivial⟩
  have hhas' : (has == gen) = false := by simpa using hhas
  go_upto_region 12 with fail
  go_cut [13] (fun v13 wc => w1 = wc ∧ ∃ g : Bool, v13 = .bool g)
  case first =>
    have hb10 := byte_bd q 10 (by omega)
    cases hf3 : (f == 3) <;> cases hqg : (qgen == gen) <;> cases hq10 : (((q[10]'(by omega)).toNat : Int) == 1)
    all_goals
      go_wp2_with fail
      go_meet
      case rel => exact ⟨rfl, _, rfl⟩
  case rest =>
    obtain ⟨rfl, goes, rfl⟩ := hcut
    cases goes
    · by_cases hf2 : 1 < f
      · go_wp2_with fail
        refine (image_any p c gen B E _ _ (hSt.later hb1) hOK ⟨by omega, by omega⟩ (fun x hx => ⟨(hWW x hx).1.i64, (hWW x hx).2.i64⟩)).mono ?_
        rintro e w5 ⟨t, rfl, hb5', ht1, ht2⟩
        have d6 := hb5'.cell c6
        go_upto_region 19 with fail
        go_cut [104] (fun v wc => w5 = wc ∧ ∃ b : Bool, v = .bool b ∧ (b = false → 48 * kk ≤ t.size))
        case first =>
          cases hqg : (qgen != gen)
          · by_cases hkn : (kk : Int) < ((t.size : Int) + 47) / 48
            all_goals
              go_wp2_with fail
              go_meet
              case rel => exact ⟨rfl, _, rfl, fun h => by first | omega | (cases h; done) | (simp at h; omega)⟩
          · go_wp2_with fail
            go_meet
            case rel => exact ⟨rfl, _, rfl, fun h => by cases h⟩
        case rest =>
          obtain ⟨rfl, b, rfl, hkk⟩ := hcut
          go_upto_if 104 with fail
          go_cut [12] (fun v12 wc => w5 = wc ∧ ∃ k2 : Nat, v12 = .int .i64 k2 ∧ 48 * k2 ≤ t.size ∧ k2 ≤ 65535)
          case first =>
            cases b
            · have hk3 := hkk rfl
              go_wp2_with fail
              go_meet
              case rel => exact ⟨rfl, kk, rfl, hk3, k2⟩
            · go_wp2_with fail
              go_meet
              case rel => exact ⟨rfl, 0, rfl, by omega, by omega⟩
          case rest =>
            obtain ⟨rfl, k3, rfl, hk3, hk4⟩ := hcut
            clear hkk
            go_upto_region 22 with fail
            have hpz : (t.extract (48 * k3) t.size).size ≤ 9000000 := by simp; omega
            generalize t.extract (48 * k3) t.size = piece at *
            go_upto_if 111 with fail
            all_goals
              go_cut [16] (fun v wc => w5 = wc ∧ ∃ pc : ByteArray, v = .string pc ∧ pc.size ≤ 9000000)
              case first =>
                go_wp2_with fail
                all_goals
                  go_meet
                  case rel => exact ⟨rfl, _, rfl, by first | exact hpz | (simp; omega)⟩
              case rest =>
                obtain ⟨rfl, pc, rfl, hpc⟩ := hcut
                go_wp2_with fail
                refine (fields_any _ 4 _ _ [gen, 2, ((t.size : Int) + 47) / 48, (k3 : Int)] _ rfl (by decide) digits4122 (by intro t ht; match t, ht with | 0, _ => simp | 1, _ => simp | 2, _ => simp | 3, _ => simp) (I64.four hgi ⟨by omega, by omega⟩ ⟨by omega, by omega⟩ ⟨by omega, by omega⟩)).mono ?_
                rintro e w7 ⟨hh, rfl, hb7, hhh⟩
                have hh2 : hh.size ≤ 36 := hhh
                clear hhh
                go_wp2_with fail
                refine (sealed_any _ _ (by simp only [ByteArray.size_append, show (({ data := #[65, 1] } : ByteArray)).size = 2 from rfl]; omega)).mono ?_
                rintro e w8 ⟨t8, rfl, hb8, -⟩
                go_wp2
                go_ret
                exact ⟨_, rfl, by (repeat (first | exact Bel.refl _ | assumption | refine Bel.step_alloc ?_ _ | refine Bel.step_drew ?_ | refine Bel.step_drewN ?_ _ | refine Bel.step_set ?_ (by simp <;> omega) _ | refine Bel.trans ?_ (by assumption))), trivial⟩
      · go_wp2_with fail
        refine (image_any p c gen B E _ _ (hSt.later hb1) hOK ⟨by omega, by omega⟩ (fun x hx => ⟨(hWW x hx).1.i64, (hWW x hx).2.i64⟩)).mono ?_
        rintro e w5 ⟨t, rfl, hb5', ht1, ht2⟩
        have d6 := hb5'.cell c6
        go_upto_region 19 with fail
        go_cut [104] (fun v wc => w5 = wc ∧ ∃ b : Bool, v = .bool b ∧ (b = false → 48 * kk ≤ t.size))
        case first =>
          cases hqg : (qgen != gen)
          · by_cases hkn : (kk : Int) < ((t.size : Int) + 47) / 48
            all_goals
              go_wp2_with fail
              go_meet
              case rel => exact ⟨rfl, _, rfl, fun h => by first | omega | (cases h; done) | (simp at h; omega)⟩
          · go_wp2_with fail
            go_meet
            case rel => exact ⟨rfl, _, rfl, fun h => by cases h⟩
        case rest =>
          obtain ⟨rfl, b, rfl, hkk⟩ := hcut
          go_upto_if 104 with fail
          go_cut [12] (fun v12 wc => w5 = wc ∧ ∃ k2 : Nat, v12 = .int .i64 k2 ∧ 48 * k2 ≤ t.size ∧ k2 ≤ 65535)
          case first =>
            cases b
            · have hk3 := hkk rfl
              go_wp2_with fail
              go_meet
              case rel => exact ⟨rfl, kk, rfl, hk3, k2⟩
            · go_wp2_with fail
              go_meet
              case rel => exact ⟨rfl, 0, rfl, by omega, by omega⟩
          case rest =>
            obtain ⟨rfl, k3, rfl, hk3, hk4⟩ := hcut
            clear hkk
            go_upto_region 22 with fail
            have hpz : (t.extract (48 * k3) t.size).size ≤ 9000000 := by simp; omega
            generalize t.extract (48 * k3) t.size = piece at *
            go_upto_if 111 with fail
            all_goals
              go_cut [16] (fun v wc => w5 = wc ∧ ∃ pc : ByteArray, v = .string pc ∧ pc.size ≤ 9000000)
              case first =>
                go_wp2_with fail
                all_goals
                  go_meet
                  case rel => exact ⟨rfl, _, rfl, by first | exact hpz | (simp; omega)⟩
              case rest =>
                obtain ⟨rfl, pc, rfl, hpc⟩ := hcut
                go_wp2_with fail
                refine (fields_any _ 4 _ _ [gen, f, ((t.size : Int) + 47) / 48, (k3 : Int)] _ rfl (by decide) digits4122 (by intro t ht; match t, ht with | 0, _ => simp | 1, _ => simp | 2, _ => simp | 3, _ => simp) (I64.four hgi ⟨by omega, by omega⟩ ⟨by omega, by omega⟩ ⟨by omega, by omega⟩)).mono ?_
                rintro e w7 ⟨hh, rfl, hb7, hhh⟩
                have hh2 : hh.size ≤ 36 := hhh
                clear hhh
                go_wp2_with fail
                refine (sealed_any _ _ (by simp only [ByteArray.size_append, show (({ data := #[65, 1] } : ByteArray)).size = 2 from rfl]; omega)).mono ?_
                rintro e w8 ⟨t8, rfl, hb8, -⟩
                go_wp2
                go_ret
                exact ⟨_, rfl, by (repeat (first | exact Bel.refl _ | assumption | refine Bel.step_alloc ?_ _ | refine Bel.step_drew ?_ | refine Bel.step_drewN ?_ _ | refine Bel.step_set ?_ (by simp <;> omega) _ | refine Bel.trans ?_ (by assumption))), trivial⟩
    · by_cases hf2 : 1 < f
      · go_wp2_with fail
        refine (image_any p c gen B E _ _ (hSt.later hb1) hOK ⟨by omega, by omega⟩ (fun x hx => ⟨(hWW x hx).1.i64, (hWW x hx).2.i64⟩)).mono ?_
        rintro e w5 ⟨t, rfl, hb5', ht1, ht2⟩
        have d6 := hb5'.cell c6
        go_upto_region 19 with fail
        go_cut [104] (fun v wc => w5 = wc ∧ ∃ b : Bool, v = .bool b ∧ (b = false → 48 * kk ≤ t.size))
        case first =>
          cases hqg : (qgen != gen)
          · by_cases hkn : (kk : Int) < ((t.size : Int) + 47) / 48
            all_goals
              go_wp2_with fail
              go_meet
              case rel => exact ⟨rfl, _, rfl, fun h => by first | omega | (cases h; done) | (simp at h; omega)⟩
          · go_wp2_with fail
            go_meet
            case rel => exact ⟨rfl, _, rfl, fun h => by cases h⟩
        case rest =>
          obtain ⟨rfl, b, rfl, hkk⟩ := hcut
          go_upto_if 104 with fail
          go_cut [12] (fun v12 wc => w5 = wc ∧ ∃ k2 : Nat, v12 = .int .i64 k2 ∧ 48 * k2 ≤ t.size ∧ k2 ≤ 65535)
          case first =>
            cases b
            · have hk3 := hkk rfl
              go_wp2_with fail
              go_meet
              case rel => exact ⟨rfl, kk, rfl, hk3, k2⟩
            · go_wp2_with fail
              go_meet
              case rel => exact ⟨rfl, 0, rfl, by omega, by omega⟩
          case rest =>
            obtain ⟨rfl, k3, rfl, hk3, hk4⟩ := hcut
            clear hkk
            go_upto_region 22 with fail
            have hpz : (t.extract (48 * k3) t.size).size ≤ 9000000 := by simp; omega
            generalize t.extract (48 * k3) t.size = piece at *
            go_upto_if 111 with fail
            all_goals
              go_cut [16] (fun v wc => w5 = wc ∧ ∃ pc : ByteArray, v = .string pc ∧ pc.size ≤ 9000000)
              case first =>
                go_wp2_with fail
                all_goals
                  go_meet
                  case rel => exact ⟨rfl, _, rfl, by first | exact hpz | (simp; omega)⟩
              case rest =>
                obtain ⟨rfl, pc, rfl, hpc⟩ := hcut
                go_wp2_with fail
                refine (fields_any _ 4 _ _ [gen, 1, ((t.size : Int) + 47) / 48, (k3 : Int)] _ rfl (by decide) digits4122 (by intro t ht; match t, ht with | 0, _ => simp | 1, _ => simp | 2, _ => simp | 3, _ => simp) (I64.four hgi ⟨by omega, by omega⟩ ⟨by omega, by omega⟩ ⟨by omega, by omega⟩)).mono ?_
                rintro e w7 ⟨hh, rfl, hb7, hhh⟩
                have hh2 : hh.size ≤ 36 := hhh
                clear hhh
                go_wp2_with fail
                refine (sealed_any _ _ (by simp only [ByteArray.size_append, show (({ data := #[65, 1] } : ByteArray)).size = 2 from rfl]; omega)).mono ?_
                rintro e w8 ⟨t8, rfl, hb8, -⟩
                go_wp2
                go_ret
                exact ⟨_, rfl, by (repeat (first | exact Bel.refl _ | assumption | refine Bel.step_alloc ?_ _ | refine Bel.step_drew ?_ | refine Bel.step_drewN ?_ _ | refine Bel.step_set ?_ (by simp <;> omega) _ | refine Bel.trans ?_ (by assumption))), trivial⟩
      · go_wp2_with fail
        refine (image_any p c gen B E _ _ (hSt.later hb1) hOK ⟨by omega, by omega⟩ (fun x hx => ⟨(hWW x hx).1.i64, (hWW x hx).2.i64⟩)).mono ?_
        rintro e w5 ⟨t, rfl, hb5', ht1, ht2⟩
        have d6 := hb5'.cell c6
        go_upto_region 19 with fail
        go_cut [104] (fun v wc => w5 = wc ∧ ∃ b : Bool, v = .bool b ∧ (b = false → 48 * kk ≤ t.size))
        case first =>
          cases hqg : (qgen != gen)
          · by_cases hkn : (kk : Int) < ((t.size : Int) + 47) / 48
            all_goals
              go_wp2_with fail
              go_meet
              case rel => exact ⟨rfl, _, rfl, fun h => by first | omega | (cases h; done) | (simp at h; omega)⟩
          · go_wp2_with fail
            go_meet
            case rel => exact ⟨rfl, _, rfl, fun h => by cases h⟩
        case rest =>
          obtain ⟨rfl, b, rfl, hkk⟩ := hcut
          go_upto_if 104 with fail
          go_cut [12] (fun v12 wc => w5 = wc ∧ ∃ k2 : Nat, v12 = .int .i64 k2 ∧ 48 * k2 ≤ t.size ∧ k2 ≤ 65535)
          case first =>
            cases b
            · have hk3 := hkk rfl
              go_wp2_with fail
              go_meet
              case rel => exact ⟨rfl, kk, rfl, hk3, k2⟩
            · go_wp2_with fail
              go_meet
              case rel => exact ⟨rfl, 0, rfl, by omega, by omega⟩
          case rest =>
            obtain ⟨rfl, k3, rfl, hk3, hk4⟩ := hcut
            clear hkk
            go_upto_region 22 with fail
            have hpz : (t.extract (48 * k3) t.size).size ≤ 9000000 := by simp; omega
            generalize t.extract (48 * k3) t.size = piece at *
            go_upto_if 111 with fail
            all_goals
              go_cut [16] (fun v wc => w5 = wc ∧ ∃ pc : ByteArray, v = .string pc ∧ pc.size ≤ 9000000)
              case first =>
                go_wp2_with fail
                all_goals
                  go_meet
                  case rel => exact ⟨rfl, _, rfl, by first | exact hpz | (simp; omega)⟩
              case rest =>
                obtain ⟨rfl, pc, rfl, hpc⟩ := hcut
                go_wp2_with fail
                refine (fields_any _ 4 _ _ [gen, 1, ((t.size : Int) + 47) / 48, (k3 : Int)] _ rfl (by decide) digits4122 (by intro t ht; match t, ht with | 0, _ => simp | 1, _ => simp | 2, _ => simp | 3, _ => simp) (I64.four hgi ⟨by omega, by omega⟩ ⟨by omega, by omega⟩ ⟨by omega, by omega⟩)).mono ?_
                rintro e w7 ⟨hh, rfl, hb7, hhh⟩
                have hh2 : hh.size ≤ 36 := hhh
                clear hhh
                go_wp2_with fail
                refine (sealed_any _ _ (by simp only [ByteArray.size_append, show (({ data := #[65, 1] } : ByteArray)).size = 2 from rfl]; omega)).mono ?_
                rintro e w8 ⟨t8, rfl, hb8, -⟩
                go_wp2
                go_ret
                exact ⟨_, rfl, by (repeat (first | exact Bel.refl _ | assumption | refine Bel.step_alloc ?_ _ | refine Bel.step_drew ?_ | refine Bel.step_drewN ?_ _ | refine Bel.step_set ?_ (by simp <;> omega) _ | refine Bel.trans ?_ (by assumption))), trivial⟩

end Go.Proofs.YtgfildmmcbjpnabGreat

namespace Go.Proofs.YtgfildmmcbjpnabGreat
open Go.RowKit

set_option maxRecDepth 100000 in
set_option maxHeartbeats 1000000 in
theorem wlooks_is (W0 : Base) (s : Nat) (x : WG) (w : World) (h : WInv W0 s x w) (hs : s ≤ 150000) :
    Calls Tryz.prog 13 #[.pointer (some ⟨x.p, 0, none⟩)] w (RBool w fun b => b = true) := by
  have h10 := h.2.2.2.2.2.2.2.2.2.1
  have h11 := h.2.2.2.2.2.2.2.2.2.2.1
  have hn := h.2.2.2.2.2.2.2.2.2.2.2.1.2.2
  have c8 := h.1.1 8 _ rfl
  have c9 := h.1.1 9 _ rfl
  obtain ⟨ao, ca, hva⟩ := own_slice h10
  obtain ⟨bo, cb, hvb⟩ := own_slice h11
  have hrd : Hid (∀ j, j < x.lss.length → ∃ ga gb g1 g2 L, ao = some ⟨ga, 0, none⟩ ∧ bo = some ⟨gb, 0, none⟩ ∧ w.cell? ⟨ga, j, none⟩ = some (.slice (some ⟨g1, 0, none⟩) L L) ∧ w.cell? ⟨gb, j, none⟩ = some (.slice (some ⟨g2, 0, none⟩) L L) ∧ ∀ wx, Bel w wx → Calls Tryz.prog 34 #[.slice (some ⟨g1, 0, none⟩) L L, .slice (some ⟨g2, 0, none⟩) L L] wx (RBool wx (IsB True))) := fun j hj => by
    obtain ⟨ga, ca', hva', -, -, hca⟩ := own_form0 h10 (by omega)
    obtain ⟨gb, cb', hvb', -, -, hcb⟩ := own_form0 h11 (by omega)
    rw [hva] at hva'
    rw [hvb] at hvb'
    simp only [Value.slice.injEq, true_and] at hva' hvb'
    have hl := h.2.2.2.2.2.2.2.2.2.2.2.2.1 _ (List.getElem_mem hj)
    refine ⟨ga, gb, (x.lss[j]).g1, (x.lss[j]).g2, (x.lss[j]).T.length, hva'.1, hvb'.1, (hca j hj).trans (by simp [hj, sl]), (hcb j hj).trans (by simp [hj, sl]), fun wx b => ?_⟩
    refine (lsame_is (x.lss[j]).T (x.lss[j]).T _ _ wx (RowAt.of_owns (own_later hl.1 b)) (RowAt.of_owns (own_later hl.2.1 b)) hl.2.2 hl.2.2).mono ?_
    rintro e w' ⟨b2, h1, h2, h3⟩
    exact ⟨b2, h1, h2, ⟨fun _ => trivial, fun _ => h3.2 rfl⟩⟩
  rw [hva] at c8
  rw [hvb] at c9
  generalize x.p = p at *
  generalize x.lss.length = n at *
  have hpw := World.block_lt_of_cell? w _ c8
  clear h h10 h11 hva hvb
  go_enter Tryz.func13, Tryz.ntmps13
  go_wp2
  go_loopg [3] n (fun r i wr => Bel w wr ∧ ∃ k : Nat, r = n - k ∧ k ≤ n ∧ i = .int .i64 k)
  case atStart => exact ⟨Bel.refl _, 0, by omega, by omega, rfl⟩
  case round =>
    obtain ⟨hb, k, hr, hk, rfl⟩ := hrel
    have d8 := hb.cell c8
    have d9 := hb.cell c9
    by_cases hlt : k < n
    · have hltb : decide ((k : Int) < (n : Int)) = true := decide_eq_true (by omega)
      obtain ⟨ga, gb, g1, g2, L, rfl, rfl, q1, q2, hsm⟩ := hrd.out k hlt
      have r1 := hb.cell q1
      have r2 := hb.cell q2
      have hsm2 := fun wx (b : Bel wr wx) => hsm wx (hb.trans b)
      clear hrd hsm q1 q2
      go_wp2_with fail
      go_region_held3 (fun w' => Bel wr w' ∧ w'.cell? ⟨p, 8, none⟩ = some (.slice (some ⟨ga, 0, none⟩) n ca) ∧ w'.cell? ⟨p, 9, none⟩ = some (.slice (some ⟨gb, 0, none⟩) n cb) ∧ w'.cell? ⟨ga, k, none⟩ = some (.slice (some ⟨g1, 0, none⟩) L L) ∧ w'.cell? ⟨gb, k, none⟩ = some (.slice (some ⟨g2, 0, none⟩) L L)) ((exact ⟨by (repeat (first | exact Bel.refl _ | assumption | refine Bel.step_alloc ?_ _ | refine Bel.step_drew ?_ | refine Bel.step_drewN ?_ _ | refine Bel.step_set ?_ (by simp <;> omega) _ | refine Bel.trans ?_ (by assumption))), Bel.cell (a := wr) (by (repeat (first | exact Bel.refl _ | assumption | refine Bel.step_alloc ?_ _ | refine Bel.step_drew ?_ | refine Bel.step_drewN ?_ _ | refine Bel.step_set ?_ (by simp <;> omega) _ | refine Bel.trans ?_ (by assumption)))) d8, Bel.cell (a := wr) (by (repeat (first | exact Bel.refl _ | assumption | refine Bel.step_alloc ?_ _ | refine Bel.step_drew ?_ | refine Bel.step_drewN ?_ _ | refine Bel.step_set ?_ (by simp <;> omega) _ | refine Bel.trans ?_ (by assumption)))) d9, Bel.cell (a := wr) (by (repeat (first | exact Bel.refl _ | assumption | refine Bel.step_alloc ?_ _ | refine Bel.step_drew ?_ | refine Bel.step_drewN ?_ _ | refine Bel.step_set ?_ (by simp <;> omega) _ | refine Bel.trans ?_ (by assumption)))) r1, Bel.cell (a := wr) (by (repeat (first | exact Bel.refl _ | assumption | refine Bel.step_alloc ?_ _ | refine Bel.step_drew ?_ | refine Bel.step_drewN ?_ _ | refine Bel.step_set ?_ (by simp <;> omega) _ | refine Bel.trans ?_ (by assumption)))) r2⟩)) ((go_at_call 34; refine (hsm2 _ (by (repeat (first | exact Bel.refl _ | assumption | refine Bel.step_alloc ?_ _ | refine Bel.step_drew ?_ | refine Bel.step_drewN ?_ _ | refine Bel.step_set ?_ (by simp <;> omega) _ | refine Bel.trans ?_ (by assumption))))).mono ?_; rintro e w2 ⟨b, rfl, hb2, hbt⟩; obtain rfl : b = true := (by first | exact hbt.2 trivial | simpa [IsB] using hbt)))
      have hbr : Bel wr w2 := by (repeat (first | exact Bel.refl _ | assumption | refine Bel.step_alloc ?_ _ | refine Bel.step_drew ?_ | refine Bel.step_drewN ?_ _ | refine Bel.step_set ?_ (by simp <;> omega) _ | refine Bel.trans ?_ (by assumption)))
      have hbw := hb.trans hbr
      clear hsm2
      go_wp2
      go_roundg (n - (k + 1))
      case measure => omega
      case rel => exact ⟨hbw, k + 1, rfl, by omega, by go_num⟩
    · have hltb : decide ((k : Int) < (n : Int)) = false := decide_eq_false (by omega)
      clear hrd
      go_wp2
      go_ret
      exact ⟨_, rfl, hb, rfl⟩

end Go.Proofs.YtgfildmmcbjpnabGreat
