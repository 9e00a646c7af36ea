import Derived.Test.YtgfildmmcbjpnabGreatLAB
import Derived.Test.YtgfildmmcbjpnabGreatLAC
import Derived.Deep.RegionWith
import Derived.Deep.DeepCutAuto
import Derived.Deep.LoopGhost
import Derived.Laws.IdiomStrings
import Derived.Laws.OwnMore
namespace Go.Proofs.YtgfildmmcbjpnabGreat
open Go.RowKit

theorem ret_u64 {a b : Int} (h : a = b) : Ending.returned (.int .u64 a) = .returned (.int .u64 b) := by rw [h]
set_option maxHeartbeats 400000 in
theorem turned_is (x : Int) (n : Nat) (w : World) (hn : n ≤ 64) :
    Calls Tryz.prog 127 #[.int .u64 x, .int .u64 n] w fun e w' => e = .returned (.int .u64 (rotF x n)) ∧ w = w' := by
  have e1 : ((n : Int)).toNat = n := rfl
  have e2 : (64 - (n : Int)).toNat = 64 - n := by omega
  go_enter Tryz.func127, Tryz.ntmps127
  go_wp2
  go_ret
  refine ⟨ret_u64 ?_, rfl⟩
  rw [IntKind.wrap_u64]
  rfl
/-- the four words of a hash under way -/
def StAt (w : World) (p : Nat) (s : S4) : Prop := (w.cell? ⟨p, 0, none⟩ = some (.int .u64 s.a) ∧ w.cell? ⟨p, 1, none⟩ = some (.int .u64 s.b) ∧ w.cell? ⟨p, 2, none⟩ = some (.int .u64 s.c) ∧ w.cell? ⟨p, 3, none⟩ = some (.int .u64 s.d)) ∧ w.frozen? ⟨p, 0, none⟩ = false ∧ w.frozen? ⟨p, 1, none⟩ = false ∧ w.frozen? ⟨p, 2, none⟩ = false ∧ w.frozen? ⟨p, 3, none⟩ = false
theorem StAt.later {a w : World} {p : Nat} {s : S4} (h : StAt a p s) (k : Bel a w) : StAt w p s := by
  obtain ⟨⟨h0, h1, h2, h3⟩, f0, f1, f2, f3⟩ := h
  exact ⟨⟨k.cell h0, k.cell h1, k.cell h2, k.cell h3⟩, k.frozen h0 f0, k.frozen h1 f1, k.frozen h2 f2, k.frozen h3 f3⟩
theorem StAt.drew {w : World} {p : Nat} {s : S4} (h : StAt w p s) : StAt w.drew p s := h.later ((Bel.refl w).step_drew)
theorem StAt.set0 {w : World} {p : Nat} {s : S4} (h : StAt w p s) (x : Int) : StAt (w.setCell ⟨p, 0, none⟩ (.int .u64 x)) p ⟨x, s.b, s.c, s.d⟩ := by
  obtain ⟨⟨h0, h1, h2, h3⟩, f0, f1, f2, f3⟩ := h
  exact ⟨⟨set_same h0, by rw [set_other (by simp)]; exact h1, by rw [set_other (by simp)]; exact h2, by rw [set_other (by simp)]; exact h3⟩, by rw [frozen_set]; exact f0, by rw [frozen_set]; exact f1, by rw [frozen_set]; exact f2, by rw [frozen_set]; exact f3⟩
theorem StAt.set1 {w : World} {p : Nat} {s : S4} (h : StAt w p s) (x : Int) : StAt (w.setCell ⟨p, 1, none⟩ (.int .u64 x)) p ⟨s.a, x, s.c, s.d⟩ := by
  obtain ⟨⟨h0, h1, h2, h3⟩, f0, f1, f2, f3⟩ := h
  exact ⟨⟨by rw [set_other (by simp)]; exact h0, set_same h1, by rw [set_other (by simp)]; exact h2, by rw [set_other (by simp)]; exact h3⟩, by rw [frozen_set]; exact f0, by rw [frozen_set]; exact f1, by rw [frozen_set]; exact f2, by rw [frozen_set]; exact f3⟩
theorem StAt.set2 {w : World} {p : Nat} {s : S4} (h : StAt w p s) (x : Int) : StAt (w.setCell ⟨p, 2, none⟩ (.int .u64 x)) p ⟨s.a, s.b, x, s.d⟩ := by
  obtain ⟨⟨h0, h1, h2, h3⟩, f0, f1, f2, f3⟩ := h
  exact ⟨⟨by rw [set_other (by simp)]; exact h0, by rw [set_other (by simp)]; exact h1, set_same h2, by rw [set_other (by simp)]; exact h3⟩, by rw [frozen_set]; exact f0, by rw [frozen_set]; exact f1, by rw [frozen_set]; exact f2, by rw [frozen_set]; exact f3⟩
theorem StAt.set3 {w : World} {p : Nat} {s : S4} (h : StAt w p s) (x : Int) : StAt (w.setCell ⟨p, 3, none⟩ (.int .u64 x)) p ⟨s.a, s.b, s.c, x⟩ := by
  obtain ⟨⟨h0, h1, h2, h3⟩, f0, f1, f2, f3⟩ := h
  exact ⟨⟨by rw [set_other (by simp)]; exact h0, by rw [set_other (by simp)]; exact h1, by rw [set_other (by simp)]; exact h2, set_same h3⟩, by rw [frozen_set]; exact f0, by rw [frozen_set]; exact f1, by rw [frozen_set]; exact f2, by rw [frozen_set]; exact f3⟩
theorem StAt.is {w : World} {p : Nat} {s t : S4} (h : StAt w p s) (e : s = t) : StAt w p t := e ▸ h
/-- a step of a round is done: what comes of s is s' -/
def StOn (w : World) (p : Nat) (s : S4) (w' : World) : Prop := But [p] w w' ∧ StAt w' p s
theorem StOn.first {w w' : World} {p : Nat} {s : S4} (h : StOn w p s w') : But [p] w w' := h.1
def RSt (w : World) (p : Nat) (s : S4) (e : Ending) (w' : World) : Prop := e = .returned (.tuple #[]) ∧ StOn w p s w'

def stp0 (s : S4) : S4 := ⟨((s.a + s.b) % 18446744073709551616), s.b, s.c, s.d⟩
def stp1 (s : S4) : S4 := ⟨s.a, (bits .xor .u64 (rotF s.b 13) s.a), s.c, s.d⟩
def stp2 (s : S4) : S4 := ⟨(rotF s.a 32), s.b, s.c, s.d⟩
def stp3 (s : S4) : S4 := ⟨s.a, s.b, ((s.c + s.d) % 18446744073709551616), s.d⟩
def stp4 (s : S4) : S4 := ⟨s.a, s.b, s.c, (bits .xor .u64 (rotF s.d 16) s.c)⟩
def stp5 (s : S4) : S4 := ⟨((s.a + s.d) % 18446744073709551616), s.b, s.c, s.d⟩
def stp6 (s : S4) : S4 := ⟨s.a, s.b, s.c, (bits .xor .u64 (rotF s.d 21) s.a)⟩
def stp7 (s : S4) : S4 := ⟨s.a, s.b, ((s.c + s.b) % 18446744073709551616), s.d⟩
def stp8 (s : S4) : S4 := ⟨s.a, (bits .xor .u64 (rotF s.b 17) s.c), s.c, s.d⟩
def stp9 (s : S4) : S4 := ⟨s.a, s.b, (rotF s.c 32), s.d⟩
theorem stp_all (s : S4) : stp9 (stp8 (stp7 (stp6 (stp5 (stp4 (stp3 (stp2 (stp1 (stp0 (s)))))))))) = s.round := rfl

set_option maxRecDepth 100000 in
set_option maxHeartbeats 1600000 in
theorem round_is (p : Nat) (s : S4) (w : World) (h : StAt w p s) :
    Calls Tryz.prog 126 #[.pointer (some ⟨p, 0, none⟩)] w (RSt w p s.round) := by
  have hS : StOn w p s w := ⟨But.refl _ _, h⟩
  clear h
  rw [← stp_all]
  go_enter Tryz.func126, Tryz.ntmps126
  go_upto_region 0 with fail
  go_cut [] (fun wc => StOn w p (stp0 (s)) wc)
  case first =>
    obtain ⟨hb, ⟨h0, h1, h2, h3⟩, f0, f1, f2, f3⟩ := hS
    generalize s = s0 at *
    obtain ⟨a, b, c, d⟩ := s0
    simp only at h0 h1 h2 h3
    go_region
    all_goals
      go_wp2_with fail
      go_meet
      case rel => exact ⟨by (repeat (first | exact But.refl _ _ | assumption | refine But.drew ?_ | refine But.drewN ?_ _ | refine But.alloc ?_ _ | refine But.set ?_ (by simp) _ | refine But.trans ?_ (by assumption) | refine But.step ?_ (by assumption))), StAt.is (StAt.drew (StAt.set0 (s := ⟨a, b, c, d⟩) ⟨⟨h0, h1, h2, h3⟩, f0, f1, f2, f3⟩ _)) (by simp [stp0, IntKind.wrap_u64])⟩
  case rest =>
    replace hS := hcut
    clear hcut
    go_upto_region 1 with fail
    go_cut [] (fun wc => StOn w p (stp1 (stp0 (s))) wc)
    case first =>
      obtain ⟨hb, ⟨h0, h1, h2, h3⟩, f0, f1, f2, f3⟩ := hS
      generalize stp0 (s) = s0 at *
      obtain ⟨a, b, c, d⟩ := s0
      simp only at h0 h1 h2 h3
      go_region_with (go_at_call 127; refine (turned_is _ 13 _ (by decide)).mono ?_; rintro e w1 ⟨rfl, rfl⟩)
      all_goals
        go_wp2_with fail
        go_meet
        case rel => exact ⟨by (repeat (first | exact But.refl _ _ | assumption | refine But.drew ?_ | refine But.drewN ?_ _ | refine But.alloc ?_ _ | refine But.set ?_ (by simp) _ | refine But.trans ?_ (by assumption) | refine But.step ?_ (by assumption))), StAt.is (StAt.drew (StAt.set1 (s := ⟨a, b, c, d⟩) ⟨⟨h0, h1, h2, h3⟩, f0, f1, f2, f3⟩ _)) (by simp [stp1])⟩
    case rest =>
      replace hS := hcut
      clear hcut
      go_upto_region 2 with fail
      go_cut [] (fun wc => StOn w p (stp2 (stp1 (stp0 (s)))) wc)
      case first =>
        obtain ⟨hb, ⟨h0, h1, h2, h3⟩, f0, f1, f2, f3⟩ := hS
        generalize stp1 (stp0 (s)) = s0 at *
        obtain ⟨a, b, c, d⟩ := s0
        simp only at h0 h1 h2 h3
        go_wp2_with (go_at_call 127; refine (turned_is _ 32 _ (by decide)).mono ?_; rintro e w1 ⟨rfl, rfl⟩)
        all_goals
          go_wp2_with fail
          go_meet
          case rel => exact ⟨by (repeat (first | exact But.refl _ _ | assumption | refine But.drew ?_ | refine But.drewN ?_ _ | refine But.alloc ?_ _ | refine But.set ?_ (by simp) _ | refine But.trans ?_ (by assumption) | refine But.step ?_ (by assumption))), StAt.is (StAt.drew (StAt.set0 (s := ⟨a, b, c, d⟩) ⟨⟨h0, h1, h2, h3⟩, f0, f1, f2, f3⟩ _)) (by simp [stp2])⟩
      case rest =>
        replace hS := hcut
        clear hcut
        go_upto_region 3 with fail
        go_cut [] (fun wc => StOn w p (stp3 (stp2 (stp1 (stp0 (s))))) wc)
        case first =>
          obtain ⟨hb, ⟨h0, h1, h2, h3⟩, f0, f1, f2, f3⟩ := hS
          generalize stp2 (stp1 (stp0 (s))) = s0 at *
          obtain ⟨a, b, c, d⟩ := s0
          simp only at h0 h1 h2 h3
          go_region
          all_goals
            go_wp2_with fail
            go_meet
            case rel => exact ⟨by (repeat (first | exact But.refl _ _ | assumption | refine But.drew ?_ | refine But.drewN ?_ _ | refine But.alloc ?_ _ | refine But.set ?_ (by simp) _ | refine But.trans ?_ (by assumption) | refine But.step ?_ (by assumption))), StAt.is (StAt.drew (StAt.set2 (s := ⟨a, b, c, d⟩) ⟨⟨h0, h1, h2, h3⟩, f0, f1, f2, f3⟩ _)) (by simp [stp3, IntKind.wrap_u64])⟩
        case rest =>
          replace hS := hcut
          clear hcut
          go_upto_region 4 with fail
          go_cut [] (fun wc => StOn w p (stp4 (stp3 (stp2 (stp1 (stp0 (s)))))) wc)
          case first =>
            obtain ⟨hb, ⟨h0, h1, h2, h3⟩, f0, f1, f2, f3⟩ := hS
            generalize stp3 (stp2 (stp1 (stp0 (s)))) = s0 at *
            obtain ⟨a, b, c, d⟩ := s0
            simp only at h0 h1 h2 h3
            go_region_with (go_at_call 127; refine (turned_is _ 16 _ (by decide)).mono ?_; rintro e w1 ⟨rfl, rfl⟩)
            all_goals
              go_wp2_with fail
              go_meet
              case rel => exact ⟨by (repeat (first | exact But.refl _ _ | assumption | refine But.drew ?_ | refine But.drewN ?_ _ | refine But.alloc ?_ _ | refine But.set ?_ (by simp) _ | refine But.trans ?_ (by assumption) | refine But.step ?_ (by assumption))), StAt.is (StAt.drew (StAt.set3 (s := ⟨a, b, c, d⟩) ⟨⟨h0, h1, h2, h3⟩, f0, f1, f2, f3⟩ _)) (by simp [stp4])⟩
          case rest =>
            replace hS := hcut
            clear hcut
            go_upto_region 5 with fail
            go_cut [] (fun wc => StOn w p (stp5 (stp4 (stp3 (stp2 (stp1 (stp0 (s))))))) wc)
            case first =>
              obtain ⟨hb, ⟨h0, h1, h2, h3⟩, f0, f1, f2, f3⟩ := hS
              generalize stp4 (stp3 (stp2 (stp1 (stp0 (s))))) = s0 at *
              obtain ⟨a, b, c, d⟩ := s0
              simp only at h0 h1 h2 h3
              go_region
              all_goals
                go_wp2_with fail
                go_meet
                case rel => exact ⟨by (repeat (first | exact But.refl _ _ | assumption | refine But.drew ?_ | refine But.drewN ?_ _ | refine But.alloc ?_ _ | refine But.set ?_ (by simp) _ | refine But.trans ?_ (by assumption) | refine But.step ?_ (by assumption))), StAt.is (StAt.drew (StAt.set0 (s := ⟨a, b, c, d⟩) ⟨⟨h0, h1, h2, h3⟩, f0, f1, f2, f3⟩ _)) (by simp [stp5, IntKind.wrap_u64])⟩
            case rest =>
              replace hS := hcut
              clear hcut
              go_upto_region 6 with fail
              go_cut [] (fun wc => StOn w p (stp6 (stp5 (stp4 (stp3 (stp2 (stp1 (stp0 (s)))))))) wc)
              case first =>
                obtain ⟨hb, ⟨h0, h1, h2, h3⟩, f0, f1, f2, f3⟩ := hS
                generalize stp5 (stp4 (stp3 (stp2 (stp1 (stp0 (s)))))) = s0 at *
                obtain ⟨a, b, c, d⟩ := s0
                simp only at h0 h1 h2 h3
                go_region_with (go_at_call 127; refine (turned_is _ 21 _ (by decide)).mono ?_; rintro e w1 ⟨rfl, rfl⟩)
                all_goals
                  go_wp2_with fail
                  go_meet
                  case rel => exact ⟨by (repeat (first | exact But.refl _ _ | assumption | refine But.drew ?_ | refine But.drewN ?_ _ | refine But.alloc ?_ _ | refine But.set ?_ (by simp) _ | refine But.trans ?_ (by assumption) | refine But.step ?_ (by assumption))), StAt.is (StAt.drew (StAt.set3 (s := ⟨a, b, c, d⟩) ⟨⟨h0, h1, h2, h3⟩, f0, f1, f2, f3⟩ _)) (by simp [stp6])⟩
              case rest =>
                replace hS := hcut
                clear hcut
                go_upto_region 7 with fail
                go_cut [] (fun wc => StOn w p (stp7 (stp6 (stp5 (stp4 (stp3 (stp2 (stp1 (stp0 (s))))))))) wc)
                case first =>
                  obtain ⟨hb, ⟨h0, h1, h2, h3⟩, f0, f1, f2, f3⟩ := hS
                  generalize stp6 (stp5 (stp4 (stp3 (stp2 (stp1 (stp0 (s))))))) = s0 at *
                  obtain ⟨a, b, c, d⟩ := s0
                  simp only at h0 h1 h2 h3
                  go_region
                  all_goals
                    go_wp2_with fail
                    go_meet
                    case rel => exact ⟨by (repeat (first | exact But.refl _ _ | assumption | refine But.drew ?_ | refine But.drewN ?_ _ | refine But.alloc ?_ _ | refine But.set ?_ (by simp) _ | refine But.trans ?_ (by assumption) | refine But.step ?_ (by assumption))), StAt.is (StAt.drew (StAt.set2 (s := ⟨a, b, c, d⟩) ⟨⟨h0, h1, h2, h3⟩, f0, f1, f2, f3⟩ _)) (by simp [stp7, IntKind.wrap_u64])⟩
                case rest =>
                  replace hS := hcut
                  clear hcut
                  go_upto_region 8 with fail
                  go_cut [] (fun wc => StOn w p (stp8 (stp7 (stp6 (stp5 (stp4 (stp3 (stp2 (stp1 (stp0 (s)))))))))) wc)
                  case first =>
                    obtain ⟨hb, ⟨h0, h1, h2, h3⟩, f0, f1, f2, f3⟩ := hS
                    generalize stp7 (stp6 (stp5 (stp4 (stp3 (stp2 (stp1 (stp0 (s)))))))) = s0 at *
                    obtain ⟨a, b, c, d⟩ := s0
                    simp only at h0 h1 h2 h3
                    go_region_with (go_at_call 127; refine (turned_is _ 17 _ (by decide)).mono ?_; rintro e w1 ⟨rfl, rfl⟩)
                    all_goals
                      go_wp2_with fail
                      go_meet
                      case rel => exact ⟨by (repeat (first | exact But.refl _ _ | assumption | refine But.drew ?_ | refine But.drewN ?_ _ | refine But.alloc ?_ _ | refine But.set ?_ (by simp) _ | refine But.trans ?_ (by assumption) | refine But.step ?_ (by assumption))), StAt.is (StAt.drew (StAt.set1 (s := ⟨a, b, c, d⟩) ⟨⟨h0, h1, h2, h3⟩, f0, f1, f2, f3⟩ _)) (by simp [stp8])⟩
                  case rest =>
                    replace hS := hcut
                    clear hcut
                    go_upto_region 9 with fail
                    obtain ⟨hb, ⟨h0, h1, h2, h3⟩, f0, f1, f2, f3⟩ := hS
                    generalize stp8 (stp7 (stp6 (stp5 (stp4 (stp3 (stp2 (stp1 (stp0 (s))))))))) = s0 at *
                    obtain ⟨a, b, c, d⟩ := s0
                    simp only at h0 h1 h2 h3
                    go_wp2_with (go_at_call 127; refine (turned_is _ 32 _ (by decide)).mono ?_; rintro e w1 ⟨rfl, rfl⟩)
                    go_end0
                    exact ⟨rfl, by (repeat (first | exact But.refl _ _ | assumption | refine But.drew ?_ | refine But.drewN ?_ _ | refine But.alloc ?_ _ | refine But.set ?_ (by simp) _ | refine But.trans ?_ (by assumption) | refine But.step ?_ (by assumption))), StAt.is (StAt.drew (StAt.set2 (s := ⟨a, b, c, d⟩) ⟨⟨h0, h1, h2, h3⟩, f0, f1, f2, f3⟩ _)) (by simp [stp9])⟩

end Go.Proofs.YtgfildmmcbjpnabGreat

namespace Go.Proofs.YtgfildmmcbjpnabGreat
open Go.RowKit

theorem byteAt_lt (t : ByteArray) (i : Nat) : 0 ≤ byteAt t i ∧ byteAt t i < 256 := by
  unfold byteAt
  split
  · have := (t[i]).toNat_lt; omega
  · omega

set_option maxRecDepth 100000 in
set_option maxHeartbeats 800000 in
theorem word_is (t : ByteArray) (f : Nat) (w : World) (ht : t.size ≤ 4611686018427387904) (hf : f ≤ 4611686018427387904) :
    Calls Tryz.prog 124 #[.string t, .int .i64 f] w fun e w' => e = .returned (.int .u64 (wordF t f)) ∧ w = w' := by
  go_enter Tryz.func124, Tryz.ntmps124
  go_wp2
  go_loopg [5, 6] 8 (fun r acc i wr => w = wr ∧ ∃ n : Nat, r = 8 - n ∧ n ≤ 8 ∧ i = .int .i64 (7 - n) ∧ acc = .int .u64 (wordTo t f n))
  case atStart => exact ⟨rfl, 0, by omega, by omega, rfl, rfl⟩
  case round =>
    obtain ⟨rfl, n, hr, hn, rfl, rfl⟩ := hrel
    by_cases h8 : n < 8
    · have hge : decide ((7 - (n : Int)) ≥ 0) = true := decide_eq_true (by omega)
      obtain ⟨j, hj⟩ : ∃ j : Nat, j = f + (7 - n) := ⟨_, rfl⟩
      have hji : (f : Int) + (7 - (n : Int)) = (j : Int) := by omega
      have HS : Hid (wordTo t f (n + 1) = if f + (7 - n) < t.size then bits .or .u64 (wordTo t f n * 256 % 18446744073709551616) (byteAt t (f + (7 - n))) else wordTo t f n * 256 % 18446744073709551616) := rfl
      rw [← hj] at HS
      have HJ := Hid.mk hj
      clear hj
      generalize wordTo t f n = acc at *
      by_cases hjt : j < t.size
      · rw [if_pos hjt] at HS
        have hd : decide ((j : Int) < (t.size : Int)) = true := decide_eq_true (by omega)
        have hbv : Hid (byteAt t j = (t[j].toNat : Int)) := by rw [byteAt, dif_pos hjt]; rfl
        have hb := (t[j]).toNat_lt
        go_wp2
        go_roundg (8 - (n + 1))
        case measure => omega
        case rel => exact ⟨rfl, n + 1, rfl, by omega, by go_num, by rw [HS.out, hbv.out, IntKind.wrap_u64]⟩
      · rw [if_neg hjt] at HS
        have hd : decide ((j : Int) < (t.size : Int)) = false := decide_eq_false (by omega)
        go_wp2
        go_roundg (8 - (n + 1))
        case measure => omega
        case rel => exact ⟨rfl, n + 1, rfl, by omega, by go_num, by rw [HS.out, IntKind.wrap_u64]⟩
    · have h88 : n = 8 := by omega
      subst h88
      go_wp2
      go_ret
      exact ⟨rfl, rfl⟩

theorem RSt.of {w w1 w2 : World} {p : Nat} {s : S4} (h : But [p] w w1) (k : StOn w1 p s w2) : StOn w p s w2 := ⟨h.trans k.1, k.2⟩

set_option maxRecDepth 100000 in
set_option maxHeartbeats 1600000 in
theorem take_is (p : Nat) (s : S4) (m : Int) (w : World) (h : StAt w p s) :
    Calls Tryz.prog 125 #[.pointer (some ⟨p, 0, none⟩), .int .u64 m] w (RSt w p (s.take m)) := by
  obtain ⟨⟨h0, h1, h2, h3⟩, f0, f1, f2, f3⟩ := h
  obtain ⟨a0, b0, c0, d0⟩ := s
  simp only at h0 h1 h2 h3
  go_enter Tryz.func125, Tryz.ntmps125
  go_wp2_with fail
  have hA : StAt (w.setCell ⟨p, 3, none⟩ (.int .u64 (bits .xor .u64 d0 m))) p ⟨a0, b0, c0, bits .xor .u64 d0 m⟩ := StAt.set3 (s := ⟨a0, b0, c0, d0⟩) ⟨⟨h0, h1, h2, h3⟩, f0, f1, f2, f3⟩ _
  have hb : But [p] w (w.setCell ⟨p, 3, none⟩ (.int .u64 (bits .xor .u64 d0 m))) := by (repeat (first | exact But.refl _ _ | assumption | refine But.drew ?_ | refine But.drewN ?_ _ | refine But.alloc ?_ _ | refine But.set ?_ (by simp) _ | refine But.trans ?_ (by assumption) | refine But.step ?_ (by assumption)))
  refine (round_is p _ _ hA).mono ?_
  rintro e w2 ⟨rfl, hS2⟩
  go_wp2_with fail
  refine (round_is p _ _ hS2.2).mono ?_
  rintro e w3 ⟨rfl, hS3⟩
  obtain ⟨hb3, hA3⟩ := RSt.of hb (RSt.of hS2.1 hS3)
  have HE : Hid (S4.take ⟨a0, b0, c0, d0⟩ m = ⟨bits .xor .u64 (S4.round (S4.round ⟨a0, b0, c0, bits .xor .u64 d0 m⟩)).a m, (S4.round (S4.round ⟨a0, b0, c0, bits .xor .u64 d0 m⟩)).b, (S4.round (S4.round ⟨a0, b0, c0, bits .xor .u64 d0 m⟩)).c, (S4.round (S4.round ⟨a0, b0, c0, bits .xor .u64 d0 m⟩)).d⟩) := rfl
  clear hS2 hS3 h0 h1 h2 h3 f0 f1 f2 f3
  generalize S4.round (S4.round ⟨a0, b0, c0, bits .xor .u64 d0 m⟩) = s3 at *
  obtain ⟨⟨h0, h1, h2, h3⟩, f0, f1, f2, f3⟩ := hA3
  obtain ⟨a, b, c, d⟩ := s3
  simp only at h0 h1 h2 h3 HE
  go_wp2
  go_end0
  exact ⟨rfl, by (repeat (first | exact But.refl _ _ | assumption | refine But.drew ?_ | refine But.drewN ?_ _ | refine But.alloc ?_ _ | refine But.set ?_ (by simp) _ | refine But.trans ?_ (by assumption) | refine But.step ?_ (by assumption))), (StAt.set0 (s := ⟨a, b, c, d⟩) ⟨⟨h0, h1, h2, h3⟩, f0, f1, f2, f3⟩ _).is HE.out.symm⟩

def rndN : Nat → S4 → S4
  | 0, s => s
  | n + 1, s => (rndN n s).round
def RHash (w : World) (x : Int) (e : Ending) (w' : World) : Prop := e = .returned (.int .u64 x) ∧ Bel w w'

def RAgg4 (w : World) (s : S4) (e : Ending) (w' : World) : Prop := e = .returned (.agg #[.int .u64 s.a, .int .u64 s.b, .int .u64 s.c, .int .u64 s.d]) ∧ Bel w w'
set_option maxRecDepth 100000 in
set_option maxHeartbeats 400000 in
theorem begin_is (k l : Int) (w : World) : Calls Tryz.prog 123 #[.int .u64 k, .int .u64 l] w (RAgg4 w (sipBegin k l)) := by
  obtain ⟨S, hS⟩ : ∃ S, S = sipBegin k l := ⟨_, rfl⟩
  have HS := Hid.mk hS
  rw [← hS]
  clear hS
  go_enter Tryz.func123, Tryz.ntmps123
  go_wp2
  refine bodyPost_ret (v := .agg #[.int .u64 (bits .xor .u64 k 8317987319222330741), .int .u64 (bits .xor .u64 l 7237128888997146477), .int .u64 (bits .xor .u64 k 7816392313619706465), .int .u64 (bits .xor .u64 l 8387220255154660723)]) (by simp [results, Tryz.results123, go_sem]) rfl ⟨?_, by (repeat (first | exact Bel.refl _ | assumption | refine Bel.step_alloc ?_ _ | refine Bel.step_drew ?_ | refine Bel.step_drewN ?_ _ | refine Bel.step_set ?_ (by simp <;> omega) _ | refine Bel.trans ?_ (by assumption)))⟩
  rw [HS.out]
  rfl

set_option maxRecDepth 100000 in
set_option maxHeartbeats 500000 in
theorem sum_is (key t : ByteArray) (w : World) (hk : key.size ≤ 4611686018427387904) (ht : t.size ≤ 4611686018427387000) :
    Calls Tryz.prog 117 #[.string key, .string t] w (RHash w (sipSum key t)) := by
  obtain ⟨X, hX⟩ : ∃ X, X = sipSum key t := ⟨_, rfl⟩
  have HX := Hid.mk hX
  rw [← hX]
  clear hX
  have hk0 := fun wx => word_is key 0 wx hk (by omega)
  have hk8 := fun wx => word_is key 8 wx hk (by omega)
  obtain ⟨k0, hk00⟩ : ∃ k0, k0 = wordF key 0 := ⟨_, rfl⟩
  obtain ⟨k8, hk80⟩ : ∃ k8, k8 = wordF key 8 := ⟨_, rfl⟩
  rw [← hk00] at hk0
  rw [← hk80] at hk8
  have HK0 := Hid.mk hk00
  have HK8 := Hid.mk hk80
  clear hk00 hk80
  go_enter Tryz.func117, Tryz.ntmps117
  go_wp2_with fail
  refine (hk0 _).mono ?_
  rintro e w' ⟨rfl, rfl⟩
  go_wp2_with fail
  refine (hk8 _).mono ?_
  rintro e w' ⟨rfl, rfl⟩
  clear hk0 hk8
  go_wp2_with fail
  refine (begin_is _ _ _).mono ?_
  rintro e w1 ⟨rfl, hb1⟩
  obtain ⟨s0, hs0⟩ : ∃ s0, s0 = sipBegin k0 k8 := ⟨_, rfl⟩
  have H0 := Hid.mk hs0
  rw [← hs0]
  clear hs0
  obtain ⟨q, hq⟩ : ∃ q : Nat, q = t.size / 8 := ⟨_, rfl⟩
  have hq1 : (t.size : Int) / 8 = (q : Int) := by omega
  have HQ := Hid.mk hq
  have hq2 : 8 * q ≤ t.size := by omega
  clear hq
  have hw1 := hb1.size
  go_wp2
  obtain ⟨p, hp⟩ : ∃ p, p = w1.heap.size := ⟨_, rfl⟩
  obtain ⟨w2, hw2⟩ : ∃ w2, w2 = w1.alloc (.cells #[.int .u64 s0.a, .int .u64 s0.b, .int .u64 s0.c, .int .u64 s0.d] 165) := ⟨_, rfl⟩
  have hA : StAt w2 p s0 := by
    subst hw2 hp
    exact ⟨⟨by simp, by simp, by simp, by simp⟩, by simp, by simp, by simp, by simp⟩
  have hb2 : Bel w w2 := by subst hw2; exact hb1.step_alloc _
  rw [← hw2, ← hp]
  have hpw : w.heap.size ≤ p := by omega
  clear hw2 hp
  go_loopg [7] q (fun r i wr => ∃ k : Nat, r = q - k ∧ k ≤ q ∧ i = .int .i64 (8 * k) ∧ Bel w wr ∧ StAt wr p (sipTo t s0 k))
  case atStart => exact ⟨0, by omega, by omega, by go_num, hb2, hA⟩
  case round =>
    obtain ⟨k, hr, hkq, rfl, hb, hA⟩ := hrel
    have hwd := fun wx => word_is t (8 * k) wx (by omega) (by omega)
    rw [show (((8 * k : Nat)) : Int) = 8 * (k : Int) from by omega] at hwd
    obtain ⟨wd, hwd0⟩ : ∃ wd, wd = wordF t (8 * k) := ⟨_, rfl⟩
    obtain ⟨sk, hsk⟩ : ∃ sk, sk = sipTo t s0 k := ⟨_, rfl⟩
    rw [← hwd0] at hwd
    rw [← hsk] at hA
    have HS : Hid (sipTo t s0 (k + 1) = sk.take wd) := by rw [hsk, hwd0]; rfl
    have HW := Hid.mk hwd0
    have HK := Hid.mk hsk
    clear hwd0 hsk
    by_cases hlt : k < q
    · have hd : decide (8 * (k : Int) < 8 * (q : Int)) = true := decide_eq_true (by omega)
      have hd' : decide (8 * (k : Int) < (t.size : Int) - (t.size : Int) % 8) = true := decide_eq_true (by omega)
      go_wp2_with fail
      refine (hwd _).mono ?_
      rintro e w' ⟨rfl, rfl⟩
      go_wp2_with fail
      refine (take_is p _ _ _ hA).mono ?_
      rintro e w3 ⟨rfl, hb3, hA3⟩
      have hbb : Bel w w3 := But.belTo hb hb3 (by simpa using hpw)
      go_wp2
      go_roundg (q - (k + 1))
      case measure => omega
      case rel => exact ⟨k + 1, rfl, by omega, by go_num, hbb, hA3.is HS.out.symm⟩
    · have hd : decide (8 * (k : Int) < 8 * (q : Int)) = false := decide_eq_false (by omega)
      have hd' : decide (8 * (k : Int) < (t.size : Int) - (t.size : Int) % 8) = false := decide_eq_false (by omega)
      obtain rfl : k = q := by omega
      rw [show 8 * (k : Int) = (t.size : Int) - (t.size : Int) % 8 from by omega] at hwd
      go_wp2_with fail
      refine (hwd _).mono ?_
      rintro e w' ⟨rfl, rfl⟩
      go_wp2_with fail
      refine (take_is p _ _ _ hA).mono ?_
      rintro e w3 ⟨rfl, hb3, hA3⟩
      have hbb : Bel w w3 := But.belTo hb hb3 (by simpa using hpw)
      obtain ⟨sT, hsT⟩ : ∃ sT, sT = sk.take (bits .or .u64 wd (IntKind.u64.wrap ((t.size : Int) * 72057594037927936))) := ⟨_, rfl⟩
      rw [← hsT] at hA3
      have HT := Hid.mk hsT
      clear hsT hb3 hwd hA hd hd'
      obtain ⟨⟨h0, h1, h2, h3⟩, f0, f1, f2, f3⟩ := hA3
      obtain ⟨a, b, c, d⟩ := sT
      simp only at h0 h1 h2 h3
      go_wp2
      obtain ⟨w4, hw4⟩ : ∃ w4, w4 = w3.setCell ⟨p, 2, none⟩ (.int .u64 (bits .xor .u64 c 255)) := ⟨_, rfl⟩
      obtain ⟨sU, hsU⟩ : ∃ sU : S4, sU = ⟨a, b, bits .xor .u64 c 255, d⟩ := ⟨_, rfl⟩
      have hA4 : StAt w4 p sU := by rw [hw4, hsU]; exact StAt.set2 (s := ⟨a, b, c, d⟩) ⟨⟨h0, h1, h2, h3⟩, f0, f1, f2, f3⟩ _
      have hb4 : Bel w w4 := by rw [hw4]; exact hbb.step_set hpw _
      rw [← hw4]
      have HU := Hid.mk hsU
      clear hw4 hsU h0 h1 h2 h3 f0 f1 f2 f3
      have HX2 : Hid (X = bits .xor .u64 (bits .xor .u64 (bits .xor .u64 (rndN 4 sU).a (rndN 4 sU).b) (rndN 4 sU).c) (rndN 4 sU).d) := by
        have e1 : sk.take (bits .or .u64 (wordF t (8 * (t.size / 8))) ((t.size : Int) * 72057594037927936 % 18446744073709551616)) = ⟨a, b, c, d⟩ := by
          rw [← HQ.out, ← HW.out, HT.out, IntKind.wrap_u64]
        have e2 : sipTo t (sipBegin (wordF key 0) (wordF key 8)) (t.size / 8) = sk := by rw [← HQ.out, ← HK0.out, ← HK8.out, ← H0.out, HK.out]
        unfold Hid
        rw [HX.out, HU.out]
        simp only [sipSum, e2, e1]
        rfl
      go_loopg [8] 4 (fun r i wz => ∃ n : Nat, r = 4 - n ∧ n ≤ 4 ∧ i = .int .i64 n ∧ Bel w wz ∧ StAt wz p (rndN n sU))
      case atStart => exact ⟨0, by omega, by omega, rfl, hb4, hA4⟩
      case round =>
        obtain ⟨n, hr2, hn, rfl, hbz, hAz⟩ := hrel
        obtain ⟨sn, hsn⟩ : ∃ sn, sn = rndN n sU := ⟨_, rfl⟩
        rw [← hsn] at hAz
        have HN := Hid.mk hsn
        clear hsn
        by_cases h4 : n < 4
        · go_wp2_with fail
          refine (round_is p _ _ hAz).mono ?_
          rintro e w5 ⟨rfl, hb5, hA5⟩
          have hbb5 : Bel w w5 := But.belTo hbz hb5 (by simpa using hpw)
          go_wp2
          go_roundg (4 - (n + 1))
          case measure => omega
          case rel => exact ⟨n + 1, rfl, by omega, by go_num, hbb5, hA5.is (by rw [HN.out]; rfl)⟩
        · obtain rfl : n = 4 := by omega
          rw [← HN.out] at HX2
          obtain ⟨⟨h0, h1, h2, h3⟩, f0, f1, f2, f3⟩ := hAz
          obtain ⟨a5, b5, c5, d5⟩ := sn
          simp only at h0 h1 h2 h3 HX2
          go_wp2
          go_ret
          exact ⟨ret_u64 HX2.out.symm, hbz⟩

end Go.Proofs.YtgfildmmcbjpnabGreat

namespace Go.Proofs.YtgfildmmcbjpnabGreat
open Go.RowKit

/-- numbers in a row -/
def IntsAt (w : World) (v : Value) (l : List Nat) : Prop := RowAt w v l.length (l.map fun (n : Nat) => Value.int .i64 (n : Int))
theorem IntsAt.open {w : World} {v : Value} {l : List Nat} (h : IntsAt w v l) : ∃ ao cap, v = .slice ao l.length cap ∧ ∀ j (hj : j < l.length), ∃ g, ao = some ⟨g, 0, none⟩ ∧ w.cell? ⟨g, j, none⟩ = some (.int .i64 (l[j] : Int)) := by
  rcases h with ⟨h1, h2, _⟩ | ⟨g, cap, hv, hn, hg, hc⟩
  · exact ⟨none, 0, by rw [h1, h2], fun j hj => by omega⟩
  · exact ⟨_, cap, hv, fun j hj => ⟨g, rfl, hc j _ (by simp [hj])⟩⟩
def byteV (b : UInt8) : Value := .int .u8 (b.toNat : Int)
theorem u8_of (n : Nat) : ((UInt8.ofNat n).toNat : Int) = (n : Int) % 256 := by simp
theorem headOf_snoc (letter : UInt8) (nums : List Nat) (k : Nat) (h : k < nums.length) : headOf letter (nums.take (k + 1)) = headOf letter (nums.take k) ++ [UInt8.ofNat (nums[k] / 256), UInt8.ofNat nums[k]] := by
  rw [List.take_succ_eq_append_getElem h, headOf, List.flatMap_append, headOf]; simp
theorem headOf_len (letter : UInt8) (nums : List Nat) : (headOf letter nums).length = 1 + 2 * nums.length := by
  induction nums with
  | nil => rfl
  | cons n l ih => simp only [headOf, List.flatMap_cons, List.length_cons, List.length_append, List.length_nil] at ih ⊢; omega
theorem conv_head {w : World} {base : Nat} {v : Value} {l : List UInt8} (h : w.ownsRow base 5 1 v l.length (l.map byteV)) (hl : 0 < l.length) :
    (convert 77 9 v).run Tryz.prog w = .ok (.string ⟨l.toArray⟩) w := by
  rcases h.2 with ⟨_, h0⟩ | ⟨g, cap, cur, hv, hg, hh, r⟩
  · omega
  · have hc := h.cells (g := g) (by rw [hv]; rfl)
    rw [hv]
    refine run_convert_bytes_back w 77 9 5 _ cap l Tryz.underlying77 Tryz.underlying5 Tryz.underlying9 (fun j hj => ?_)
    exact hc j _ (by simp [hj, byteV])

set_option maxRecDepth 100000 in
set_option maxHeartbeats 800000 in
theorem hash_is (key : ByteArray) (letter : UInt8) (nums : List Nat) (vN : Value) (t : ByteArray) (w : World) (hN : IntsAt w vN nums) (hl : nums.length ≤ 2) (hk : key.size ≤ 4611686018427387904) (ht : t.size ≤ 4611686018427386000) :
    Calls Tryz.prog 100 #[.string key, .int .u8 (letter.toNat : Int), vN, .string t] w (RHash w (hsh key letter nums t)) := by
  obtain ⟨i0, hi, hz0, hz1, hz2⟩ := info_parts Tryz.infoByte
  obtain ⟨ao, cap, rfl, hc⟩ := hN.open
  obtain ⟨X, hX⟩ : ∃ X, X = hsh key letter nums t := ⟨_, rfl⟩
  have HX := Hid.mk hX
  rw [← hX]
  clear hX
  go_enter Tryz.func100, Tryz.ntmps100
  go_wp2
  have hown : (w.alloc (.cells #[.int .u8 (letter.toNat : Int)] 5)).ownsRow w.heap.size 5 1 (.slice (some ⟨w.heap.size, 0, none⟩) 1 1) 1 [.int .u8 (letter.toNat : Int)] := World.ownsRow_lit w #[.int .u8 (letter.toNat : Int)] 1 (Nat.le_refl _) (by decide) rfl
  go_loopg [9, 16] nums.length (fun r vh n wr => ∃ k : Nat, r = nums.length - k ∧ k ≤ nums.length ∧ n = .int .i64 k ∧ Bel w wr ∧ wr.ownsRow w.heap.size 5 1 vh (headOf letter (nums.take k)).length ((headOf letter (nums.take k)).map byteV))
  case atStart => exact ⟨0, by omega, by omega, rfl, by (repeat (first | exact Bel.refl _ | assumption | refine Bel.step_alloc ?_ _ | refine Bel.step_drew ?_ | refine Bel.step_drewN ?_ _ | refine Bel.step_set ?_ (by simp <;> omega) _ | refine Bel.trans ?_ (by assumption))), hown⟩
  case round =>
    obtain ⟨k, hr, hkn, rfl, hb, hO⟩ := hrel
    have HO := Hid.mk hO
    have hsz := headOf_len letter (nums.take k)
    have hsz2 : (headOf letter (nums.take k)).length ≤ 5 := by rw [hsz]; simp; omega
    have hsz1 : 0 < (headOf letter (nums.take k)).length := by rw [hsz]; omega
    clear hO hown hsz
    have hwr := hb.size
    by_cases hlt : k < nums.length
    · obtain ⟨g, rfl, c0⟩ := hc k hlt
      have c0' := hb.cell c0
      have HS := Hid.mk (headOf_snoc letter nums k hlt)
      clear hc c0
      generalize nums[k] = nk at *
      generalize headOf letter (nums.take k) = hd at *
      have e1 : Hid (byteV (UInt8.ofNat (nk / 256)) = .int .u8 ((nk : Int) / 256 % 256)) := by
        show byteV (UInt8.ofNat (nk / 256)) = _
        rw [byteV, u8_of, Int.natCast_ediv]; rfl
      have e2 : Hid (byteV (UInt8.ofNat nk) = .int .u8 ((nk : Int) % 256)) := by
        show byteV (UInt8.ofNat nk) = _
        rw [byteV, u8_of]
      go_wp2_with (first | (at_builtin; refine wpList_append_own _ rfl _ _ 77 rfl w.heap.size 5 i0 (.int .u8 0) 1 1 Tryz.underlying77 hi hz0 hz1 hz2 rfl (by decide) _ hd.length (hd.map byteV) rfl ?p1 ⟨wr.heap.size, 0, none⟩ 2 2 [.int .u8 ((nk : Int) / 256 % 256), .int .u8 ((nk : Int) % 256)] rfl rfl ?d1 ?d2 ?d3 ?d4 ?d5 ?_))
      case p1 => exact World.ownsRow.alloc HO.out _
      try (case d1 => exact two_new _ _ _ _ _ (by simp))
      case d2 => first | exact ⟨rfl, rfl⟩ | exact two_one rfl rfl
      case d3 => unfold maxLen; omega
      case d4 => omega
      case d5 => first | omega | (simp; omega)
      intro v2 w2 hown2 hgrow2 _
      have hb2 : Bel w w2 := (hb.step_alloc _).grown hgrow2 (fun g hg => (World.ownsRow.lt HO.out g hg).1)
      have H2 : Hid (w2.ownsRow w.heap.size 5 1 v2 (headOf letter (nums.take (k + 1))).length ((headOf letter (nums.take (k + 1))).map byteV)) := by
        show w2.ownsRow _ _ _ _ _ _
        rw [HS.out, List.map_append, List.length_append]
        simp only [List.map_cons, List.map_nil, e1.out, e2.out]
        exact hown2
      clear hown2 hgrow2 e1 e2
      go_wp2
      go_roundg (nums.length - (k + 1))
      case measure => omega
      case rel => exact ⟨k + 1, rfl, by omega, by go_num, hb2, H2.out⟩
    · have hnn : nums.take k = nums := List.take_of_length_le (by omega)
      rw [hnn] at HO hsz1 hsz2
      clear hc hnn
      have hcv := conv_head HO.out hsz1
      have hsum := fun wx => sum_is key (ByteArray.mk (headOf letter nums).toArray ++ t) wx hk (by
        rw [ByteArray.size_append]
        have : (ByteArray.mk (headOf letter nums).toArray).size = (headOf letter nums).length := by simp [ByteArray.size]
        rw [this]; omega)
      rw [show sipSum key (ByteArray.mk (headOf letter nums).toArray ++ t) = X from HX.out.symm] at hsum
      have hds : (ByteArray.mk (headOf letter nums).toArray).size ≤ 5 := by
        have : (ByteArray.mk (headOf letter nums).toArray).size = (headOf letter nums).length := by simp [ByteArray.size]
        rw [this]; omega
      generalize (ByteArray.mk (headOf letter nums).toArray) = hd at *
      go_wp2_with fail
      refine (hsum _).mono ?_
      rintro e w2 ⟨rfl, hb2⟩
      go_wp2
      go_ret
      exact ⟨rfl, hb.trans hb2⟩

end Go.Proofs.YtgfildmmcbjpnabGreat

namespace Go.Proofs.YtgfildmmcbjpnabGreat
open Go.RowKit

/-- a number as n bytes -/
def onesF (v : Int) : Nat → ByteArray
  | 0 => ByteArray.empty
  | n + 1 => onesF (v / 256) n ++ one (v % 256)
def IsStr (t s : ByteArray) : Prop := s = t

set_option maxRecDepth 100000 in
set_option maxHeartbeats 400000 in
theorem ones_is (v : Int) (n : Nat) (w : World) (hv : -9223372036854775808 ≤ v) (hv2 : v ≤ 9223372036854775807) (hn2 : n ≤ 100) :
    Calls Tryz.prog 76 #[.int .i64 v, .int .i64 n] w (RStr w (IsStr (onesF v n))) := by
  obtain ⟨R, hR⟩ : ∃ R, R = onesF v n := ⟨_, rfl⟩
  rw [← hR]
  have HR : Hid (onesF v n ++ ByteArray.empty = R) := by show _ = R; rw [hR, ByteArray.append_empty]
  clear hR
  go_enter Tryz.func76, Tryz.ntmps76
  go_wp2
  go_loopw [0, 1, 5] (fun x k t wr => ∃ (s : ByteArray) (q : Nat) (u : Int), q ≤ n ∧ t = .string s ∧ x = .int .i64 u ∧ k = .int .i64 q ∧ s.size ≤ 100 - q ∧ -9223372036854775808 ≤ u ∧ u ≤ 9223372036854775807 ∧ Bel w wr ∧ onesF u q ++ s = R) (fun _ k _ _ => (intOf k).toNat)
  case atStart => exact ⟨ByteArray.empty, n, v, Nat.le_refl _, rfl, rfl, rfl, by simp, hv, hv2, Bel.refl _, HR.out⟩
  case round =>
    obtain ⟨s, q, u, hq, rfl, rfl, rfl, hsz, hu1, hu2, hb, hrr⟩ := hrel
    have HRR := Hid.mk hrr
    clear hrr
    by_cases hlt : 0 < q
    · obtain ⟨q, rfl⟩ : ∃ q', q = q' + 1 := ⟨q - 1, by omega⟩
      have HN : Hid (onesF (u / 256) q ++ (one (u % 256) ++ s) = R) := by
        show _ = R
        rw [← HRR.out, onesF, ByteArray.append_assoc]
      have hcv := conv_one
      have h1z := one_size
      have hd : decide (((q + 1 : Nat) : Int) > 0) = true := decide_eq_true (by omega)
      clear HRR
      go_wp2
      go_roundw
      case rel => exact ⟨_, q, u / 256, by omega, rfl, rfl, by go_num, by simp [one_size]; omega, by omega, by omega, by (repeat (first | exact Bel.refl _ | assumption | refine Bel.step_alloc ?_ _ | refine Bel.step_drew ?_ | refine Bel.step_drewN ?_ _ | refine Bel.step_set ?_ (by simp <;> omega) _ | refine Bel.trans ?_ (by assumption))), HN.out⟩
      case measure => first | (simp [intOf]; done) | (simp [intOf]; omega)
    · obtain rfl : q = 0 := by omega
      go_wp2
      go_ret
      exact ⟨_, rfl, hb, by have := HRR.out; rw [onesF, ByteArray.empty_append] at this; exact this⟩
theorem one_mod (n : Nat) : one ((n : Int) % 256) = ⟨#[UInt8.ofNat n]⟩ := by
  unfold one
  congr 2
  have : ((n : Int) % 256).toNat = n % 256 := by omega
  rw [this]
  congr 1
  apply UInt8.toNat_inj.1
  simp
theorem ones2 (n : Nat) : onesF n 2 = ⟨#[UInt8.ofNat (n / 256), UInt8.ofNat n]⟩ := by
  have h : ((n : Int) / 256) = ((n / 256 : Nat) : Int) := by omega
  show (ByteArray.empty ++ one ((n : Int) / 256 % 256)) ++ one ((n : Int) % 256) = _
  rw [h, one_mod, one_mod]
  rfl
/-- what is hashed, as the document puts it together -/
theorem hsh0 (key : ByteArray) (letter : UInt8) (t : ByteArray) : sipSum key (⟨#[letter]⟩ ++ t) = hsh key letter [] t := rfl
theorem hsh1 (key : ByteArray) (letter : UInt8) (k : Nat) (t : ByteArray) : sipSum key ((⟨#[letter]⟩ ++ onesF k 2) ++ t) = hsh key letter [k] t := by
  rw [ones2]
  rfl
theorem hsh2 (key : ByteArray) (letter : UInt8) (s k : Nat) (t : ByteArray) : sipSum key (((⟨#[letter]⟩ ++ onesF s 2) ++ onesF k 2) ++ t) = hsh key letter [s, k] t := by
  rw [ones2, ones2]
  rfl

end Go.Proofs.YtgfildmmcbjpnabGreat
