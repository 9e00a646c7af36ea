import Derived.Test.YtgfildmmcbjpnabGreatLAR
namespace Go.Proofs.YtgfildmmcbjpnabGreat
open Go.RowKit

set_option maxRecDepth 100000 in
set_option maxHeartbeats 800000 in
theorem bits_any (p : Nat) (s : ByteArray) (sh : Bool) (w : World) (hs : s.size ≤ 1099511627776) (ht : TextAt w p s sh) :
    Calls Tryz.prog 103 #[.pointer (some ⟨p, 0, none⟩)] w (RTextS w p fun v s' sh' => ∃ x : ByteArray, v = .string x ∧ s'.size ≤ s.size ∧ sh' = sh ∧ Bits01 x ∧ x.size = 8 * s.size) := by
  go_enter Tryz.func103, Tryz.ntmps103
  go_wp2
  go_loopw [3, 4] (fun o i wr => ∃ (x : ByteArray) (k : Nat), k ≤ s.size ∧ o = .string x ∧ i = .int .i64 k ∧ x.size = 8 * k ∧ Bits01 x ∧ Bel w wr) (fun _ i _ => s.size - (intOf i).toNat)
  case atStart => exact ⟨ByteArray.empty, 0, by omega, rfl, rfl, rfl, bits01_empty, Bel.refl _⟩
  case round =>
    obtain ⟨x, k, hk, rfl, rfl, hx, h01, hb⟩ := hrel
    obtain ⟨c0, c1, f0, f1⟩ := ht.later hb
    by_cases hlt : k < s.size
    · have h3 := byte_lt s[k]
      have hx2 : x.size ≤ 8796093022208 := by omega
      have HX : Hid (x.size = 8 * k) := hx
      clear hx
      go_wp2_with fail
      refine (binary_any _ _ _ (by decide) (by decide)).mono ?_
      rintro e w2 ⟨y, rfl, hb2, hy, hy01⟩
      have hy8 : y.size = 8 := by simpa using hy
      clear hy
      go_wp2
      go_roundw
      case rel => exact ⟨_, k + 1, by omega, rfl, by go_num, by have := HX.out; simp; omega, bits01_append h01 hy01, by (repeat (first | exact Bel.refl _ | assumption | refine Bel.step_alloc ?_ _ | refine Bel.step_drew ?_ | refine Bel.step_drewN ?_ _ | refine Bel.step_set ?_ (by simp <;> omega) _ | refine Bel.trans ?_ (by assumption)))⟩
      case measure => simp [intOf]; omega
    · have hx3 : Hid (x.size = 8 * s.size) := by have : k = s.size := by omega
                                                 subst this; exact hx
      clear hx
      go_wp2
      go_ret
      exact ⟨_, ByteArray.empty, sh, rfl, (ButP.of_bel hb).step_set _, TextAt.set0 ⟨c0, c1, f0, f1⟩ _, _, rfl, Nat.zero_le _, rfl, h01, hx3.out⟩

end Go.Proofs.YtgfildmmcbjpnabGreat
