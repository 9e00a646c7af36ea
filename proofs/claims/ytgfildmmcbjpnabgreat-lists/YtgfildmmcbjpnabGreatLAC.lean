import Derived.Test.YtgfildmmcbjpnabGreatLAA
import Derived.Test.YtgfildmmcbjpnabGreatLAB
import Derived.Deep.RegionWith
namespace Go.Proofs.YtgfildmmcbjpnabGreat
open Go.RowKit

/-- a word's value -/
def WEq (v x y : Int) : Prop := wv x y = v
def addW (a b : Int) : Int := (a + b) % 18446744073709551616
def subW (a b : Int) : Int := (a - b) % 18446744073709551616
def xorW (a b : Int) : Int := bits .xor .u64 a b
def IsOver (v n x : Int) : Prop := x = v % n

set_option maxHeartbeats 400000 in
theorem wplus_is (a b c d : Int) (w : World) (ha : W32 a) (hb : W32 b) (hc : W32 c) (hd : W32 d) :
    Calls Tryz.prog 121 #[.agg #[.int .i64 a, .int .i64 b], .agg #[.int .i64 c, .int .i64 d]] w (RWord w (WEq (addW (wv a b) (wv c d)))) := by
  have E := wv_plus ha hb hc hd
  obtain ⟨ha, ha2⟩ := ha
  obtain ⟨hb, hb2⟩ := hb
  obtain ⟨hc, hc2⟩ := hc
  obtain ⟨hd, hd2⟩ := hd
  go_enter Tryz.func121, Tryz.ntmps121
  go_wp2
  exact bodyPost_ret (v := .agg #[.int .i64 ((a + c + (b + d) / 4294967296) % 4294967296), .int .i64 ((b + d) % 4294967296)]) (by simp [results, Tryz.results121, go_sem]) rfl ⟨_, _, rfl, by (repeat (first | exact Bel.refl _ | assumption | refine Bel.step_alloc ?_ _ | refine Bel.step_drew ?_ | refine Bel.step_drewN ?_ _ | refine Bel.step_set ?_ (by simp <;> omega) _ | refine Bel.trans ?_ (by assumption))), ⟨by omega, by omega⟩, ⟨by omega, by omega⟩, E⟩

set_option maxHeartbeats 400000 in
theorem wmixed_is (a b c d : Int) (w : World) (ha : W32 a) (hb : W32 b) (hc : W32 c) (hd : W32 d) :
    Calls Tryz.prog 112 #[.agg #[.int .i64 a, .int .i64 b], .agg #[.int .i64 c, .int .i64 d]] w (RWord w (WEq (xorW (wv a b) (wv c d)))) := by
  have E := wv_xor ha hb hc hd
  rw [← i64_xor a c ha hc, ← i64_xor b d hb hd] at E
  go_enter Tryz.func112, Tryz.ntmps112
  go_wp2
  exact bodyPost_ret (v := .agg #[.int .i64 (bits BinOp.xor IntKind.i64 a c), .int .i64 (bits BinOp.xor IntKind.i64 b d)]) (by simp [results, Tryz.results112, go_sem]) rfl ⟨_, _, rfl, by (repeat (first | exact Bel.refl _ | assumption | refine Bel.step_alloc ?_ _ | refine Bel.step_drew ?_ | refine Bel.step_drewN ?_ _ | refine Bel.step_set ?_ (by simp <;> omega) _ | refine Bel.trans ?_ (by assumption))), ha.xor hc, hb.xor hd, E⟩

theorem wbelow_fin {p q : Prop} {x : Bool} (h : p ↔ q) (k : x = true ↔ p) : IsB q x := k.trans h
set_option maxHeartbeats 400000 in
theorem wbelow_is (a b c d : Int) (w : World) (ha : W32 a) (hb : W32 b) (hc : W32 c) (hd : W32 d) :
    Calls Tryz.prog 95 #[.agg #[.int .i64 a, .int .i64 b], .agg #[.int .i64 c, .int .i64 d]] w (RBool w (IsB (wv a b < wv c d))) := by
  have E := Hid.mk (wv_below ha hb hc hd)
  by_cases h1 : a < c
  · go_enter Tryz.func95, Tryz.ntmps95
    go_wp2
    go_ret
    exact ⟨_, rfl, by (repeat (first | exact Bel.refl _ | assumption | refine Bel.step_alloc ?_ _ | refine Bel.step_drew ?_ | refine Bel.step_drewN ?_ _ | refine Bel.step_set ?_ (by simp <;> omega) _ | refine Bel.trans ?_ (by assumption))), wbelow_fin E.out (by first | (simp; done) | (simp; omega))⟩
  · by_cases h2 : a = c
    · subst h2
      go_enter Tryz.func95, Tryz.ntmps95
      go_wp2
      go_ret
      exact ⟨_, rfl, by (repeat (first | exact Bel.refl _ | assumption | refine Bel.step_alloc ?_ _ | refine Bel.step_drew ?_ | refine Bel.step_drewN ?_ _ | refine Bel.step_set ?_ (by simp <;> omega) _ | refine Bel.trans ?_ (by assumption))), wbelow_fin E.out (by first | (simp; done) | (simp; omega))⟩
    · go_enter Tryz.func95, Tryz.ntmps95
      go_wp2
      go_ret
      exact ⟨_, rfl, by (repeat (first | exact Bel.refl _ | assumption | refine Bel.step_alloc ?_ _ | refine Bel.step_drew ?_ | refine Bel.step_drewN ?_ _ | refine Bel.step_set ?_ (by simp <;> omega) _ | refine Bel.trans ?_ (by assumption))), wbelow_fin E.out (by first | (simp; done) | (simp; omega))⟩

set_option maxHeartbeats 400000 in
theorem wover_is (a b n : Int) (w : World) (ha : W32 a) (hb : W32 b) (hn : 1 ≤ n) (hn2 : n ≤ 65536) :
    Calls Tryz.prog 96 #[.agg #[.int .i64 a, .int .i64 b], .int .i64 n] w (RInt w (IsOver (wv a b) n)) := by
  obtain ⟨ha, ha2⟩ := ha
  obtain ⟨hb, hb2⟩ := hb
  have h1 := Int.emod_nonneg a (show n ≠ 0 by omega)
  have h2 := Int.emod_lt_of_pos a (show 0 < n by omega)
  go_enter Tryz.func96, Tryz.ntmps96
  go_wp2
  go_quiet (fail)
  go_wp2
  go_ret
  exact ⟨_, rfl, by (repeat (first | exact Bel.refl _ | assumption | refine Bel.step_alloc ?_ _ | refine Bel.step_drew ?_ | refine Bel.step_drewN ?_ _ | refine Bel.step_set ?_ (by simp <;> omega) _ | refine Bel.trans ?_ (by assumption))), wv_over⟩

set_option maxHeartbeats 400000 in
theorem wminus_is (a b c d : Int) (w : World) (ha : W32 a) (hb : W32 b) (hc : W32 c) (hd : W32 d) :
    Calls Tryz.prog 114 #[.agg #[.int .i64 a, .int .i64 b], .agg #[.int .i64 c, .int .i64 d]] w (RWord w (WEq (subW (wv a b) (wv c d)))) := by
  have hc1 := hc.1
  have hc2 := hc.2
  have hd1 := hd.1
  have hd2 := hd.2
  go_enter Tryz.func114, Tryz.ntmps114
  go_wp2_with fail
  refine (wplus_is _ _ _ _ _ ⟨by omega, by omega⟩ ⟨by omega, by omega⟩ ⟨by omega, by omega⟩ ⟨by omega, by omega⟩).mono ?_
  rintro e w1 ⟨x, y, rfl, hb1, hx, hy, e1⟩
  have hz1 := hb1.size
  simp only [World.size_alloc] at hz1
  obtain ⟨hq, hf⟩ := hb1.cellsTo (w.heap.size + 1 + 1 + 1 + 1) (by simp)
  go_wp2_with fail
  refine (wplus_is _ _ _ _ _ ha hb hx hy).mono ?_
  rintro e w2 ⟨x', y', rfl, hb2, hx', hy', e2⟩
  have E : Hid (WEq (subW (wv a b) (wv c d)) x' y') := by
    show wv x' y' = subW (wv a b) (wv c d)
    have e1' : wv x y = addW _ _ := e1
    have e2' : wv x' y' = addW _ _ := e2
    rw [e2', e1']
    exact wv_minus ha hb hc hd
  clear e1 e2
  have hz2 := hb2.size
  simp only [World.size_setCell] at hz2
  obtain ⟨hq2, hf2⟩ := hb2.cellsTo (w.heap.size + 1 + 1 + 1 + 1) (by simp; omega)
  go_wp2
  exact bodyPost_ret (v := .agg #[.int .i64 x', .int .i64 y']) (by simp [results, Tryz.results114, go_sem, hq2, hq]) rfl ⟨_, _, rfl, by (repeat (first | exact Bel.refl _ | assumption | refine Bel.step_alloc ?_ _ | refine Bel.step_drew ?_ | refine Bel.step_drewN ?_ _ | refine Bel.step_set ?_ (by simp <;> omega) _ | refine Bel.trans ?_ (by assumption))), hx', hy', E.out⟩

set_option maxHeartbeats 400000 in
theorem wturned_is (a b n : Int) (w : World) (ha : W32 a) (hb : W32 b) (hn : n = 13 ∨ n = 16 ∨ n = 17 ∨ n = 21 ∨ n = 32) :
    Calls Tryz.prog 122 #[.agg #[.int .i64 a, .int .i64 b], .int .i64 n] w (RWord w (WEq (rotF (wv a b) n.toNat))) := by
  have E13 := Hid.mk (wv_turn13 ha hb)
  have E16 := Hid.mk (wv_turn16 ha hb)
  have E17 := Hid.mk (wv_turn17 ha hb)
  have E21 := Hid.mk (wv_turn21 ha hb)
  have E32 := Hid.mk (wv_turn32 ha hb)
  obtain ⟨ha, ha2⟩ := ha
  obtain ⟨hb, hb2⟩ := hb
  rcases hn with rfl | rfl | rfl | rfl | rfl
  · go_enter Tryz.func122, Tryz.ntmps122
    go_wp2
    refine wp_loop_rounds 1 ?_
    rw [rounds_succ]
    go_wp2
    exact bodyPost_ret (v := .agg #[.int .i64 (a * 8192 % 4294967296 + b * 8192 / 4294967296), .int .i64 (b * 8192 % 4294967296 + a * 8192 / 4294967296)]) (by simp [results, Tryz.results122, go_sem]) rfl ⟨_, _, rfl, by (repeat (first | exact Bel.refl _ | assumption | refine Bel.step_alloc ?_ _ | refine Bel.step_drew ?_ | refine Bel.step_drewN ?_ _ | refine Bel.step_set ?_ (by simp <;> omega) _ | refine Bel.trans ?_ (by assumption))), ⟨by omega, by omega⟩, ⟨by omega, by omega⟩, E13.out⟩
  · go_enter Tryz.func122, Tryz.ntmps122
    go_wp2
    refine wp_loop_rounds 1 ?_
    rw [rounds_succ]
    go_wp2
    exact bodyPost_ret (v := .agg #[.int .i64 (a * 65536 % 4294967296 + b * 65536 / 4294967296), .int .i64 (b * 65536 % 4294967296 + a * 65536 / 4294967296)]) (by simp [results, Tryz.results122, go_sem]) rfl ⟨_, _, rfl, by (repeat (first | exact Bel.refl _ | assumption | refine Bel.step_alloc ?_ _ | refine Bel.step_drew ?_ | refine Bel.step_drewN ?_ _ | refine Bel.step_set ?_ (by simp <;> omega) _ | refine Bel.trans ?_ (by assumption))), ⟨by omega, by omega⟩, ⟨by omega, by omega⟩, E16.out⟩
  · go_enter Tryz.func122, Tryz.ntmps122
    go_wp2
    refine wp_loop_rounds 1 ?_
    rw [rounds_succ]
    go_wp2
    exact bodyPost_ret (v := .agg #[.int .i64 (a * 131072 % 4294967296 + b * 131072 / 4294967296), .int .i64 (b * 131072 % 4294967296 + a * 131072 / 4294967296)]) (by simp [results, Tryz.results122, go_sem]) rfl ⟨_, _, rfl, by (repeat (first | exact Bel.refl _ | assumption | refine Bel.step_alloc ?_ _ | refine Bel.step_drew ?_ | refine Bel.step_drewN ?_ _ | refine Bel.step_set ?_ (by simp <;> omega) _ | refine Bel.trans ?_ (by assumption))), ⟨by omega, by omega⟩, ⟨by omega, by omega⟩, E17.out⟩
  · go_enter Tryz.func122, Tryz.ntmps122
    go_wp2
    refine wp_loop_rounds 1 ?_
    rw [rounds_succ]
    go_wp2
    exact bodyPost_ret (v := .agg #[.int .i64 (a * 2097152 % 4294967296 + b * 2097152 / 4294967296), .int .i64 (b * 2097152 % 4294967296 + a * 2097152 / 4294967296)]) (by simp [results, Tryz.results122, go_sem]) rfl ⟨_, _, rfl, by (repeat (first | exact Bel.refl _ | assumption | refine Bel.step_alloc ?_ _ | refine Bel.step_drew ?_ | refine Bel.step_drewN ?_ _ | refine Bel.step_set ?_ (by simp <;> omega) _ | refine Bel.trans ?_ (by assumption))), ⟨by omega, by omega⟩, ⟨by omega, by omega⟩, E21.out⟩
  · go_enter Tryz.func122, Tryz.ntmps122
    go_wp2
    refine wp_loop_rounds 2 ?_
    rw [rounds_succ]
    go_wp2
    rw [rounds_succ]
    go_wp2
    exact bodyPost_ret (v := .agg #[.int .i64 (b % 4294967296 + a / 4294967296), .int .i64 (a % 4294967296 + b / 4294967296)]) (by simp [results, Tryz.results122, go_sem]) rfl ⟨_, _, rfl, by (repeat (first | exact Bel.refl _ | assumption | refine Bel.step_alloc ?_ _ | refine Bel.step_drew ?_ | refine Bel.step_drewN ?_ _ | refine Bel.step_set ?_ (by simp <;> omega) _ | refine Bel.trans ?_ (by assumption))), ⟨by omega, by omega⟩, ⟨by omega, by omega⟩, E32.out⟩

end Go.Proofs.YtgfildmmcbjpnabGreat

namespace Go.Proofs.YtgfildmmcbjpnabGreat
open Go.RowKit

/-- bytes as a number, the high one first -/
def numOf (l : List UInt8) : Int := l.foldl (fun v c => 256 * v + (c.toNat : Int)) 0
theorem numOf_snoc (l : List UInt8) (c : UInt8) : numOf (l ++ [c]) = 256 * numOf l + (c.toNat : Int) := by simp [numOf]
theorem take_snoc (s : ByteArray) (k : Nat) (h : k < s.size) : s.data.toList.take (k + 1) = s.data.toList.take k ++ [s[k]] := by
  rw [List.take_succ_eq_append_getElem (by simpa using h)]; rfl
theorem byte_lt (c : UInt8) : (c.toNat : Int) ≤ 255 := by have := c.toNat_lt; omega
theorem numOf_nonneg (l : List UInt8) (n : Nat) : 0 ≤ numOf (l.take n) := by
  induction n with
  | zero => simp [numOf]
  | succ n ih =>
    by_cases h : n < l.length
    · rw [List.take_succ_eq_append_getElem h, numOf_snoc]; omega
    · rw [List.take_of_length_le (by omega), ← List.take_of_length_le (i := n) (l := l) (by omega)]; exact ih
theorem numOf_lt (l : List UInt8) (n : Nat) : numOf (l.take n) < 256 ^ n := by
  induction n with
  | zero => simp [numOf]
  | succ n ih =>
    by_cases h : n < l.length
    · rw [List.take_succ_eq_append_getElem h, numOf_snoc, Int.pow_succ]; have := byte_lt l[n]; omega
    · rw [List.take_of_length_le (by omega), ← List.take_of_length_le (i := n) (l := l) (by omega), Int.pow_succ]
      have : (0 : Int) < 256 ^ n := Int.pow_pos (by omega)
      omega
theorem pow256_le (k : Nat) (h : k ≤ 6) : (256 : Int) ^ k ≤ 281474976710656 := by
  rcases (show k = 0 ∨ k = 1 ∨ k = 2 ∨ k = 3 ∨ k = 4 ∨ k = 5 ∨ k = 6 by omega) with rfl | rfl | rfl | rfl | rfl | rfl | rfl <;> decide

set_option maxHeartbeats 400000 in
theorem number_any (s : ByteArray) (w : World) (hs : s.size ≤ 7) :
    Calls Tryz.prog 61 #[.string s] w fun e w' => e = .returned (.int .i64 (numOf s.data.toList)) ∧ w = w' := by
  go_enter Tryz.func61, Tryz.ntmps61
  go_wp2
  go_loop [3, 4] (fun n i => ∃ k : Nat, k ≤ s.size ∧ i = .int .i64 k ∧ n = .int .i64 (numOf (s.data.toList.take k))) (fun _ i => s.size - (intOf i).toNat)
  case atStart => exact ⟨0, Nat.zero_le _, rfl, rfl⟩
  case round =>
    obtain ⟨k, hk, rfl, rfl⟩ := hrel
    have h0 := numOf_nonneg s.data.toList k
    have h1 := numOf_lt s.data.toList k
    by_cases hlt : k < s.size
    · have HS : Hid (numOf (s.data.toList.take (k + 1)) = 256 * numOf (s.data.toList.take k) + (s[k].toNat : Int)) := by
        have := numOf_snoc (s.data.toList.take k) s[k]
        rw [← take_snoc s k hlt] at this
        exact this
      have h3 := byte_lt s[k]
      have h2 := pow256_le k (by omega)
      have h4 : numOf (s.data.toList.take k) < 281474976710656 := by omega
      clear h1 h2
      go_wp2
      go_round
      case rel => exact ⟨k + 1, by omega, by go_num, by rw [HS.out]⟩
      case measure => simp [intOf]; omega
    · go_wp2
      go_ret
      exact ⟨ret_int (by rw [List.take_of_length_le (by simp; omega)]), rfl⟩

theorem and_one (x : Int) : bits .and .i64 x 1 = x % 2 := by
  show IntKind.i64.wrap ((BitVec.ofInt 64 x &&& BitVec.ofInt 64 1).toNat : Int) = _
  have h1 : BitVec.ofInt 64 1 = 1#64 := by decide
  rw [h1, BitVec.toNat_and, BitVec.toNat_ofInt, IntKind.wrap_i64]
  have h2 : (1#64).toNat = 1 := by decide
  rw [h2, Nat.and_one_is_mod]
  omega
/-- a text of the letters 0 and 1 -/
def Bits01 (s : ByteArray) : Prop := ∀ i (h : i < s.size), (s[i]'h).toNat = 48 ∨ (s[i]'h).toNat = 49

def binOf (l : List UInt8) : Int := l.foldl (fun v c => 2 * v + ((c.toNat : Int) - 48)) 0
theorem binOf_snoc (l : List UInt8) (c : UInt8) : binOf (l ++ [c]) = 2 * binOf l + ((c.toNat : Int) - 48) := by simp [binOf]
theorem binOf_bd (s : ByteArray) (h : Bits01 s) (n : Nat) (hn : n ≤ s.size) : 0 ≤ binOf (s.data.toList.take n) ∧ binOf (s.data.toList.take n) < 2 ^ n := by
  induction n with
  | zero => simp [binOf]
  | succ n ih =>
    obtain ⟨i1, i2⟩ := ih (by omega)
    rw [take_snoc s n (by omega), binOf_snoc, Int.pow_succ]
    have := h n (by omega)
    constructor <;> omega
theorem pow2_le (k : Nat) (h : k ≤ 40) : (2 : Int) ^ k ≤ 1099511627776 := by
  have h1 : (2 : Nat) ^ k ≤ 2 ^ 40 := Nat.pow_le_pow_right (by omega) h
  have h2 : ((2 : Nat) ^ k : Int) ≤ ((2 ^ 40 : Nat) : Int) := by exact_mod_cast h1
  simpa using h2

set_option maxHeartbeats 400000 in
theorem value_any (s : ByteArray) (w : World) (hs : s.size ≤ 40) (h01 : Bits01 s) :
    Calls Tryz.prog 104 #[.string s] w fun e w' => e = .returned (.int .i64 (binOf s.data.toList)) ∧ w = w' := by
  go_enter Tryz.func104, Tryz.ntmps104
  go_wp2
  go_loop [3, 4] (fun n i => ∃ k : Nat, k ≤ s.size ∧ i = .int .i64 k ∧ n = .int .i64 (binOf (s.data.toList.take k))) (fun _ i => s.size - (intOf i).toNat)
  case atStart => exact ⟨0, Nat.zero_le _, rfl, rfl⟩
  case round =>
    obtain ⟨k, hk, rfl, rfl⟩ := hrel
    obtain ⟨h0, h1⟩ := binOf_bd s h01 k hk
    have h2 := pow2_le k (by omega)
    by_cases hlt : k < s.size
    · have HS : Hid (binOf (s.data.toList.take (k + 1)) = 2 * binOf (s.data.toList.take k) + ((s[k].toNat : Int) - 48)) := by
        have := binOf_snoc (s.data.toList.take k) s[k]
        rw [← take_snoc s k hlt] at this
        exact this
      have h3 := h01 k hlt
      have h5 : (48 : Int) ≤ (s[k].toNat : Int) := by omega
      have h6 : (s[k].toNat : Int) ≤ 49 := by omega
      have h4 : binOf (s.data.toList.take k) < 1099511627776 := by omega
      clear h1 h2 h3
      go_wp2
      go_round
      case rel => exact ⟨k + 1, by omega, by go_num, by rw [HS.out]⟩
      case measure => simp [intOf]; omega
    · go_wp2
      go_ret
      exact ⟨ret_int (by rw [List.take_of_length_le (by simp; omega)]), rfl⟩

theorem bits01_append {s t : ByteArray} (h : Bits01 s) (k : Bits01 t) : Bits01 (s ++ t) := by
  intro i hi
  by_cases hlt : i < s.size
  · have := h i hlt
    simpa [ByteArray.getElem_append_left hlt] using this
  · have hle : s.size ≤ i := by omega
    have := k (i - s.size) (by simp at hi; omega)
    simpa [ByteArray.getElem_append_right hle] using this
/-- a text of one byte -/
def one (n : Int) : ByteArray := ⟨#[UInt8.ofNat n.toNat]⟩
theorem one_size (n : Int) : (one n).size = 1 := rfl
theorem conv_one (w : World) (n : Int) : (convert 77 9 (.slice (some ⟨w.heap.size, 0, none⟩) 1 1)).run Tryz.prog (w.alloc (.cells #[.int .u8 n] 5)) = .ok (.string (one n)) (w.alloc (.cells #[.int .u8 n] 5)) := by
  rw [run_convert_bytes_string _ 77 9 5 _ 1 1 Tryz.underlying77 Tryz.underlying5 Tryz.underlying9]
  rw [run_bytesToString _ _ 1 1 [n] (by simp [loadCells, loadCellsFrom, go_sem])]
  rfl

theorem bits01_snoc {s : ByteArray} {n : Int} (h : Bits01 s) (hn : n = 48 ∨ n = 49) : Bits01 (s ++ one n) := by
  refine bits01_append h ?_
  intro i hi
  have : i = 0 := by rw [one_size] at hi; omega
  subst this
  rcases hn with rfl | rfl
  · exact Or.inl rfl
  · exact Or.inr rfl
theorem bits01_empty : Bits01 ByteArray.empty := by intro i h; simp at h

set_option maxRecDepth 100000 in
set_option maxHeartbeats 400000 in
theorem binary_any (v n : Int) (w : World) (hn : 0 ≤ n) (hn2 : n ≤ 62) :
    Calls Tryz.prog 106 #[.int .i64 v, .int .i64 n] w (RStr w fun s => s.size = n.toNat ∧ Bits01 s) := by
  go_enter Tryz.func106, Tryz.ntmps106
  go_wp2
  go_loopw [5, 6] (fun t k wr => ∃ (s : ByteArray) (q : Nat), q ≤ n.toNat ∧ t = .string s ∧ k = .int .i64 (n - 1 - (q : Int)) ∧ s.size = q ∧ Bits01 s ∧ Bel w wr) (fun _ k _ => (intOf k + 1).toNat)
  case atStart => exact ⟨ByteArray.empty, 0, Nat.zero_le _, rfl, by simp, rfl, bits01_empty, Bel.refl _⟩
  case round =>
    obtain ⟨s, q, hq, rfl, rfl, hsz, h01, hb⟩ := hrel
    by_cases hlt : q < n.toNat
    · have hk0 : 0 ≤ n - 1 - (q : Int) := by omega
      have hk1 : n - 1 - (q : Int) < 64 := by omega
      generalize hkq : n - 1 - (q : Int) = k at *
      have HK : Hid (n - 1 - (q : Int) = k) := hkq
      clear hkq
      have hcv := conv_one
      have h1z := one_size
      have ha1 := and_one
      have hs62 : s.size ≤ 62 := by omega
      go_wp2
      go_roundw
      case rel =>
        refine ⟨_, q + 1, by omega, rfl, by rw [show k - 1 = n - 1 - ((q + 1 : Nat) : Int) from by have := HK.out; omega], by simp [one_size, hsz], bits01_snoc h01 ?_, by (repeat (first | exact Bel.refl _ | assumption | refine Bel.step_alloc ?_ _ | refine Bel.step_drew ?_ | refine Bel.step_drewN ?_ _ | refine Bel.step_set ?_ (by simp <;> omega) _ | refine Bel.trans ?_ (by assumption)))⟩
        have h2 : 0 ≤ v / 2 ^ k.toNat % 2 ∧ v / 2 ^ k.toNat % 2 < 2 := ⟨Int.emod_nonneg _ (by decide), Int.emod_lt_of_pos _ (by decide)⟩
        omega
      case measure => simp [intOf]; omega
    · go_wp2
      go_ret
      exact ⟨_, rfl, hb, by omega, h01⟩

set_option maxRecDepth 100000 in
set_option maxHeartbeats 400000 in
theorem ones_any (v n : Int) (w : World) (hv : -9223372036854775808 ≤ v) (hv2 : v ≤ 9223372036854775807) (hn : 0 ≤ n) (hn2 : n ≤ 100) :
    Calls Tryz.prog 76 #[.int .i64 v, .int .i64 n] w (RStr w fun s => s.size = n.toNat) := by
  go_enter Tryz.func76, Tryz.ntmps76
  go_wp2
  go_loopw [0, 1, 5] (fun x k t wr => ∃ (s : ByteArray) (q : Nat) (u : Int), q ≤ n.toNat ∧ t = .string s ∧ x = .int .i64 u ∧ k = .int .i64 q ∧ s.size + q = n.toNat ∧ -9223372036854775808 ≤ u ∧ u ≤ 9223372036854775807 ∧ Bel w wr) (fun _ k _ _ => (intOf k).toNat)
  case atStart => exact ⟨ByteArray.empty, n.toNat, v, Nat.le_refl _, rfl, rfl, by rw [Int.toNat_of_nonneg hn], by simp, hv, hv2, Bel.refl _⟩
  case round =>
    obtain ⟨s, q, u, hq, rfl, rfl, rfl, hsz, hu1, hu2, hb⟩ := hrel
    by_cases hlt : 0 < q
    · have hcv := conv_one
      have h1z := one_size
      have hs62 : s.size ≤ 100 := by omega
      have HZ : Hid (s.size + q = n.toNat) := hsz
      clear hsz
      go_wp2
      go_roundw
      case rel => exact ⟨_, q - 1, u / 256, by omega, rfl, rfl, by go_num, by have := HZ.out; simp [one_size]; omega, by omega, by omega, by (repeat (first | exact Bel.refl _ | assumption | refine Bel.step_alloc ?_ _ | refine Bel.step_drew ?_ | refine Bel.step_drewN ?_ _ | refine Bel.step_set ?_ (by simp <;> omega) _ | refine Bel.trans ?_ (by assumption)))⟩
      case measure => simp [intOf]; omega
    · go_wp2
      go_ret
      exact ⟨_, rfl, hb, by omega⟩

end Go.Proofs.YtgfildmmcbjpnabGreat

namespace Go.Proofs.YtgfildmmcbjpnabGreat
open Go.RowKit

theorem W32.turn {r : Int} (h : W32 r) : W32 (bits .xor .i64 r 79764919) := h.xor ⟨by decide, by decide⟩

set_option maxRecDepth 100000 in
set_option maxHeartbeats 800000 in
theorem sum_any (s : ByteArray) (w : World) (hs : s.size ≤ maxLen) :
    Calls Tryz.prog 75 #[.string s] w (RInt w (Upto 4294967296)) := by
  unfold maxLen at hs
  have ha1 := and_one
  go_enter Tryz.func75, Tryz.ntmps75
  go_wp2
  go_loopw [3, 4] (fun r i wr => ∃ (x : Int) (n : Nat), n ≤ s.size ∧ r = .int .i64 x ∧ i = .int .i64 n ∧ W32 x ∧ Bel w wr) (fun _ i _ => s.size - (intOf i).toNat)
  case atStart => exact ⟨4294967295, 0, Nat.zero_le _, rfl, rfl, ⟨by decide, by decide⟩, Bel.refl _⟩
  case round =>
    obtain ⟨x, n, hn, rfl, rfl, hx, hb⟩ := hrel
    by_cases hlt : n < s.size
    · go_wp2
      go_loopw [3, 5] (fun r k wr => ∃ (x : Int) (q : Nat), q ≤ 8 ∧ r = .int .i64 x ∧ k = .int .i64 q ∧ W32 x ∧ Bel w wr) (fun _ k _ => 8 - (intOf k).toNat)
      case atStart => exact ⟨x, 0, by omega, rfl, rfl, hx, hb⟩
      case round =>
        obtain ⟨y, q, hq, rfl, rfl, hy, hb'⟩ := hrel
        have hy1 := hy.1
        have hy2 := hy.2
        by_cases hlt' : q < 8
        · go_wp2
          all_goals
            go_roundw
            case rel => exact ⟨_, q + 1, by omega, rfl, by go_num, by first | exact W32.turn ⟨by omega, by omega⟩ | exact ⟨by omega, by omega⟩, hb'⟩
            case measure => simp [intOf]; omega
        · go_wp2
          go_roundw
          case rel => exact ⟨y, n + 1, by omega, rfl, by go_num, hy, hb'⟩
          case measure => simp [intOf]; omega
    · go_wp2
      go_loopw [7, 8] (fun o k wr => ∃ (y : Int) (q : Nat), q ≤ 32 ∧ o = .int .i64 y ∧ k = .int .i64 q ∧ 0 ≤ y ∧ y < 2 ^ q ∧ Bel w wr) (fun _ k _ => 32 - (intOf k).toNat)
      case atStart => exact ⟨0, 0, by omega, rfl, rfl, by omega, by decide, hb⟩
      case round =>
        obtain ⟨y, q, hq, rfl, rfl, hy1, hy2, hb'⟩ := hrel
        have hp := pow2_le q (by omega)
        by_cases hlt' : q < 32
        · have h2 : ∀ z : Int, 0 ≤ z % 2 ∧ z % 2 < 2 := fun z => ⟨Int.emod_nonneg _ (by decide), Int.emod_lt_of_pos _ (by decide)⟩
          have h3 := h2 (x / 2 ^ q)
          clear h2
          go_wp2
          go_roundw
          case rel => exact ⟨_, q + 1, by omega, rfl, by go_num, by omega, by rw [Int.pow_succ]; omega, hb'⟩
          case measure => simp [intOf]; omega
        · have : q = 32 := by omega
          subst this
          go_wp2
          go_ret
          exact ⟨_, rfl, hb', hy1, by simpa using hy2⟩

set_option maxRecDepth 100000 in
set_option maxHeartbeats 800000 in
theorem sealed_any (s : ByteArray) (w : World) (hs : s.size ≤ 1099511627776) :
    Calls Tryz.prog 40 #[.string s] w (RStr w fun t => t.size = s.size + 4) := by
  go_enter Tryz.func40, Tryz.ntmps40
  go_wp2_with fail
  refine (sum_any s _ (by unfold maxLen; omega)).mono ?_
  rintro e w1 ⟨c, rfl, hb1, hc1, hc2⟩
  go_wp2
  go_loopw [0, 4] (fun t k wr => ∃ (x : ByteArray) (q : Nat), q ≤ 4 ∧ t = .string x ∧ k = .int .i64 q ∧ x.size = s.size + q ∧ Bel w wr) (fun _ k _ => 4 - (intOf k).toNat)
  case atStart => exact ⟨s, 0, by omega, rfl, rfl, rfl, hb1⟩
  case round =>
    obtain ⟨x, q, hq, rfl, rfl, hx, hb⟩ := hrel
    by_cases hlt : q < 4
    · have hx2 : x.size ≤ 1099511627790 := by omega
      have HX : Hid (x.size = s.size + q) := hx
      clear hx
      have d1 : 0 ≤ c / 2 ^ (8 * q) := Int.ediv_nonneg hc1 (Int.le_of_lt (Int.pow_pos (by decide)))
      have d2 : c / 2 ^ (8 * q) ≤ c := Int.ediv_le_self _ hc1
      go_wp2_with fail
      refine (ones_any _ _ _ (by omega) (by omega) (by decide) (by decide)).mono ?_
      rintro e w2 ⟨y, rfl, hb2, hy⟩
      have hy' : y.size = 1 := hy
      clear hy
      go_wp2
      go_roundw
      case rel => exact ⟨_, q + 1, by omega, rfl, by go_num, by have := HX.out; simp [hy']; omega, by (repeat (first | exact Bel.refl _ | assumption | refine Bel.step_alloc ?_ _ | refine Bel.step_drew ?_ | refine Bel.step_drewN ?_ _ | refine Bel.step_set ?_ (by simp <;> omega) _ | refine Bel.trans ?_ (by assumption)))⟩
      case measure => simp [intOf]; omega
    · go_wp2
      go_ret
      exact ⟨_, rfl, hb, by omega⟩

set_option maxRecDepth 100000 in
set_option maxHeartbeats 800000 in
theorem unsealed_any (s : ByteArray) (w : World) (hs : s.size ≤ 1099511627776) :
    Calls Tryz.prog 60 #[.string s] w (RStrBool w fun a ok => a.size ≤ s.size ∧ (ok = true → 1 ≤ a.size)) := by
  by_cases h : s.size < 5
  · go_enter Tryz.func60, Tryz.ntmps60
    go_wp2
    go_ret2
    exact ⟨_, _, rfl, Bel.refl _, Nat.zero_le _, fun h => by cases h⟩
  · go_enter Tryz.func60, Tryz.ntmps60
    go_wp2_with fail
    have hz : (s.extract 0 (s.size - 4)).size = s.size - 4 := by simp
    generalize s.extract 0 (s.size - 4) = a at *
    refine (sealed_any a _ (by omega)).mono ?_
    rintro e w1 ⟨t, rfl, hb1, ht⟩
    clear ht
    go_wp2
    go_ret2
    exact ⟨_, _, rfl, by (repeat (first | exact Bel.refl _ | assumption | refine Bel.step_alloc ?_ _ | refine Bel.step_drew ?_ | refine Bel.step_drewN ?_ _ | refine Bel.step_set ?_ (by simp <;> omega) _ | refine Bel.trans ?_ (by assumption))), by omega, fun _ => by omega⟩

end Go.Proofs.YtgfildmmcbjpnabGreat

namespace Go.Proofs.YtgfildmmcbjpnabGreat
open Go.RowKit

/-- a number that an int holds -/
def Digits (n : ByteArray) : Prop := ∀ i (h : i < n.size), 48 ≤ (n[i]'h).toNat ∧ (n[i]'h).toNat ≤ 57

set_option maxRecDepth 100000 in
set_option maxHeartbeats 800000 in
theorem fields_any (b l cap : Nat) (n : ByteArray) (zs : List Int) (w : World) (hn : n.size = l) (hl : l ≤ 16) (hd : Digits n)
    (hc : ∀ t, t < l → w.cell? ⟨b, t, none⟩ = some (.int .i64 (zs.getD t 0))) (hz : ∀ t, I64 (zs.getD t 0)) :
    Calls Tryz.prog 62 #[.slice (some ⟨b, 0, none⟩) l cap, .string n] w (RStr w fun s => s.size ≤ 9 * l) := by
  go_enter Tryz.func62, Tryz.ntmps62
  go_wp2
  go_loopw [5, 6] (fun t i wr => ∃ (x : ByteArray) (k : Nat), k ≤ l ∧ t = .string x ∧ i = .int .i64 k ∧ x.size ≤ 9 * k ∧ Bel w wr) (fun _ i _ => l - (intOf i).toNat)
  case atStart => exact ⟨_, 0, by omega, rfl, rfl, Nat.zero_le _, Bel.refl _⟩
  case round =>
    obtain ⟨x, k, hk, rfl, rfl, hx, hb1⟩ := hrel
    by_cases hlt : k < l
    · have hcell := hb1.cell (hc k hlt)
      obtain ⟨hz1, hz2⟩ := hz k
      have hkn : k < n.size := by omega
      obtain ⟨hd1, hd2⟩ := hd k hkn
      have hd3 : (48 : Int) ≤ (n[k].toNat : Int) := by omega
      have hd4 : (n[k].toNat : Int) ≤ 57 := by omega
      clear hd hz hc hd1 hd2
      generalize zs.getD k 0 = z at *
      have hx2 : x.size ≤ 1000 := by omega
      have hw8 : IntKind.u8.wrap ((n[k].toNat : Int) - 48) = (n[k].toNat : Int) - 48 := by rw [IntKind.wrap_u8]; omega
      have hw64 : IntKind.i64.wrap ((n[k].toNat : Int) - 48) = (n[k].toNat : Int) - 48 := by rw [IntKind.wrap_i64]; omega
      go_wp2_with fail
      go_region_with (go_at_call 76; refine (ones_any _ _ _ (by omega) (by omega) (by omega) (by omega)).mono ?_; rintro e w2 ⟨y, rfl, hb2, hy⟩; have hyz : y.size ≤ 9 := by omega)
      all_goals
        go_wp2
        go_roundw
        case rel => exact ⟨_, k + 1, by omega, rfl, by go_num, by simp; omega, by (repeat (first | exact Bel.refl _ | assumption | refine Bel.step_alloc ?_ _ | refine Bel.step_drew ?_ | refine Bel.step_drewN ?_ _ | refine Bel.step_set ?_ (by simp <;> omega) _ | refine Bel.trans ?_ (by assumption)))⟩
        case measure => simp [intOf]; omega
    · go_wp2
      go_ret
      exact ⟨_, rfl, hb1, by omega⟩

end Go.Proofs.YtgfildmmcbjpnabGreat
