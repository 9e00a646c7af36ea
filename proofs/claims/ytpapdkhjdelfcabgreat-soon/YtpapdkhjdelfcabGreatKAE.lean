import Derived.Test.YtpapdkhjdelfcabGreatKAD
import Derived.Laws.IdiomStrings
import Derived.Laws.OwnMore
namespace Go.Proofs.YtpapdkhjdelfcabGreat
open Go.RowKit

/-- numbers in a row -/
def IntsAt (w : World) (v : Value) (l : List Nat) : Prop := RowAt w v l.length (l.map fun (n : Nat) => Value.int .i64 (n : Int))
theorem IntsAt.open {w : World} {v : Value} {l : List Nat} (h : IntsAt w v l) : ∃ ao cap, v = .slice ao l.length cap ∧ ∀ j (hj : j < l.length), ∃ g, ao = some ⟨g, 0, none⟩ ∧ w.cell? ⟨g, j, none⟩ = some (.int .i64 (l[j] : Int)) := by
  rcases h with ⟨h1, h2, _⟩ | ⟨g, cap, hv, hn, hg, hc⟩
  · exact ⟨none, 0, by rw [h1, h2], fun j hj => by omega⟩
  · exact ⟨_, cap, hv, fun j hj => ⟨g, rfl, hc j _ (by simp [hj])⟩⟩
def byteV (b : UInt8) : Value := .int .u8 (b.toNat : Int)
theorem u8_of (n : Nat) : ((UInt8.ofNat n).toNat : Int) = (n : Int) % 256 := by simp
theorem headOf_snoc (letter : UInt8) (nums : List Nat) (k : Nat) (h : k < nums.length) : headOf letter (nums.take (k + 1)) = headOf letter (nums.take k) ++ [UInt8.ofNat (nums[k] / 256), UInt8.ofNat nums[k]] := by
  rw [List.take_succ_eq_append_getElem h, headOf, List.flatMap_append, headOf]; simp
theorem headOf_len (letter : UInt8) (nums : List Nat) : (headOf letter nums).length = 1 + 2 * nums.length := by
  induction nums with
  | nil => rfl
  | cons n l ih => simp only [headOf, List.flatMap_cons, List.length_cons, List.length_append, List.length_nil] at ih ⊢; omega
theorem conv_head {w : World} {base : Nat} {v : Value} {l : List UInt8} (h : w.ownsRow base 5 1 v l.length (l.map byteV)) (hl : 0 < l.length) :
    (convert 105 9 v).run Tryz.prog w = .ok (.string ⟨l.toArray⟩) w := by
  rcases h.2 with ⟨_, h0⟩ | ⟨g, cap, cur, hv, hg, hh, r⟩
  · omega
  · have hc := h.cells (g := g) (by rw [hv]; rfl)
    rw [hv]
    refine run_convert_bytes_back w 105 9 5 _ cap l Tryz.underlying105 Tryz.underlying5 Tryz.underlying9 (fun j hj => ?_)
    exact hc j _ (by simp [hj, byteV])

set_option maxRecDepth 100000 in
set_option maxHeartbeats 800000 in
theorem hash_is (key : ByteArray) (letter : UInt8) (nums : List Nat) (vN : Value) (t : ByteArray) (w : World) (hN : IntsAt w vN nums) (hl : nums.length ≤ 2) (hk : key.size ≤ 4611686018427387904) (ht : t.size ≤ 4611686018427386000) :
    Calls Tryz.prog 184 #[.string key, .int .u8 (letter.toNat : Int), vN, .string t] w (RHash w (hsh key letter nums t)) := by
  obtain ⟨i0, hi, hz0, hz1, hz2⟩ := info_parts Tryz.infoByte
  obtain ⟨ao, cap, rfl, hc⟩ := hN.open
  obtain ⟨X, hX⟩ : ∃ X, X = hsh key letter nums t := ⟨_, rfl⟩
  have HX := Hid.mk hX
  rw [← hX]
  clear hX
  go_enter Tryz.func184, Tryz.ntmps184
  go_wp2
  have hown : (w.alloc (.cells #[.int .u8 (letter.toNat : Int)] 5)).ownsRow w.heap.size 5 1 (.slice (some ⟨w.heap.size, 0, none⟩) 1 1) 1 [.int .u8 (letter.toNat : Int)] := World.ownsRow_lit w #[.int .u8 (letter.toNat : Int)] 1 (Nat.le_refl _) (by decide) rfl
  go_loopg [9, 16] nums.length (fun r vh n wr => ∃ k : Nat, r = nums.length - k ∧ k ≤ nums.length ∧ n = .int .i64 k ∧ Bel w wr ∧ wr.ownsRow w.heap.size 5 1 vh (headOf letter (nums.take k)).length ((headOf letter (nums.take k)).map byteV))
  case atStart => exact ⟨0, by omega, by omega, rfl, by (repeat (first | exact Bel.refl _ | assumption | refine Bel.step_alloc ?_ _ | refine Bel.step_drew ?_ | refine Bel.step_drewN ?_ _ | refine Bel.step_set ?_ (by simp <;> omega) _ | refine Bel.trans ?_ (by assumption))), hown⟩
  case round =>
    obtain ⟨k, hr, hkn, rfl, hb, hO⟩ := hrel
    have HO := Hid.mk hO
    have hsz := headOf_len letter (nums.take k)
    have hsz2 : (headOf letter (nums.take k)).length ≤ 5 := by rw [hsz]; simp; omega
    have hsz1 : 0 < (headOf letter (nums.take k)).length := by rw [hsz]; omega
    clear hO hown hsz
    have hwr := hb.size
    by_cases hlt : k < nums.length
    · obtain ⟨g, rfl, c0⟩ := hc k hlt
      have c0' := hb.cell c0
      have HS := Hid.mk (headOf_snoc letter nums k hlt)
      clear hc c0
      generalize nums[k] = nk at *
      generalize headOf letter (nums.take k) = hd at *
      have e1 : Hid (byteV (UInt8.ofNat (nk / 256)) = .int .u8 ((nk : Int) / 256 % 256)) := by
        show byteV (UInt8.ofNat (nk / 256)) = _
        rw [byteV, u8_of, Int.natCast_ediv]; rfl
      have e2 : Hid (byteV (UInt8.ofNat nk) = .int .u8 ((nk : Int) % 256)) := by
        show byteV (UInt8.ofNat nk) = _
        rw [byteV, u8_of]
      go_wp2_with (first | (at_builtin; refine wpList_append_own _ rfl _ _ 105 rfl w.heap.size 5 i0 (.int .u8 0) 1 1 Tryz.underlying105 hi hz0 hz1 hz2 rfl (by decide) _ hd.length (hd.map byteV) rfl ?p1 ⟨wr.heap.size, 0, none⟩ 2 2 [.int .u8 ((nk : Int) / 256 % 256), .int .u8 ((nk : Int) % 256)] rfl rfl ?d1 ?d2 ?d3 ?d4 ?d5 ?_))
      case p1 => exact World.ownsRow.alloc HO.out _
      try (case d1 => exact two_new _ _ _ _ _ (by simp))
      case d2 => first | exact ⟨rfl, rfl⟩ | exact two_one rfl rfl
      case d3 => unfold maxLen; omega
      case d4 => omega
      case d5 => first | omega | (simp; omega)
      intro v2 w2 hown2 hgrow2 _
      have hb2 : Bel w w2 := (hb.step_alloc _).grown hgrow2 (fun g hg => (World.ownsRow.lt HO.out g hg).1)
      have H2 : Hid (w2.ownsRow w.heap.size 5 1 v2 (headOf letter (nums.take (k + 1))).length ((headOf letter (nums.take (k + 1))).map byteV)) := by
        show w2.ownsRow _ _ _ _ _ _
        rw [HS.out, List.map_append, List.length_append]
        simp only [List.map_cons, List.map_nil, e1.out, e2.out]
        exact hown2
      clear hown2 hgrow2 e1 e2
      go_wp2
      go_roundg (nums.length - (k + 1))
      case measure => omega
      case rel => exact ⟨k + 1, rfl, by omega, by go_num, hb2, H2.out⟩
    · have hnn : nums.take k = nums := List.take_of_length_le (by omega)
      rw [hnn] at HO hsz1 hsz2
      clear hc hnn
      have hcv := conv_head HO.out hsz1
      have hsum := fun wx => sum_is key (ByteArray.mk (headOf letter nums).toArray ++ t) wx hk (by
        rw [ByteArray.size_append]
        have : (ByteArray.mk (headOf letter nums).toArray).size = (headOf letter nums).length := by simp [ByteArray.size]
        rw [this]; omega)
      rw [show sipSum key (ByteArray.mk (headOf letter nums).toArray ++ t) = X from HX.out.symm] at hsum
      have hds : (ByteArray.mk (headOf letter nums).toArray).size ≤ 5 := by
        have : (ByteArray.mk (headOf letter nums).toArray).size = (headOf letter nums).length := by simp [ByteArray.size]
        rw [this]; omega
      generalize (ByteArray.mk (headOf letter nums).toArray) = hd at *
      go_wp2_with fail
      refine (hsum _).mono ?_
      rintro e w2 ⟨rfl, hb2⟩
      go_wp2
      go_ret
      exact ⟨rfl, hb.trans hb2⟩

end Go.Proofs.YtpapdkhjdelfcabGreat
