import Derived.Test.YtpapdkhjdelfcabGreatQBV
import Derived.Test.YtpapdkhjdelfcabGreatQBU
import Derived.Test.YtpapdkhjdelfcabGreatQBQ
import Derived.Test.YtpapdkhjdelfcabGreatQBA
namespace Go.Proofs.YtpapdkhjdelfcabGreat
open Go.RowKit

set_option maxRecDepth 100000 in
set_option maxHeartbeats 1000000 in
theorem step_restart (W0 : World) (p s : Nat) (k : KI) (a b c : Int) (S : ByteArray) (w : World) (h : KInv W0 p s k w) (hR : k.Rdy s) (hs : s ≤ 65600) (hpp : 0 < k.pp.length) (ha : I64 a) :
    Calls Tryz.prog 36 #[.pointer (some ⟨p, 0, none⟩), opV 10 a b c S] w (RStep W0 p (s + 1) FS) := by
  have hhl := h.hdn hR
  have hle4 : k.pp.length ≤ 4 := h.svc.le4
  have hpk := fun wx => pick_is a (k.hd.length : Int) wx ha (by omega) (by omega)
  obtain ⟨h1, h2⟩ := pickF_range a (k.hd.length : Int) (by omega)
  obtain ⟨n, hn⟩ := Int.eq_ofNat_of_zero_le h1
  rw [hn] at hpk h2
  have hnl : n < k.pp.length := by omega
  obtain ⟨gh, ch, hvh, -, -⟩ := World.ownsRow.form h.held (by omega : 0 < k.hd.length)
  have c17 : w.cell? ⟨p, 17, none⟩ = some (.slice (some ⟨gh, 0, none⟩) k.hd.length ch) := by rw [← hvh]; exact h.at_.1 17 _ rfl
  have c7 := h.at_.1 7 _ rfl
  have hplt := h.at_.lt (by rw [wl_len]; decide)
  have hp0 := (h.lt p (h.inM p h.p_in)).1
  have hlz : ((k.hd.length : Int) == 0) = false := by rw [beq_eq_false_iff_ne]; omega
  have hfb : k.fb ≤ 800000000000 := hR.fb8 hs
  have HI := Hid.mk h
  have hcl := fun wx (b' : Bel w wx) => krestart_is (h.later b') hnl
  generalize (k.pp[n]).2.1.fm = fmv at hcl
  clear h h1 hn
  have HR := Hid.mk hR
  have HHL := Hid.mk hhl
  have HNL := Hid.mk hnl
  have HS := Hid.mk hs
  clear hR hhl hnl hs hle4 hpp h2 hfb
  unfold opV
  go_enter Tryz.func36, Tryz.ntmps36
  go_wp2_with fail
  go_region_held3 (fun w' => Bel w w' ∧ w'.cell? ⟨p, 17, none⟩ = some (.slice (some ⟨gh, 0, none⟩) k.hd.length ch) ∧ w'.cell? ⟨w.heap.size, 1, none⟩ = some (.int .i64 a)) ((exact ⟨by (repeat (first | exact Bel.refl _ | assumption | refine Bel.step_alloc ?_ _ | refine Bel.step_drew ?_ | refine Bel.step_drewN ?_ _ | refine Bel.step_set ?_ (by simp <;> omega) _ | refine Bel.trans ?_ (by assumption))), Bel.cell (a := w) (by (repeat (first | exact Bel.refl _ | assumption | refine Bel.step_alloc ?_ _ | refine Bel.step_drew ?_ | refine Bel.step_drewN ?_ _ | refine Bel.step_set ?_ (by simp <;> omega) _ | refine Bel.trans ?_ (by assumption)))) c17, by simp⟩)) ((go_at_call 70; refine (hpk _).mono ?_; rintro e w2 ⟨rfl, rfl⟩))
  all_goals clear hpk
  go_wp2_with fail
  refine (hcl _ (by (repeat (first | exact Bel.refl _ | assumption | refine Bel.step_alloc ?_ _ | refine Bel.step_drew ?_ | refine Bel.step_drewN ?_ _ | refine Bel.step_set ?_ (by simp <;> omega) _ | refine Bel.trans ?_ (by assumption))))).mono ?_
  rintro e w2 ⟨rfl, k2, hk2, hT2, -⟩
  have hvh2 : k2.vh = .slice (some ⟨gh, 0, none⟩) k2.hd.length ch := by rw [hT2.vh, hT2.hd]; exact hvh
  have hnk : n < k.hd.length := by rw [HHL.out]; exact HNL.out
  have hn2 : n < k2.hd.length := by rw [hT2.hd, HHL.out]; exact HNL.out
  have hrow := hk2.held
  rw [hvh2] at hrow
  have hc2 : w2.cell? ⟨gh, n, none⟩ = some (.int .i64 k2.hd[n]) := by
    have hc := World.ownsRow.cellAt hrow n (by simpa using hn2)
    rw [hc]; simp [hn2]
  have hf2 : w2.frozen? ⟨gh, n, none⟩ = false := World.ownsRow.frozenAt hrow n
  have x17 : w2.cell? ⟨p, 17, none⟩ = some (.slice (some ⟨gh, 0, none⟩) k.hd.length ch) := by rw [← hvh, ← hT2.vh]; exact hk2.at_.1 17 _ rfl
  have hk3 := hk2.note hvh2 hn2 (x := 0) (by omega)
  have hst := kstands_is hk3 HS.out (by show k2.dh = 0; rw [hT2.dh]; exact HR.out.2.1) (n := n) (by show n < k2.pp.length; rw [hT2.len]; exact HNL.out)
  have hRS : ∀ {hd' : List Int} {w' : World}, KInv W0 p s { k2 with hd := hd' } w' → KInv W0 p (s + 1) { k2 with hd := hd' } w' ∧ ({ k2 with hd := hd' } : KI).Rdy (s + 1) := fun h => RStand.up h HR.out hT2 (by decide)
  clear hk2 hcl hrow hk3
  go_wp2_with fail
  refine hst.mono ?_
  rintro e w3 ⟨bb, hd', rfl, hk3⟩
  have hfa := fails_is p _ 2 w3 hk3.at_ (by rw [wl_len]; decide)
  have h0 := hk3.at_.1 0 _ rfl
  have hB3 := hk3.bel
  have HK3 := Hid.mk hk3
  clear hst hk3
  cases bb
  · go_wp2_with fail
    refine hfa.mono ?_
    rintro e w4 ⟨rfl, rfl⟩
    clear hfa HK3
    go_wp2
    go_ret
    exact Or.inr ⟨rfl, hB3.step_set hp0 _, 2, Or.inr (by simp), set_same h0⟩
  · clear hfa h0
    go_wp2
    go_ret
    exact Or.inl ⟨rfl, _, hRS HK3.out⟩

end Go.Proofs.YtpapdkhjdelfcabGreat

namespace Go.Proofs.YtpapdkhjdelfcabGreat
open Go.RowKit

theorem crc_low (y : BitVec 32) : bits .and .u32 (y.toNat : Int) 1 = ((y.toNat % 2 : Nat) : Int) := by
  have hy := y.isLt
  rw [show (1 : Int) = ((1 : Nat) : Int) from rfl, u32_and_nat _ _ (by omega) (by omega), Nat.and_one_is_mod]
theorem cStep_nat (y : BitVec 32) : (cStep y).toNat = y.toNat / 2 ^^^ (3988292384 * (y.toNat % 2)) := by
  have hy := y.isLt
  unfold cStep
  rw [BitVec.toNat_xor, BitVec.toNat_ushiftRight, Nat.shiftRight_eq_div_pow]
  have h0 : y.getLsbD 0 = (y.toNat % 2 == 1) := by
    rw [BitVec.getLsbD, Nat.testBit_zero]
    rcases Nat.mod_two_eq_zero_or_one y.toNat with h | h <;> simp [h]
  rw [h0]
  rcases Nat.mod_two_eq_zero_or_one y.toNat with h | h <;> simp [h]
theorem crc_one {y : BitVec 32} (h : y.toNat % 2 = 1) : bits .xor .u32 ((y.toNat : Int) / 2) 3988292384 = ((cStep y).toNat : Int) := by
  have hy := y.isLt
  have e1 : ((y.toNat : Int) / 2) = ((y.toNat / 2 : Nat) : Int) := by omega
  rw [e1, show (3988292384 : Int) = ((3988292384 : Nat) : Int) from rfl, u32_xor_nat _ _ (by omega) (by omega), cStep_nat, h]
theorem crc_nil {y : BitVec 32} (h : y.toNat % 2 = 0) : ((y.toNat : Int) / 2) = ((cStep y).toNat : Int) := by
  rw [cStep_nat, h]
  simp

set_option maxRecDepth 100000 in
set_option maxHeartbeats 1000000 in
theorem kcrc_is (t : ByteArray) (w : World) (ht : t.size ≤ 1099511627776) :
    Calls Tryz.prog 180 #[.string t] w (RCrc w (crcB t.data.toList)) := by
  have hz : Hid (t.data.toList.length = t.size) := by show _ = _; rw [Array.length_toList]; rfl
  go_enter Tryz.func180, Tryz.ntmps180
  go_wp2
  go_loopg [3, 4] t.size (fun r x d wr => w = wr ∧ ∃ k : Nat, r = t.size - k ∧ k ≤ t.size ∧ x = .int .u32 (((t.data.toList.take k).foldl cByte 0xFFFFFFFF#32).toNat : Int) ∧ d = .int .i64 (k : Int))
  case atStart => exact ⟨rfl, 0, rfl, by omega, rfl, rfl⟩
  case round =>
    obtain ⟨rfl, k, hr, hk, rfl, rfl⟩ := hrel
    by_cases hlt : k < t.size
    · have hft : Hid ((t.data.toList.take (k + 1)).foldl cByte 0xFFFFFFFF#32 = cByte ((t.data.toList.take k).foldl cByte 0xFFFFFFFF#32) (t[k]'hlt)) := fold_take t.data.toList k (by rw [hz.out]; exact hlt) _
      generalize (t.data.toList.take k).foldl cByte 0xFFFFFFFF#32 = c at *
      go_wp2
      go_loopg [3, 5] 8 (fun r x d wr => w = wr ∧ ∃ j : Nat, r = 8 - j ∧ j ≤ 8 ∧ x = .int .u32 ((stepN (c ^^^ BitVec.ofNat 32 (t[k]'hlt).toNat) j).toNat : Int) ∧ d = .int .i64 (j : Int))
      case atStart => exact ⟨rfl, 0, rfl, by omega, by rw [crc_xor]; rfl, rfl⟩
      case round =>
        obtain ⟨rfl, j, hr2, hj, rfl, rfl⟩ := hrel
        by_cases hj8 : j < 8
        · have hst : Hid (stepN (c ^^^ BitVec.ofNat 32 (t[k]'hlt).toNat) (j + 1) = cStep (stepN (c ^^^ BitVec.ofNat 32 (t[k]'hlt).toNat) j)) := rfl
          generalize stepN (c ^^^ BitVec.ofNat 32 (t[k]'hlt).toNat) j = y at *
          rcases Nat.mod_two_eq_zero_or_one y.toNat with h2 | h2
          · have hlow : (bits .and .u32 (y.toNat : Int) 1 == 1) = false := by rw [crc_low, h2]; rfl
            have HS := Hid.mk (crc_nil h2)
            go_wp2
            go_roundg (8 - (j + 1))
            case measure => omega
            case rel => exact ⟨rfl, j + 1, rfl, by omega, by rw [hst.out, ← HS.out], by go_num⟩
          · have hlow : (bits .and .u32 (y.toNat : Int) 1 == 1) = true := by rw [crc_low, h2]; rfl
            have HS := Hid.mk (crc_one h2)
            go_wp2
            go_roundg (8 - (j + 1))
            case measure => omega
            case rel => exact ⟨rfl, j + 1, rfl, by omega, by rw [hst.out, ← HS.out], by go_num⟩
        · obtain rfl : j = 8 := by omega
          rw [← cByte_step, ← hft.out]
          go_wp2
          go_roundg (t.size - (k + 1))
          case measure => omega
          case rel => exact ⟨rfl, k + 1, rfl, by omega, rfl, by go_num⟩
    · have he : Hid (t.data.toList.take k = t.data.toList) := List.take_of_length_le (by rw [hz.out]; omega)
      go_wp2
      go_ret
      refine ⟨?_, rfl⟩
      show Ending.returned (.int .u32 (bits .xor .u32 _ 4294967295)) = _
      have := crc_xor ((t.data.toList.take k).foldl cByte 0xFFFFFFFF#32) 4294967295
      rw [show (((4294967295 : Nat) : Int) % 4294967296) = 4294967295 from rfl] at this
      rw [this, he.out]
      rfl
theorem decF_len4 {l : List UInt8} (h : (decF l).2.2.2 = 0) : 4 < l.length := by
  unfold decF at h
  split at h
  · rename_i hi
    unfold imageP openB at hi
    by_cases hl : l.length ≤ 4
    · rw [if_pos hl] at hi; simp at hi
    · omega
  · simp at h

/-- the other service of Bytes -/
def AnI (w : World) (q2 : Nat) (on : Cfg) (i : Nat) (wr : World) : Prop := ∃ (Bx : List BK) (gx : Nat), SvcAt (.slice none 0 0) [q2] q2 on Bx (gx : Int) wr ∧ Good Bx ∧ Bel w wr ∧ gx ≤ i
def RAny (w : World) (e : Ending) (w' : World) : Prop := ∃ b, e = .returned (.bool b) ∧ Bel w w'

end Go.Proofs.YtpapdkhjdelfcabGreat

namespace Go.Proofs.YtpapdkhjdelfcabGreat
open Go.RowKit

theorem valB_zeros (L : List Bool) (k : Nat) : valB (L ++ List.replicate k false) = valB L * 2 ^ k := by
  induction k with
  | zero => simp
  | succ k ih =>
    rw [List.replicate_succ', ← List.append_assoc, valB_snoc, ih, Nat.pow_succ]
    simp only [Bool.toNat_false, Nat.add_zero]
    rw [Nat.mul_comm 2, Nat.mul_assoc]
/-- what is packed is read back, with some noughts behind -/
theorem pack_bits : ∀ (n : Nat) (L : List Bool), L.length ≤ n → ∃ z, z < 8 ∧ bytesBits (packB L) = L ++ List.replicate z false
  | 0, L, h => by
    rw [List.eq_nil_of_length_eq_zero (by omega : L.length = 0)]
    exact ⟨0, by omega, rfl⟩
  | n + 1, L, h => by
    by_cases h0 : L.length = 0
    · rw [List.eq_nil_of_length_eq_zero h0]
      exact ⟨0, by omega, rfl⟩
    by_cases h8 : L.length < 8
    · refine ⟨8 - L.length, by omega, ?_⟩
      rw [packB_rest L (by omega) h8, ← valB_zeros]
      show byteBits _ ++ [] = _
      rw [List.append_nil, byteBits_val _ (by rw [List.length_append, List.length_replicate]; omega)]
    · have hb := byteBits_val (L.take 8) (by rw [List.length_take]; omega)
      obtain ⟨z, hz, he⟩ := pack_bits n (L.drop 8) (by rw [List.length_drop]; omega)
      refine ⟨z, hz, ?_⟩
      have hL : L = byteBits (UInt8.ofNat (valB (L.take 8))) ++ L.drop 8 := by rw [hb, List.take_append_drop]
      have hp : packB L = UInt8.ofNat (valB (L.take 8)) :: packB (L.drop 8) := by
        have := packB_byte (UInt8.ofNat (valB (L.take 8))) (L.drop 8)
        rwa [← hL] at this
      rw [hp]
      show byteBits _ ++ bytesBits (packB (L.drop 8)) = _
      rw [he, hb, ← List.append_assoc, List.take_append_drop]
theorem zeros_end (z : Nat) (h : z < 8) : endP (some (List.replicate z false)) = true := by
  have : valB (List.replicate z false) = 0 := by
    have := valB_zeros [] z
    simpa [valB] using this
  simp [endP, h, this]
theorem numP_num {n W : Nat} (Y : List Bool) (h : n < 2 ^ W) : numP W (numBits n W ++ Y) = some (n, Y) := by
  have hl := numBits_len n W
  unfold numP
  rw [if_neg (by rw [List.length_append, hl]; omega), List.take_left' hl, List.drop_left' hl, valB_num, Nat.mod_eq_of_lt h]
theorem textP_txt {k : Nat} (l : List UInt8) (Y : List Bool) (h : l.length = k) : textP k (bytesBits l ++ Y) = some (l, Y) := by
  have hl : (bytesBits l).length = 8 * k := by rw [bytesBits_len, h]
  have hp : packB (bytesBits l) = l := by have := packB_bytes l []; simpa [packB] using this
  unfold textP
  rw [if_neg (by rw [List.length_append, hl]; omega), List.take_left' hl, List.drop_left' hl, hp]
theorem thenP_go {α β : Type} {P : List Bool → Option (α × List Bool)} {Q : α → List Bool → Option (β × List Bool)} {X Y : List Bool} {a : α} (h : P X = some (a, Y)) : thenP P Q X = Q a Y := by
  unfold thenP
  rw [h]; rfl
theorem manyP_enc {α : Type} {P : List Bool → Option (α × List Bool)} {enc : α → List Bool} (l : List α) (h : ∀ a ∈ l, ∀ Y, P (enc a ++ Y) = some (a, Y)) (Y : List Bool) : manyP P l.length (l.flatMap enc ++ Y) = some (l, Y) := by
  have key : ∀ n, n ≤ l.length → manyP P n (l.flatMap enc ++ Y) = some (l.take n, (l.drop n).flatMap enc ++ Y) := by
    intro n
    induction n with
    | zero => intro _; simp [manyP]
    | succ n ih =>
      intro hn
      have hlt : n < l.length := by omega
      rw [manyP, ih (by omega)]
      rw [List.drop_eq_getElem_cons hlt, List.flatMap_cons, List.append_assoc]
      show (P (enc l[n] ++ _)).map _ = _
      rw [h _ (List.getElem_mem hlt), List.take_succ_eq_append_getElem hlt]
      rfl
  have := key l.length (Nat.le_refl _)
  simpa using this
theorem oneBk_enc (b : BK) (h : PoolOK [b]) (Y : List Bool) : oneBk (bkB b ++ Y) = some (b, Y) := by
  obtain ⟨h1, h2, h3, h4⟩ := h.2 b (by simp)
  obtain ⟨id, n⟩ := b
  simp only at h1 h2 h3 h4
  have hs : id.data.toList.length = id.size := by rw [Array.length_toList]; rfl
  unfold oneBk bkB
  rw [List.append_assoc, List.append_assoc]
  rw [thenP_go (numP_num (W := 8) _ (by show id.size < 256; omega)), thenP_go (textP_txt id.data.toList _ hs), thenP_go (numP_num (W := 8) _ (by show n.toNat < 256; omega))]
  show some ((txt id.data.toList, (n.toNat : Int)), Y) = _
  rw [Int.toNat_of_nonneg h3]
  rfl
theorem bksX_enc (B : List BK) (h : PoolOK B) (Y : List Bool) : bksX (bksB B ++ Y) = some (B, Y) := by
  have h8 := h.1
  unfold bksX bksB
  rw [List.append_assoc, thenP_go (numP_num (W := 8) _ (by show B.length < 256; omega))]
  exact manyP_enc B (fun b hb Y => oneBk_enc b ⟨by simp, fun x hx => by rw [List.mem_singleton.1 hx]; exact h.2 b hb⟩ Y) Y
theorem headX_enc (f g : Nat) (c : Cfg) (hf : f < 256) (hg : g < 4294967296) (hc : c.TOK) (Y : List Bool) : textP 2 (headB f g c ++ Y) = some ([67, 72], numBits f 8 ++ (numBits c.alg.toNat 8 ++ (numBits g 32 ++ (numBits c.slots.toNat 16 ++ (numBits c.points.toNat 8 ++ (numBits c.probes.toNat 8 ++ (bytesBits c.key.data.toList ++ Y))))))) ∧
    headX (numBits f 8 ++ (numBits c.alg.toNat 8 ++ (numBits g 32 ++ (numBits c.slots.toNat 16 ++ (numBits c.points.toNat 8 ++ (numBits c.probes.toNat 8 ++ (bytesBits c.key.data.toList ++ Y))))))) = some ((f, g, { c with formats := 0 }), Y) := by
  obtain ⟨h1, h2, h3, h4, -, h6, h7, h8, h9, h10⟩ := hc
  have hs : c.key.data.toList.length = 16 := by rw [Array.length_toList]; exact h10
  refine ⟨?_, ?_⟩
  · unfold headB
    simp only [List.nil_append, List.append_assoc]
    exact textP_txt [67, 72] _ rfl
  · unfold headX
    rw [thenP_go (numP_num (W := 8) _ hf), thenP_go (numP_num (W := 8) _ (by show c.alg.toNat < 256; omega)), thenP_go (numP_num (W := 32) _ hg), thenP_go (numP_num (W := 16) _ (by show c.slots.toNat < 65536; omega)), thenP_go (numP_num (W := 8) _ (by show c.points.toNat < 256; omega)), thenP_go (numP_num (W := 8) _ (by show c.probes.toNat < 256; omega)), thenP_go (textP_txt _ _ hs)]
    show some ((f, g, (⟨(c.alg.toNat : Int), (c.slots.toNat : Int), (c.points.toNat : Int), (c.probes.toNat : Int), txt c.key.data.toList, 0⟩ : Cfg)), Y) = _
    rw [Int.toNat_of_nonneg (by omega), Int.toNat_of_nonneg (by omega), Int.toNat_of_nonneg (by omega), Int.toNat_of_nonneg (by omega)]
    rfl
theorem plb_ge {j n : Nat} (h : j < n) (hn : n ≤ 8) : j < 2 ^ plb n := by
  unfold plb blen
  rcases (show n = 1 ∨ n = 2 ∨ n = 3 ∨ n = 4 ∨ n = 5 ∨ n = 6 ∨ n = 7 ∨ n = 8 by omega) with rfl | rfl | rfl | rfl | rfl | rfl | rfl | rfl <;> simp <;> omega
/-- an entry as it can be written -/
def EnW (alg : Int) (n : Nat) (e : EI) : Prop := 0 ≤ e.1 ∧ (e.1 < 18446744073709551616) ∧ (hasP alg = false → e.1 = 0) ∧ 0 ≤ e.2 ∧ e.2 < n
theorem oneEn_enc {f : Nat} {alg : Int} {n : Nat} {e : EI} (hn : n ≤ 8) (h : EnW alg n e) (Y : List Bool) : oneEn (wpF alg) (woF f alg n) (enB (wpF alg) (woF f alg n) e ++ Y) = some (e, Y) := by
  obtain ⟨h1, h2, h3, h4, h5⟩ := h
  obtain ⟨x, y⟩ := e
  simp only at h1 h2 h3 h4 h5
  have hu : u64N y = y.toNat := by unfold u64N; omega
  have hy : y.toNat < n := by omega
  have hw : y.toNat < 2 ^ woF f alg n := by
    unfold woF
    split
    · exact plb_ge hy hn
    · split
      · exact Nat.lt_of_lt_of_le hy (Nat.le_trans hn (by decide))
      · exact Nat.lt_of_lt_of_le hy (Nat.le_trans hn (by decide))
  have hx : x.toNat < 2 ^ wpF alg := by
    unfold wpF
    cases hp : hasP alg
    · rw [h3 hp]; decide
    · show x.toNat < 2 ^ 64
      omega
  unfold oneEn enB
  rw [List.append_assoc, hu, thenP_go (numP_num _ hx), thenP_go (numP_num _ hw)]
  show some (((x.toNat : Int), (y.toNat : Int)), Y) = _
  rw [Int.toNat_of_nonneg h1, Int.toNat_of_nonneg h4]
/-- an image is read as it was written -/
theorem image_round {f g : Nat} {c : Cfg} {B : List BK} {E : List EI} (hf : 1 ≤ f ∧ f ≤ 2) (hc : c.TOK) (hB : Good B) (hE : ∀ e ∈ E, EnW c.alg B.length e) (hl : E.length < 65536) (hR : RightG g c B E) : imageP (imageB f g c B E) = some (f, g, { c with formats := 0 }, B, E) := by
  obtain ⟨z, hz, hbits⟩ := pack_bits _ (bodyB f g c B E) (Nat.le_refl _)
  have hlen : 0 < (packB (bodyB f g c B E)).length := by
    rcases Nat.eq_zero_or_pos (packB (bodyB f g c B E)).length with e | e
    · exfalso
      have h0 := congrArg List.length hbits
      rw [bytesBits_len, e, List.length_append] at h0
      have : 0 < (bodyB f g c B E).length := by
        unfold bodyB headB
        simp only [List.length_append, bytesBits_len, List.length_cons]
        omega
      omega
    · exact e
  have hop : openB (imageB f g c B E) = some (packB (bodyB f g c B E)) := by
    unfold imageB openB
    have e4 : (sumB (crcB (packB (bodyB f g c B E)))).length = 4 := rfl
    have e : (packB (bodyB f g c B E) ++ sumB (crcB (packB (bodyB f g c B E)))).length - 4 = (packB (bodyB f g c B E)).length := by rw [List.length_append, e4]; omega
    rw [if_neg (by rw [List.length_append, e4]; omega), e, List.take_left', List.drop_left', if_pos rfl]
    · rfl
    · rfl
  have hg2 := hR.1.2
  have hbody : bodyB f g c B E ++ List.replicate z false = headB f g c ++ (bksB B ++ (numBits E.length 16 ++ (ensB (wpF c.alg) (woF f c.alg B.length) E ++ List.replicate z false))) := by
    unfold bodyB
    simp only [List.append_assoc]
  obtain ⟨s1, s2⟩ := headX_enc f g c (by omega) (by omega) hc (bksB B ++ (numBits E.length 16 ++ (ensB (wpF c.alg) (woF f c.alg B.length) E ++ List.replicate z false)))
  have s3 := bksX_enc B hB.1 (numBits E.length 16 ++ (ensB (wpF c.alg) (woF f c.alg B.length) E ++ List.replicate z false))
  have s4 := numP_num (W := 16) (ensB (wpF c.alg) (woF f c.alg B.length) E ++ List.replicate z false) (by show E.length < 65536; exact hl)
  have s5 := manyP_enc (P := oneEn (wpF c.alg) (woF f c.alg B.length)) (enc := enB (wpF c.alg) (woF f c.alg B.length)) E (fun e he Y => oneEn_enc hB.1.1 (hE e he) Y) (List.replicate z false)
  unfold imageP
  rw [hop, Option.bind_some, hbits, hbody]
  rw [imgT_step (o' := some _) (by rw [Option.bind_some, s1]; rfl), if_pos rfl, imgH_step (o' := some _) (by rw [Option.bind_some, s2]; rfl), if_pos ⟨hf, hc⟩, imgB_step (o' := some _) (by rw [Option.bind_some, s3]; rfl), if_pos hB, imgN_step (o' := some _) (by rw [Option.bind_some, s4]; rfl)]
  rw [imgE_step (o' := some (List.replicate z false)) (E := E) (by rw [Option.bind_some]; exact s5)]
  unfold imgEnd
  rw [if_pos ⟨zeros_end z hz, hR⟩]

end Go.Proofs.YtpapdkhjdelfcabGreat
