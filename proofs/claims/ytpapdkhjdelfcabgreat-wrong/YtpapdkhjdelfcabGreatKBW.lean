import Derived.Test.YtpapdkhjdelfcabGreatKBV
import Derived.Test.YtpapdkhjdelfcabGreatKBU
import Derived.Test.YtpapdkhjdelfcabGreatKBQ
namespace Go.Proofs.YtpapdkhjdelfcabGreat
open Go.RowKit

set_option maxRecDepth 100000 in
set_option maxHeartbeats 1000000 in
theorem step_restart (W0 : World) (p s : Nat) (k : KI) (a b c : Int) (S : ByteArray) (w : World) (h : KInv W0 p s k w) (hR : k.Rdy s) (hs : s ≤ 65600) (hpp : 0 < k.pp.length) (ha : I64 a) :
    Calls Tryz.prog 36 #[.pointer (some ⟨p, 0, none⟩), opV 10 a b c S] w (RStep W0 p (s + 1) FS) := by
  have hhl := h.hdn hR
  have hle4 : k.pp.length ≤ 4 := h.svc.le4
  have hpk := fun wx => pick_is a (k.hd.length : Int) wx ha (by omega) (by omega)
  obtain ⟨h1, h2⟩ := pickF_range a (k.hd.length : Int) (by omega)
  obtain ⟨n, hn⟩ := Int.eq_ofNat_of_zero_le h1
  rw [hn] at hpk h2
  have hnl : n < k.pp.length := by omega
  obtain ⟨gh, ch, hvh, -, -⟩ := World.ownsRow.form h.held (by omega : 0 < k.hd.length)
  have c17 : w.cell? ⟨p, 17, none⟩ = some (.slice (some ⟨gh, 0, none⟩) k.hd.length ch) := by rw [← hvh]; exact h.at_.1 17 _ rfl
  have c7 := h.at_.1 7 _ rfl
  have hplt := h.at_.lt (by rw [wl_len]; decide)
  have hp0 := (h.lt p (h.inM p h.p_in)).1
  have hlz : ((k.hd.length : Int) == 0) = false := by rw [beq_eq_false_iff_ne]; omega
  have hfb : k.fb ≤ 800000000000 := hR.fb8 hs
  have HI := Hid.mk h
  have hcl := fun wx (b' : Bel w wx) => krestart_is (h.later b') hnl
  generalize (k.pp[n]).2.1.fm = fmv at hcl
  clear h h1 hn
  have HR := Hid.mk hR
  have HHL := Hid.mk hhl
  have HNL := Hid.mk hnl
  have HS := Hid.mk hs
  clear hR hhl hnl hs hle4 hpp h2 hfb
  unfold opV
  go_enter Tryz.func36, Tryz.ntmps36
  go_wp2_with fail
  go_region_held3 (fun w' => Bel w w' ∧ w'.cell? ⟨p, 17, none⟩ = some (.slice (some ⟨gh, 0, none⟩) k.hd.length ch) ∧ w'.cell? ⟨w.heap.size, 1, none⟩ = some (.int .i64 a)) ((exact ⟨by (repeat (first | exact Bel.refl _ | assumption | refine Bel.step_alloc ?_ _ | refine Bel.step_drew ?_ | refine Bel.step_drewN ?_ _ | refine Bel.step_set ?_ (by simp <;> omega) _ | refine Bel.trans ?_ (by assumption))), Bel.cell (a := w) (by (repeat (first | exact Bel.refl _ | assumption | refine Bel.step_alloc ?_ _ | refine Bel.step_drew ?_ | refine Bel.step_drewN ?_ _ | refine Bel.step_set ?_ (by simp <;> omega) _ | refine Bel.trans ?_ (by assumption)))) c17, by simp⟩)) ((go_at_call 70; refine (hpk _).mono ?_; rintro e w2 ⟨rfl, rfl⟩))
  all_goals clear hpk
  go_wp2_with fail
  refine (hcl _ (by (repeat (first | exact Bel.refl _ | assumption | refine Bel.step_alloc ?_ _ | refine Bel.step_drew ?_ | refine Bel.step_drewN ?_ _ | refine Bel.step_set ?_ (by simp <;> omega) _ | refine Bel.trans ?_ (by assumption))))).mono ?_
  rintro e w2 ⟨rfl, k2, hk2, hT2, -⟩
  have hvh2 : k2.vh = .slice (some ⟨gh, 0, none⟩) k2.hd.length ch := by rw [hT2.vh, hT2.hd]; exact hvh
  have hnk : n < k.hd.length := by rw [HHL.out]; exact HNL.out
  have hn2 : n < k2.hd.length := by rw [hT2.hd, HHL.out]; exact HNL.out
  have hrow := hk2.held
  rw [hvh2] at hrow
  have hc2 : w2.cell? ⟨gh, n, none⟩ = some (.int .i64 k2.hd[n]) := by
    have hc := World.ownsRow.cellAt hrow n (by simpa using hn2)
    rw [hc]; simp [hn2]
  have hf2 : w2.frozen? ⟨gh, n, none⟩ = false := World.ownsRow.frozenAt hrow n
  have x17 : w2.cell? ⟨p, 17, none⟩ = some (.slice (some ⟨gh, 0, none⟩) k.hd.length ch) := by rw [← hvh, ← hT2.vh]; exact hk2.at_.1 17 _ rfl
  have hk3 := hk2.note hvh2 hn2 (x := 0) (by omega)
  have hst := kstands_is hk3 HS.out (by show k2.dh = 0; rw [hT2.dh]; exact HR.out.2.1) (n := n) (by show n < k2.pp.length; rw [hT2.len]; exact HNL.out)
  have hRS : ∀ {hd' : List Int} {w' : World}, KInv W0 p s { k2 with hd := hd' } w' → KInv W0 p (s + 1) { k2 with hd := hd' } w' ∧ ({ k2 with hd := hd' } : KI).Rdy (s + 1) := fun h => RStand.up h HR.out hT2 (by decide)
  clear hk2 hcl hrow hk3
  go_wp2_with fail
  refine hst.mono ?_
  rintro e w3 ⟨bb, hd', rfl, hk3⟩
  have hfa := fails_is p _ 2 w3 hk3.at_ (by rw [wl_len]; decide)
  have h0 := hk3.at_.1 0 _ rfl
  have hB3 := hk3.bel
  have HK3 := Hid.mk hk3
  clear hst hk3
  cases bb
  · go_wp2_with fail
    refine hfa.mono ?_
    rintro e w4 ⟨rfl, rfl⟩
    clear hfa HK3
    go_wp2
    go_ret
    exact Or.inr ⟨rfl, hB3.step_set hp0 _, 2, Or.inr (by simp), set_same h0⟩
  · clear hfa h0
    go_wp2
    go_ret
    exact Or.inl ⟨rfl, _, hRS HK3.out⟩

end Go.Proofs.YtpapdkhjdelfcabGreat

namespace Go.Proofs.YtpapdkhjdelfcabGreat
open Go.RowKit

theorem crc_low (y : BitVec 32) : bits .and .u32 (y.toNat : Int) 1 = ((y.toNat % 2 : Nat) : Int) := by
  have hy := y.isLt
  rw [show (1 : Int) = ((1 : Nat) : Int) from rfl, u32_and_nat _ _ (by omega) (by omega), Nat.and_one_is_mod]
theorem cStep_nat (y : BitVec 32) : (cStep y).toNat = y.toNat / 2 ^^^ (3988292384 * (y.toNat % 2)) := by
  have hy := y.isLt
  unfold cStep
  rw [BitVec.toNat_xor, BitVec.toNat_ushiftRight, Nat.shiftRight_eq_div_pow]
  have h0 : y.getLsbD 0 = (y.toNat % 2 == 1) := by
    rw [BitVec.getLsbD, Nat.testBit_zero]
    rcases Nat.mod_two_eq_zero_or_one y.toNat with h | h <;> simp [h]
  rw [h0]
  rcases Nat.mod_two_eq_zero_or_one y.toNat with h | h <;> simp [h]
theorem crc_one {y : BitVec 32} (h : y.toNat % 2 = 1) : bits .xor .u32 ((y.toNat : Int) / 2) 3988292384 = ((cStep y).toNat : Int) := by
  have hy := y.isLt
  have e1 : ((y.toNat : Int) / 2) = ((y.toNat / 2 : Nat) : Int) := by omega
  rw [e1, show (3988292384 : Int) = ((3988292384 : Nat) : Int) from rfl, u32_xor_nat _ _ (by omega) (by omega), cStep_nat, h]
theorem crc_nil {y : BitVec 32} (h : y.toNat % 2 = 0) : ((y.toNat : Int) / 2) = ((cStep y).toNat : Int) := by
  rw [cStep_nat, h]
  simp

set_option maxRecDepth 100000 in
set_option maxHeartbeats 1000000 in
theorem kcrc_is (t : ByteArray) (w : World) (ht : t.size ≤ 1099511627776) :
    Calls Tryz.prog 180 #[.string t] w (RCrc w (crcB t.data.toList)) := by
  have hz : Hid (t.data.toList.length = t.size) := by show _ = _; rw [Array.length_toList]; rfl
  go_enter Tryz.func180, Tryz.ntmps180
  go_wp2
  go_loopg [3, 4] t.size (fun r x d wr => w = wr ∧ ∃ k : Nat, r = t.size - k ∧ k ≤ t.size ∧ x = .int .u32 (((t.data.toList.take k).foldl cByte 0xFFFFFFFF#32).toNat : Int) ∧ d = .int .i64 (k : Int))
  case atStart => exact ⟨rfl, 0, rfl, by omega, rfl, rfl⟩
  case round =>
    obtain ⟨rfl, k, hr, hk, rfl, rfl⟩ := hrel
    by_cases hlt : k < t.size
    · have hft : Hid ((t.data.toList.take (k + 1)).foldl cByte 0xFFFFFFFF#32 = cByte ((t.data.toList.take k).foldl cByte 0xFFFFFFFF#32) (t[k]'hlt)) := fold_take t.data.toList k (by rw [hz.out]; exact hlt) _
      generalize (t.data.toList.take k).foldl cByte 0xFFFFFFFF#32 = c at *
      go_wp2
      go_loopg [3, 5] 8 (fun r x d wr => w = wr ∧ ∃ j : Nat, r = 8 - j ∧ j ≤ 8 ∧ x = .int .u32 ((stepN (c ^^^ BitVec.ofNat 32 (t[k]'hlt).toNat) j).toNat : Int) ∧ d = .int .i64 (j : Int))
      case atStart => exact ⟨rfl, 0, rfl, by omega, by rw [crc_xor]; rfl, rfl⟩
      case round =>
        obtain ⟨rfl, j, hr2, hj, rfl, rfl⟩ := hrel
        by_cases hj8 : j < 8
        · have hst : Hid (stepN (c ^^^ BitVec.ofNat 32 (t[k]'hlt).toNat) (j + 1) = cStep (stepN (c ^^^ BitVec.ofNat 32 (t[k]'hlt).toNat) j)) := rfl
          generalize stepN (c ^^^ BitVec.ofNat 32 (t[k]'hlt).toNat) j = y at *
          rcases Nat.mod_two_eq_zero_or_one y.toNat with h2 | h2
          · have hlow : (bits .and .u32 (y.toNat : Int) 1 == 1) = false := by rw [crc_low, h2]; rfl
            have HS := Hid.mk (crc_nil h2)
            go_wp2
            go_roundg (8 - (j + 1))
            case measure => omega
            case rel => exact ⟨rfl, j + 1, rfl, by omega, by rw [hst.out, ← HS.out], by go_num⟩
          · have hlow : (bits .and .u32 (y.toNat : Int) 1 == 1) = true := by rw [crc_low, h2]; rfl
            have HS := Hid.mk (crc_one h2)
            go_wp2
            go_roundg (8 - (j + 1))
            case measure => omega
            case rel => exact ⟨rfl, j + 1, rfl, by omega, by rw [hst.out, ← HS.out], by go_num⟩
        · obtain rfl : j = 8 := by omega
          rw [← cByte_step, ← hft.out]
          go_wp2
          go_roundg (t.size - (k + 1))
          case measure => omega
          case rel => exact ⟨rfl, k + 1, rfl, by omega, rfl, by go_num⟩
    · have he : Hid (t.data.toList.take k = t.data.toList) := List.take_of_length_le (by rw [hz.out]; omega)
      go_wp2
      go_ret
      refine ⟨?_, rfl⟩
      show Ending.returned (.int .u32 (bits .xor .u32 _ 4294967295)) = _
      have := crc_xor ((t.data.toList.take k).foldl cByte 0xFFFFFFFF#32) 4294967295
      rw [show (((4294967295 : Nat) : Int) % 4294967296) = 4294967295 from rfl] at this
      rw [this, he.out]
      rfl
theorem decF_len4 {l : List UInt8} (h : (decF l).2.2.2 = 0) : 4 < l.length := by
  unfold decF at h
  split at h
  · rename_i hi
    unfold imageP openB at hi
    by_cases hl : l.length ≤ 4
    · rw [if_pos hl] at hi; simp at hi
    · omega
  · simp at h

/-- the other service of Bytes -/
def AnI (w : World) (q2 : Nat) (on : Cfg) (i : Nat) (wr : World) : Prop := ∃ (Bx : List BK) (gx : Nat), SvcAt (.slice none 0 0) [q2] q2 on Bx (gx : Int) wr ∧ Good Bx ∧ Bel w wr ∧ gx ≤ i
def RAny (w : World) (e : Ending) (w' : World) : Prop := ∃ b, e = .returned (.bool b) ∧ Bel w w'

end Go.Proofs.YtpapdkhjdelfcabGreat

namespace Go.Proofs.YtpapdkhjdelfcabGreat
open Go.RowKit

set_option maxRecDepth 100000 in
set_option maxHeartbeats 2000000 in
theorem kanother_is {W0 : World} {p s : Nat} {k : KI} {w : World} (h : KInv W0 p s k w) (P old : ByteArray) (hP : P.size ≤ 1099511627776) (hO : old.size ≤ 1099511627776) :
    Calls Tryz.prog 134 #[.pointer (some ⟨p, 0, none⟩), .string P, .string old] w (RAny w) := by
  have hdc := fun wx => decode_is old wx hO
  have honOK := h.onok
  have hnw := fun wx => new_is k.on wx honOK
  have c8 := h.at_.1 8 _ rfl
  have c9 := h.at_.1 9 _ rfl
  have c10 := h.at_.1 10 _ rfl
  have c11 := h.at_.1 11 _ rfl
  have c12 := h.at_.1 12 _ rfl
  have c13 := h.at_.1 13 _ rfl
  have hD4 : (decF old.data.toList).2.2.2 = 0 → 4 < old.size := fun e => by have := decF_len4 e; rwa [Array.length_toList] at this
  have hcr := fun (t : ByteArray) wx (ht : t.size ≤ 1099511627776) => kcrc_is t wx ht
  have hap := fun (z : ByteArray) wx (hz : z.size ≤ 1099511627776) => sapply_is P z wx hP hz
  clear h
  generalize decF old.data.toList = D at *
  obtain ⟨D1, D2, G, DE⟩ := D
  obtain ⟨M0, q0, c0, on, B, g0, vb0, vw0, vs0, vh0, vf0, img0, part0, L0, pp0, vr0, sp0, hd0, fr0, fb0, ds0, dh0⟩ := k
  simp only [Cfg.cells] at *
  have HON := Hid.mk honOK
  clear honOK
  go_enter Tryz.func134, Tryz.ntmps134
  go_wp2_with fail
  refine (hdc _).mono ?_
  rintro e w1 ⟨rfl, hb1⟩
  have e8 := hb1.cell c8
  have e9 := hb1.cell c9
  have e10 := hb1.cell c10
  have e11 := hb1.cell c11
  have e12 := hb1.cell c12
  have e13 := hb1.cell c13
  clear hdc c8 c9 c10 c11 c12 c13
  go_wp2_with fail
  refine (hnw _).mono ?_
  rintro e w2 ⟨q2, rfl, hb2, hq2a, hq2b, hS2⟩
  have hS2 := hS2 [q2] (by simp)
  have hb02 := hb1.trans hb2
  clear hnw e8 e9 e10 e11 e12 e13
  by_cases hDE : DE = 0
  rotate_left
  · have hne : (DE != 0) = true := by rw [bne_iff_ne]; exact hDE
    go_wp2
    go_ret
    exact ⟨_, rfl, hb02⟩
  subst hDE
  have hO4 := hD4 rfl
  clear hD4
  by_cases hG : 40 < G
  · have hgt : decide ((G : Int) > 40) = true := decide_eq_true (by omega)
    have HB := Hid.mk hb02
    clear hb1 hb2
    go_wp2
    go_ret
    exact ⟨_, rfl, HB.out⟩
  have hgt : decide ((G : Int) > 40) = false := decide_eq_false (by omega)
  have H0 : Hid (AnI w q2 on 0 w2) := ⟨[], 0, hS2, Good.nil, hb02, Nat.le_refl _⟩
  have hqw : w.heap.size ≤ q2 := Nat.le_trans hb1.size hq2a
  clear hS2 hb1 hb2 hq2a
  go_wp2
  go_loopg [12, 13] G (fun r vf nk wr => ∃ j : Nat, nk = .int .i64 (j : Int) ∧ vf = .int .i64 0 ∧ j ≤ G ∧ r = G - j ∧ AnI w q2 on j wr)
  case atStart => exact ⟨0, rfl, rfl, by omega, rfl, H0.out⟩
  case round =>
    obtain ⟨j, rfl, rfl, hj, rfl, Bx, gx, hS, hGd, hbr, hgx⟩ := hrel
    have hlt := hS.lt
    by_cases hjG : j < G
    · have hjb : decide ((j : Int) < (G : Int)) = true := decide_eq_true (by omega)
      by_cases hj0 : j = 0
      · subst hj0
        have had := add_is [q2] q2 on Bx gx ⟨#[126, 126]⟩ 1 wr hS (by simpa using hlt) HON.out hGd (by omega) (by omega)
        have hGd2 := hGd.add ⟨#[126, 126]⟩ 1
        generalize addB Bx ⟨#[126, 126]⟩ 1 = By at *
        generalize addE Bx ⟨#[126, 126]⟩ 1 = Ey at *
        clear hS
        go_wp2_with fail
        refine had.mono ?_
        rintro e w3 ⟨rfl, hbt, hS3⟩
        have hbw : Bel w w3 := But.belTo hbr hbt (by intro k hk; simp at hk; subst hk; exact hqw)
        clear had
        by_cases hE0 : Ey = 0
        · subst hE0
          have HN : Hid (AnI w q2 on 1 w3) := ⟨By, gx + 1, by simpa using hS3, hGd2, hbw, by omega⟩
          clear hS3
          go_wp2
          go_roundg (G - 1)
          case measure => omega
          case rel => exact ⟨1, rfl, rfl, by omega, rfl, HN.out⟩
        · have hEn : (Ey != 0) = true := by rw [bne_iff_ne]; exact hE0
          clear hS3
          go_wp2
          go_ret
          exact ⟨_, rfl, hbw⟩
      · have hjz : ((j : Int) == 0) = false := by rw [beq_eq_false_iff_ne]; omega
        have had := fun x => set_is [q2] q2 on Bx gx ⟨#[126, 126]⟩ x wr hS (by simpa using hlt) HON.out hGd (by omega) (by omega)
        have hGd2 := fun x => hGd.set ⟨#[126, 126]⟩ x
        clear hS
        go_wp2_with fail
        refine (had _).mono ?_
        rintro e w3 ⟨rfl, hbt, hS3⟩
        have hbw : Bel w w3 := But.belTo hbr hbt (by intro k hk; simp at hk; subst hk; exact hqw)
        obtain ⟨By, hGd3, Ey, hEy, hS3⟩ : ∃ By, Good By ∧ ∃ Ey : Int, Ey = _ ∧ SvcAt (.slice none 0 0) [q2] q2 on By (if Ey = 0 then (gx : Int) + 1 else gx) w3 := ⟨_, hGd2 _, _, rfl, hS3⟩
        rw [← hEy]
        clear had hGd2 hEy
        by_cases hE0 : Ey = 0
        · subst hE0
          have HN : Hid (AnI w q2 on (j + 1) w3) := ⟨By, gx + 1, by simpa using hS3, hGd3, hbw, by omega⟩
          clear hS3
          go_wp2
          go_roundg (G - (j + 1))
          case measure => omega
          case rel => exact ⟨j + 1, by go_num, rfl, by omega, rfl, HN.out⟩
        · have hEn : (Ey != 0) = true := by rw [bne_iff_ne]; exact hE0
          clear hS3
          go_wp2
          go_ret
          exact ⟨_, rfl, hbw⟩
    · obtain rfl : j = G := by omega
      have him := image_v [q2] q2 on Bx gx 1 wr hS.svp (mkF_len _ _ HON.out hGd.1) HON.out hGd.1 (by omega)
      have hzl : (simgF 1 gx on Bx (mkF on Bx)).1.length ≤ 16777216 := simgF_len ((Cfg.ok_iff on).1 HON.out).1 hGd.1 (mkF_len _ _ HON.out hGd.1)
      generalize simgF 1 gx on Bx (mkF on Bx) = Z at *
      obtain ⟨Z1, ZE⟩ := Z
      have hZs : (txt Z1).size ≤ 16777216 := by rw [txt_size]; exact hzl
      clear hS
      go_wp2_with fail
      refine him.mono ?_
      rintro e w3 ⟨rfl, hb3⟩
      have hbw : Bel w w3 := hbr.trans hb3
      clear him hb3
      generalize txt Z1 = z at *
      by_cases hZE : ZE = 0
      rotate_left
      · have hne : (ZE != 0) = true := by rw [bne_iff_ne]; exact hZE
        go_wp2
        go_ret
        exact ⟨_, rfl, hbw⟩
      subst hZE
      by_cases hz5 : z.size < 5
      · have hzb : decide ((z.size : Int) < 5) = true := decide_eq_true (by omega)
        go_wp2
        go_ret
        exact ⟨_, rfl, hbw⟩
      have hzb : decide ((z.size : Int) < 5) = false := decide_eq_false (by omega)
      go_wp2_with fail
      refine (hcr _ _ (by simp; omega)).mono ?_
      rintro e w4 ⟨rfl, rfl⟩
      go_wp2_with fail
      refine (hcr _ _ (by simp; omega)).mono ?_
      rintro e w4 ⟨rfl, rfl⟩
      go_wp2_with fail
      refine (hap _ _ (by omega)).mono ?_
      rintro e w4 ⟨rfl, hb4⟩
      have hbx : Bel w w4 := hbw.trans hb4
      clear hap hcr
      go_wp2
      all_goals go_ret
      all_goals exact ⟨_, rfl, hbx⟩

end Go.Proofs.YtpapdkhjdelfcabGreat

namespace Go.Proofs.YtpapdkhjdelfcabGreat
open Go.RowKit

def RWrit (W0 : World) (p s : Nat) (k : KI) (e : Ending) (w' : World) : Prop := ∃ b img', e = .returned (.bool b) ∧ KInv W0 p s { k with img := img' } w'
theorem KInv.bel_img {W0 : World} {p s : Nat} {k : KI} {w w' : World} (h : KInv W0 p s k w) (b : Bel w w') : KInv W0 p s { k with img := k.img } w' := h.later b

set_option maxRecDepth 100000 in
set_option maxHeartbeats 4000000 in
theorem kwritten_is {W0 : World} {p s : Nat} {k : KI} {w : World} (h : KInv W0 p s k w) (hs : s ≤ 65600) (a b : Int) (ha : I64 a) (hb : I64 b) :
    Calls Tryz.prog 74 #[.pointer (some ⟨p, 0, none⟩), .int .i64 a, .int .i64 b] w (RWrit W0 p s k) := by
  have c7 := h.at_.1 7 _ rfl
  have c19 := h.at_.1 19 _ rfl
  have f19 := h.at_.2 19 (by rw [wl_len]; decide)
  have hgn := fun wx (b' : Bel w wx) => kgen_is (h.later b')
  have him := fun f wx (b' : Bel w wx) => kimage_is (h.later b') hs f
  have hS1 : (simgF 1 k.g.toNat k.on k.B (mkF k.on k.B)).1.length ≤ 16777216 := simgF_len ((Cfg.ok_iff k.on).1 h.onok).1 h.good.1 (mkF_len _ _ h.onok h.good.1)
  have hS2 : (simgF 2 k.g.toNat k.on k.B (mkF k.on k.B)).1.length ≤ 16777216 := simgF_len ((Cfg.ok_iff k.on).1 h.onok).1 h.good.1 (mkF_len _ _ h.onok h.good.1)
  have him1 := him 1
  have him2 := him 2
  have hisz := h.isz
  have hplt := h.at_.lt (by rw [wl_len]; decide)
  have HI := Hid.mk h
  clear him h
  generalize simgF 1 k.g.toNat k.on k.B (mkF k.on k.B) = I1 at *
  generalize simgF 2 k.g.toNat k.on k.B (mkF k.on k.B) = I2 at *
  obtain ⟨I1, E1⟩ := I1
  obtain ⟨I2, E2⟩ := I2
  have hz1 : (txt I1).size ≤ 16777216 := by rw [txt_size]; exact hS1
  have hz2 : (txt I2).size ≤ 16777216 := by rw [txt_size]; exact hS2
  unfold RTxE at him1 him2
  dsimp only at him1 him2
  generalize txt I1 = t1 at *
  generalize txt I2 = t2 at *
  clear hS1 hS2
  have hdc := fun (x : ByteArray) wx (hx : x.size ≤ 16777216) => decode_is x wx (by omega)
  have hpk2 := fun wx => pick_is b 255 wx hb (by omega) (by omega)
  have hpr2 := pickF_range b 255 (by omega)
  generalize pickF b 255 = yv at *
  have hcv := fun (x : ByteArray) wx => run_bytes_of_string (P := Tryz.prog) wx 9 105 5 x rfl Tryz.underlying105 rfl
  go_enter Tryz.func74, Tryz.ntmps74
  go_wp2_with fail
  refine (him1 _ (by (repeat (first | exact Bel.refl _ | assumption | refine Bel.step_alloc ?_ _ | refine Bel.step_drew ?_ | refine Bel.step_drewN ?_ _ | refine Bel.step_set ?_ (by simp <;> omega) _ | refine Bel.trans ?_ (by assumption))))).mono ?_
  rintro e w1 ⟨rfl, hb1⟩
  have d7 := hb1.cell c7
  clear him1
  go_wp2_with fail
  refine (him2 _ (by (repeat (first | exact Bel.refl _ | assumption | refine Bel.step_alloc ?_ _ | refine Bel.step_drew ?_ | refine Bel.step_drewN ?_ _ | refine Bel.step_set ?_ (by simp <;> omega) _ | refine Bel.trans ?_ (by assumption))))).mono ?_
  rintro e w2 ⟨rfl, hb2⟩
  have hbw2 : Bel w w2 := hb1.trans hb2
  have e7 := hbw2.cell c7
  clear him2 d7 hb1 hb2
  have hg2 := hgn w2 hbw2
  go_wp2_with fail
  refine hg2.mono ?_
  rintro e w3 ⟨rfl, rfl⟩
  clear hg2
  by_cases hg0 : k.g = 0
  · have hgb : (k.g == 0) = true := by rw [beq_iff_eq]; exact hg0
    go_wp2
    all_goals go_ret
    all_goals exact ⟨_, k.img, rfl, HI.out.bel_img hbw2⟩
  have hgb : (k.g == 0) = false := by rw [beq_eq_false_iff_ne]; exact hg0
  by_cases h15 : t1.size < 5
  · have hb5 : decide ((t1.size : Int) < 5) = true := decide_eq_true (by omega)
    go_wp2
    all_goals go_ret
    all_goals exact ⟨_, k.img, rfl, HI.out.bel_img hbw2⟩
  have hb15 : decide ((t1.size : Int) < 5) = false := decide_eq_false (by omega)
  by_cases h25 : t2.size < 5
  · have hb5 : decide ((t2.size : Int) < 5) = true := decide_eq_true (by omega)
    go_wp2
    all_goals go_ret
    all_goals exact ⟨_, k.img, rfl, HI.out.bel_img hbw2⟩
  have hb25 : decide ((t2.size : Int) < 5) = false := decide_eq_false (by omega)
  obtain ⟨m1, hm1⟩ := Int.eq_ofNat_of_zero_le (pickF_range a (t1.size : Int) (by omega)).1
  obtain ⟨m2, hm2⟩ := Int.eq_ofNat_of_zero_le (pickF_range a (t2.size : Int) (by omega)).1
  have hpkm1 := fun wx => pick_is a (t1.size : Int) wx ha (by omega) (by omega)
  have hpkm2 := fun wx => pick_is a (t2.size : Int) wx ha (by omega) (by omega)
  have hmm1 : m1 < t1.size := by have := (pickF_range a (t1.size : Int) (by omega)).2; omega
  have hmm2 : m2 < t2.size := by have := (pickF_range a (t2.size : Int) (by omega)).2; omega
  rw [hm1] at hpkm1
  rw [hm2] at hpkm2
  clear hm1 hm2
  obtain ⟨hy1, hy2⟩ := hpr2
  go_wp2
  go_loopg [11] 2 (fun r nk wr => ∃ j : Nat, nk = .int .i64 (j : Int) ∧ j ≤ 2 ∧ r = 2 - j ∧ Bel w wr)
  case atStart => exact ⟨0, rfl, by omega, rfl, hbw2⟩
  case round =>
    obtain ⟨j, rfl, hj, rfl, hbr⟩ := hrel
    have x7 := hbr.cell c7
    by_cases hj2 : j < 2
    · have hjb : decide ((j : Int) < 2) = true := decide_eq_true (by omega)
      by_cases hj1 : j = 1
      · have hj1b : ((j : Int) == 1) = true := by rw [beq_iff_eq]; omega
        go_wp2_with fail
        refine (hdc _ _ hz2).mono ?_
        rintro e w4 ⟨rfl, hb4⟩
        have hbw4 : Bel w w4 := hbr.trans hb4
        have y7 := hbw4.cell c7
        clear hb4
        generalize decF t2.data.toList = D
        obtain ⟨D1, D2, DG, DE⟩ := D
        obtain ⟨g1, hg1⟩ : ∃ g : Bool, ((txt D1).toList == t1.toList) = g := ⟨_, rfl⟩
        obtain ⟨g2, hg2⟩ : ∃ g : Bool, ((txt D2).toList == t2.toList) = g := ⟨_, rfl⟩
        have hgn4 := hgn w4 hbw4
        dsimp only
        by_cases hDE : DE = 0
        rotate_left
        · have hne : (DE != 0) = true := by rw [bne_iff_ne]; exact hDE
          go_wp2
          go_ret
          exact ⟨_, k.img, rfl, HI.out.bel_img hbw4⟩
        have hne : (DE != 0) = false := by rw [bne_eq_false_iff_eq]; exact hDE
        cases g1
        · go_wp2
          go_ret
          exact ⟨_, k.img, rfl, HI.out.bel_img hbw4⟩
        cases g2
        · go_wp2
          go_ret
          exact ⟨_, k.img, rfl, HI.out.bel_img hbw4⟩
        go_wp2_with fail
        refine hgn4.mono ?_
        rintro e w5 ⟨rfl, rfl⟩
        clear hgn4
        by_cases hDG : (DG : Int) = k.g
        rotate_left
        · have hne2 : ((DG : Int) != k.g) = true := by rw [bne_iff_ne]; exact hDG
          go_wp2
          go_ret
          exact ⟨_, k.img, rfl, HI.out.bel_img hbw4⟩
        have hne2 : ((DG : Int) != k.g) = false := by rw [bne_eq_false_iff_eq]; exact hDG
        have hcv4 := hcv t2 w4
        have hTl : t2.data.toList.length = t2.size := by rw [Array.length_toList]; rfl
        go_wp2_with fail
        generalize grownCap w4 t2.size 0 5 = c0
        have hB0 := BRow.new w4 t2 5 c0
        generalize hwA : (World.alloc w4 (Obj.cells (bytesRow t2 c0) 5 ((bytesRow t2 c0).size, (bytesRow t2 c0).size + 1))).drew = wA
        have hBA : BRow w4.heap.size t2.data.toList wA := by rw [← hwA]; exact hB0.later (by (repeat (first | exact Bel.refl _ | assumption | refine Bel.step_alloc ?_ _ | refine Bel.step_drew ?_ | refine Bel.step_drewN ?_ _ | refine Bel.step_set ?_ (by simp <;> omega) _ | refine Bel.trans ?_ (by assumption))))
        have hbA : Bel w wA := by rw [← hwA]; (repeat (first | exact Bel.refl _ | assumption | refine Bel.step_alloc ?_ _ | refine Bel.step_drew ?_ | refine Bel.step_drewN ?_ _ | refine Bel.step_set ?_ (by simp <;> omega) _ | refine Bel.trans ?_ (by assumption)))
        have hw4 : w.heap.size ≤ w4.heap.size := hbw4.size
        clear hwA hB0 hcv4
        generalize w4.heap.size = gA at *
        refine (hpkm2 _).mono ?_
        rintro e w6 ⟨rfl, rfl⟩
        go_wp2_with fail
        refine (hpk2 _).mono ?_
        rintro e w6 ⟨rfl, rfl⟩
        have hmL : m2 < t2.data.toList.length := by rw [hTl]; exact hmm2
        have cB := hBA.1 _ hmL
        have fB := hBA.2 _ hmL
        generalize hbv : t2.data.toList[m2] = bv at *
        have hcv2 := fun V : Int => run_convert_bytes_back (P := Tryz.prog) (wA.setCell ⟨gA, m2, none⟩ (.int .u8 (bits .xor .u8 (bv.toNat : Int) V))) 105 9 5 ⟨gA, 0, none⟩ c0 (t2.data.toList.set m2 (Classical.choose (u8_xor_any (bv.toNat : Int) V))) Tryz.underlying105 rfl rfl (fun i hi => by
          have := (hBA.set m2 _ _ (Classical.choose_spec (u8_xor_any (bv.toNat : Int) V))).1 i hi
          rwa [addr_add])
        have hLs : ∀ y, (t2.data.toList.set m2 y).length = t2.size := fun y => by rw [List.length_set]; exact hTl
        simp only [hLs] at hcv2
        have hTs : ∀ y, (⟨(t2.data.toList.set m2 y).toArray⟩ : ByteArray).size ≤ 16777216 := fun y => by
          show (t2.data.toList.set m2 y).toArray.size ≤ _
          rw [List.size_toArray, hLs]; exact hz2
        have hbB : ∀ V : Int, Bel w (wA.setCell ⟨gA, m2, none⟩ (.int .u8 (bits .xor .u8 (bv.toNat : Int) V))) := fun V => Bel.step_set hbA hw4 _
        clear hBA hbv hTl hmL
        go_wp2_with fail
        refine (hdc _ _ (hTs _)).mono ?_
        rintro e w7 ⟨rfl, hb7⟩
        have hbw7 : Bel w w7 := Bel.trans (hbB _) hb7
        generalize decF _ = D'
        obtain ⟨D1', D2', DG', DE'⟩ := D'
        dsimp only
        clear hb7 hbB hcv2 hTs hLs cB fB
        by_cases hDE' : DE' = 9
        · have hn9 : (DE' != 9) = false := by rw [bne_eq_false_iff_eq]; exact hDE'
          go_wp2
          go_roundg (2 - (j + 1))
          case measure => omega
          case rel => exact ⟨j + 1, by go_num, by omega, rfl, hbw7⟩
        · have hn9 : (DE' != 9) = true := by rw [bne_iff_ne]; exact hDE'
          go_wp2
          go_ret
          exact ⟨_, k.img, rfl, HI.out.bel_img hbw7⟩
      · have hj1b : ((j : Int) == 1) = false := by rw [beq_eq_false_iff_ne]; omega
        go_wp2_with fail
        refine (hdc _ _ hz1).mono ?_
        rintro e w4 ⟨rfl, hb4⟩
        have hbw4 : Bel w w4 := hbr.trans hb4
        have y7 := hbw4.cell c7
        clear hb4
        generalize decF t1.data.toList = D
        obtain ⟨D1, D2, DG, DE⟩ := D
        obtain ⟨g1, hg1⟩ : ∃ g : Bool, ((txt D1).toList == t1.toList) = g := ⟨_, rfl⟩
        obtain ⟨g2, hg2⟩ : ∃ g : Bool, ((txt D2).toList == t2.toList) = g := ⟨_, rfl⟩
        have hgn4 := hgn w4 hbw4
        dsimp only
        by_cases hDE : DE = 0
        rotate_left
        · have hne : (DE != 0) = true := by rw [bne_iff_ne]; exact hDE
          go_wp2
          go_ret
          exact ⟨_, k.img, rfl, HI.out.bel_img hbw4⟩
        have hne : (DE != 0) = false := by rw [bne_eq_false_iff_eq]; exact hDE
        cases g1
        · go_wp2
          go_ret
          exact ⟨_, k.img, rfl, HI.out.bel_img hbw4⟩
        cases g2
        · go_wp2
          go_ret
          exact ⟨_, k.img, rfl, HI.out.bel_img hbw4⟩
        go_wp2_with fail
        refine hgn4.mono ?_
        rintro e w5 ⟨rfl, rfl⟩
        clear hgn4
        by_cases hDG : (DG : Int) = k.g
        rotate_left
        · have hne2 : ((DG : Int) != k.g) = true := by rw [bne_iff_ne]; exact hDG
          go_wp2
          go_ret
          exact ⟨_, k.img, rfl, HI.out.bel_img hbw4⟩
        have hne2 : ((DG : Int) != k.g) = false := by rw [bne_eq_false_iff_eq]; exact hDG
        have hcv4 := hcv t1 w4
        have hTl : t1.data.toList.length = t1.size := by rw [Array.length_toList]; rfl
        go_wp2_with fail
        generalize grownCap w4 t1.size 0 5 = c0
        have hB0 := BRow.new w4 t1 5 c0
        generalize hwA : (World.alloc w4 (Obj.cells (bytesRow t1 c0) 5 ((bytesRow t1 c0).size, (bytesRow t1 c0).size + 1))).drew = wA
        have hBA : BRow w4.heap.size t1.data.toList wA := by rw [← hwA]; exact hB0.later (by (repeat (first | exact Bel.refl _ | assumption | refine Bel.step_alloc ?_ _ | refine Bel.step_drew ?_ | refine Bel.step_drewN ?_ _ | refine Bel.step_set ?_ (by simp <;> omega) _ | refine Bel.trans ?_ (by assumption))))
        have hbA : Bel w wA := by rw [← hwA]; (repeat (first | exact Bel.refl _ | assumption | refine Bel.step_alloc ?_ _ | refine Bel.step_drew ?_ | refine Bel.step_drewN ?_ _ | refine Bel.step_set ?_ (by simp <;> omega) _ | refine Bel.trans ?_ (by assumption)))
        have hw4 : w.heap.size ≤ w4.heap.size := hbw4.size
        clear hwA hB0 hcv4
        generalize w4.heap.size = gA at *
        refine (hpkm1 _).mono ?_
        rintro e w6 ⟨rfl, rfl⟩
        go_wp2_with fail
        refine (hpk2 _).mono ?_
        rintro e w6 ⟨rfl, rfl⟩
        have hmL : m1 < t1.data.toList.length := by rw [hTl]; exact hmm1
        have cB := hBA.1 _ hmL
        have fB := hBA.2 _ hmL
        generalize hbv : t1.data.toList[m1] = bv at *
        have hcv2 := fun V : Int => run_convert_bytes_back (P := Tryz.prog) (wA.setCell ⟨gA, m1, none⟩ (.int .u8 (bits .xor .u8 (bv.toNat : Int) V))) 105 9 5 ⟨gA, 0, none⟩ c0 (t1.data.toList.set m1 (Classical.choose (u8_xor_any (bv.toNat : Int) V))) Tryz.underlying105 rfl rfl (fun i hi => by
          have := (hBA.set m1 _ _ (Classical.choose_spec (u8_xor_any (bv.toNat : Int) V))).1 i hi
          rwa [addr_add])
        have hLs : ∀ y, (t1.data.toList.set m1 y).length = t1.size := fun y => by rw [List.length_set]; exact hTl
        simp only [hLs] at hcv2
        have hTs : ∀ y, (⟨(t1.data.toList.set m1 y).toArray⟩ : ByteArray).size ≤ 16777216 := fun y => by
          show (t1.data.toList.set m1 y).toArray.size ≤ _
          rw [List.size_toArray, hLs]; exact hz1
        have hbB : ∀ V : Int, Bel w (wA.setCell ⟨gA, m1, none⟩ (.int .u8 (bits .xor .u8 (bv.toNat : Int) V))) := fun V => Bel.step_set hbA hw4 _
        clear hBA hbv hTl hmL
        go_wp2_with fail
        refine (hdc _ _ (hTs _)).mono ?_
        rintro e w7 ⟨rfl, hb7⟩
        have hbw7 : Bel w w7 := Bel.trans (hbB _) hb7
        generalize decF _ = D'
        obtain ⟨D1', D2', DG', DE'⟩ := D'
        dsimp only
        clear hb7 hbB hcv2 hTs hLs cB fB
        by_cases hDE' : DE' = 9
        · have hn9 : (DE' != 9) = false := by rw [bne_eq_false_iff_eq]; exact hDE'
          go_wp2
          go_roundg (2 - (j + 1))
          case measure => omega
          case rel => exact ⟨j + 1, by go_num, by omega, rfl, hbw7⟩
        · have hn9 : (DE' != 9) = true := by rw [bne_iff_ne]; exact hDE'
          go_wp2
          go_ret
          exact ⟨_, k.img, rfl, HI.out.bel_img hbw7⟩
    · have hjb : decide ((j : Int) < 2) = false := decide_eq_false (by omega)
      have x19 := hbr.cell c19
      have y19 := hbr.frozen c19 f19
      have hKr := HI.out.later hbr
      have hk2 := hKr.setW (c' := k.c) (part' := k.part) (img' := t1) ((But.refl [p] wr).set (by simp) (.string t1)) (hKr.at_.set 19 _) hKr.cok (by omega)
      have hpa := fun wx => spatch_is k.img t2 wx (by omega) (by omega)
      have hpl := patchF_len k.img.data.toList t2.data.toList
      generalize patchF k.img.data.toList t2.data.toList = P at *
      obtain ⟨P1, PE⟩ := P
      have hPs : (txt P1).size ≤ 16777216 := by rw [txt_size]; exact hpl
      have hap1 := fun wx => sapply_is (txt P1) k.img wx (by omega) (by omega)
      have hap2 := fun wx => sapply_is (txt P1) t1 wx (by omega) (by omega)
      generalize applyF (txt P1).data.toList k.img.data.toList = A1 at *
      generalize applyF (txt P1).data.toList t1.data.toList = A2 at *
      obtain ⟨A1, AE1⟩ := A1
      obtain ⟨A2, AE2⟩ := A2
      unfold RTxE at hpa hap1 hap2
      dsimp only at hpa hap1 hap2
      have han := fun wx (b' : Bel (wr.setCell ⟨p, 19, none⟩ (.string t1)) wx) => kanother_is (hk2.later b') (txt P1) k.img (by omega) hisz
      obtain ⟨g0, hg0⟩ : ∃ g : Bool, k.img.toList.isEmpty = g := ⟨_, rfl⟩
      obtain ⟨g1, hg1⟩ : ∃ g : Bool, ((txt A1).toList == t1.toList) = g := ⟨_, rfl⟩
      obtain ⟨g2, hg2⟩ : ∃ g : Bool, (k.img.toList == t1.toList) = g := ⟨_, rfl⟩
      have HK2 := Hid.mk hk2
      clear hk2 hKr hpl
      generalize txt P1 = tp at *
      cases g0
      rotate_left
      · go_wp2
        go_ret
        exact ⟨_, t1, rfl, HK2.out⟩
      go_wp2_with fail
      refine (hpa _).mono ?_
      rintro e w4 ⟨rfl, hb4⟩
      by_cases hPE : PE = 0
      rotate_left
      · have hne : (PE != 0) = true := by rw [bne_iff_ne]; exact hPE
        go_wp2
        go_ret
        exact ⟨_, t1, rfl, HK2.out.later hb4⟩
      have hne : (PE != 0) = false := by rw [bne_eq_false_iff_eq]; exact hPE
      go_wp2_with fail
      refine (hap1 _).mono ?_
      rintro e w5 ⟨rfl, hb5⟩
      have hb45 := hb4.trans hb5
      by_cases hA1 : AE1 = 0
      rotate_left
      · have hne1 : (AE1 != 0) = true := by rw [bne_iff_ne]; exact hA1
        go_wp2
        go_ret
        exact ⟨_, t1, rfl, HK2.out.later hb45⟩
      have hne1 : (AE1 != 0) = false := by rw [bne_eq_false_iff_eq]; exact hA1
      cases g1
      · go_wp2
        go_ret
        exact ⟨_, t1, rfl, HK2.out.later hb45⟩
      go_wp2_with fail
      refine (hap2 _).mono ?_
      rintro e w6 ⟨rfl, hb6⟩
      have hb46 := hb45.trans hb6
      have han6 := han w6 hb46
      clear han hpa hap1 hap2
      by_cases hA2 : AE2 = 10
      · have hne2 : (AE2 != 10) = false := by rw [bne_eq_false_iff_eq]; exact hA2
        go_wp2_with fail
        refine han6.mono ?_
        rintro e w7 ⟨bb, rfl, hb7⟩
        have HB7 := Hid.mk (hb46.trans hb7)
        clear han6
        go_wp2
        go_ret
        exact ⟨_, t1, rfl, HK2.out.later HB7.out⟩
      · have hne2 : (AE2 != 10) = true := by rw [bne_iff_ne]; exact hA2
        cases g2
        · go_wp2
          go_ret
          exact ⟨_, t1, rfl, HK2.out.later hb46⟩
        · go_wp2_with fail
          refine han6.mono ?_
          rintro e w7 ⟨bb, rfl, hb7⟩
          have HB7 := Hid.mk (hb46.trans hb7)
          clear han6
          go_wp2
          go_ret
          exact ⟨_, t1, rfl, HK2.out.later HB7.out⟩

end Go.Proofs.YtpapdkhjdelfcabGreat
