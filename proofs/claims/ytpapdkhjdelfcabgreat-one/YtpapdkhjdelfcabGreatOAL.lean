import Derived.Test.YtpapdkhjdelfcabGreatOAJ
import Derived.Test.YtpapdkhjdelfcabGreatOAI
import Derived.Test.YtpapdkhjdelfcabGreatOAK
namespace Go.Proofs.YtpapdkhjdelfcabGreat
open Go.RowKit

theorem most_is (a b : Int) (w : World) : Calls Tryz.prog 137 #[.int .i64 a, .int .i64 b] w fun e w' => e = .returned (.int .i64 (if b < a then a else b)) ∧ w = w' := by
  by_cases h : b < a
  · have h1 : decide (a > b) = true := decide_eq_true h
    go_enter Tryz.func137, Tryz.ntmps137
    go_wp2
    go_ret
    exact ⟨rfl, rfl⟩
  · have h1 : decide (a > b) = false := decide_eq_false h
    go_enter Tryz.func137, Tryz.ntmps137
    go_wp2
    go_ret
    exact ⟨rfl, rfl⟩
theorem wrap64_range (x : Int) : I64 (wrap64 x) := by unfold I64 wrap64; omega
theorem kimage_is {W0 : World} {p s : Nat} {k : KI} {w : World} (h : KInv W0 p s k w) (hs : s ≤ 65600) (f : Int) :
    Calls Tryz.prog 99 #[.pointer (some ⟨k.q, 0, none⟩), .int .i64 f] w (RTxE w (simgF f k.g.toNat k.on k.B (mkF k.on k.B))) :=
  image_v k.M k.q k.on k.B k.g.toNat f w h.svcN (mkF_len _ _ h.onok h.good.1) h.onok h.good.1 (by have := h.gen; omega)
theorem kgen_is {W0 : World} {p s : Nat} {k : KI} {w : World} (h : KInv W0 p s k w) :
    Calls Tryz.prog 101 #[.pointer (some ⟨k.q, 0, none⟩)] w fun e w' => e = .returned (.int .i64 k.g) ∧ w = w' := gen_v k.M k.q k.on k.B k.g w h.svc
/-- the rounds, and the old frames in between -/
noncomputable def latP (x : KP) (n : Nat) (b : Int) (N : Nat) : Nat → KP
  | 0 => x
  | j + 1 => if 0 < pickF b 3 ∧ j + 1 < N then oldP (roundP (latP x n b N j) n 0) n (wrap64 (b + 7 * (j : Int))) else roundP (latP x n b N j) n 0
def latN (a c : Nat) (e : Int) : Nat := 3 + if e = 0 then (max a c + 47) / 48 else 0
def RLat (W0 : World) (p s : Nat) (k : KI) (e : Ending) (w' : World) : Prop := ∃ ok k', e = .returned (.bool ok) ∧ KInv W0 p s k' w' ∧ KTo k k' 1500000 ∧ True

set_option maxRecDepth 100000 in
set_option maxHeartbeats 2000000 in
theorem klatest_is {W0 : World} {p s : Nat} {k : KI} {w : World} {n : Nat} (h : KInv W0 p s k w) (hs : s ≤ 65600) (hds : k.ds = 0) (hn : n < k.pp.length) (hfb : k.fb ≤ 800000000000) (b : Int) (hb : I64 b) :
    Calls Tryz.prog 79 #[.pointer (some ⟨p, 0, none⟩), .int .i64 (n : Int), .int .i64 b] w (RLat W0 p s k) := by
  have hnl : n < k.sp.length := by have := h.slen; omega
  obtain ⟨gs, cs, hvs, -, -⟩ := World.ownsRow.form h.speaks (by omega : 0 < k.sp.length)
  have hrow := h.speaks
  rw [hvs] at hrow
  have cs0 : w.cell? ⟨gs, n, none⟩ = some (.int .i64 k.sp[n]) := by
    have hc := World.ownsRow.cellAt hrow n (by simpa using hnl)
    rw [hc]; simp [hnl]
  have c7 := h.at_.1 7 _ rfl
  have c13 := h.at_.1 13 _ rfl
  have c16 : w.cell? ⟨p, 16, none⟩ = some (.slice (some ⟨gs, 0, none⟩) k.sp.length cs) := by rw [← hvs]; exact h.at_.1 16 _ rfl
  have hpk := fun wx => pick_is b 3 wx hb (by omega) (by omega)
  have hhd := fun wx (b' : Bel w wx) => held_v (h.later b').svc hn
  have him := fun f wx (b' : Bel w wx) => kimage_is (h.later b') hs f
  have hS1 : (simgF 1 k.g.toNat k.on k.B (mkF k.on k.B)).1.length ≤ 16777216 := simgF_len ((Cfg.ok_iff k.on).1 h.onok).1 h.good.1 (mkF_len _ _ h.onok h.good.1)
  have hS2 : (simgF 2 k.g.toNat k.on k.B (mkF k.on k.B)).1.length ≤ 16777216 := simgF_len ((Cfg.ok_iff k.on).1 h.onok).1 h.good.1 (mkF_len _ _ h.onok h.good.1)
  have him1 := him 1
  have him2 := him 2
  have HI := Hid.mk h
  clear him h hrow
  generalize simgF 1 k.g.toNat k.on k.B (mkF k.on k.B) = I1 at *
  generalize simgF 2 k.g.toNat k.on k.B (mkF k.on k.B) = I2 at *
  obtain ⟨I1, E1⟩ := I1
  obtain ⟨I2, E2⟩ := I2
  have hz1 : (txt I1).size ≤ 16777216 := by rw [txt_size]; exact hS1
  have hz2 : (txt I2).size ≤ 16777216 := by rw [txt_size]; exact hS2
  unfold RTxE at him1 him2
  dsimp only at him1 him2
  generalize txt I1 = t1 at *
  generalize txt I2 = t2 at *
  generalize k.sp[n] = spn at *
  generalize k.sp.length = spl at *
  generalize pickF b 3 = m3 at *
  clear hS1 hS2
  unfold heldF at hhd
  generalize (k.svp.ps[n]'hn).2.1.g = G at *
  generalize (k.svp.ps[n]'hn).2.1.nf = nf at *
  generalize (if nf = true then (11 : Int) else 0) = xe at hhd
  go_enter Tryz.func79, Tryz.ntmps79
  go_wp2_with fail
  go_quiet (fail)
  go_wp2_with fail
  refine (hhd _ (by (repeat (first | exact Bel.refl _ | assumption | refine Bel.step_alloc ?_ _ | refine Bel.step_drew ?_ | refine Bel.step_drewN ?_ _ | refine Bel.step_set ?_ (by simp <;> omega) _ | refine Bel.trans ?_ (by assumption))))).mono ?_
  rintro e w1 ⟨rfl, hb1⟩
  have hbw1 : Bel w w1 := Bel.trans (by (repeat (first | exact Bel.refl _ | assumption | refine Bel.step_alloc ?_ _ | refine Bel.step_drew ?_ | refine Bel.step_drewN ?_ _ | refine Bel.step_set ?_ (by simp <;> omega) _ | refine Bel.trans ?_ (by assumption)))) hb1
  have d7 := hbw1.cell c7
  clear hhd
  go_wp2_with fail
  refine (him1 _ (by (repeat (first | exact Bel.refl _ | assumption | refine Bel.step_alloc ?_ _ | refine Bel.step_drew ?_ | refine Bel.step_drewN ?_ _ | refine Bel.step_set ?_ (by simp <;> omega) _ | refine Bel.trans ?_ (by assumption))))).mono ?_
  rintro e w2 ⟨rfl, hb2⟩
  have hbw2 : Bel w w2 := hbw1.trans hb2
  have e7 := hbw2.cell c7
  clear him1 d7
  go_wp2_with fail
  refine (him2 _ (by (repeat (first | exact Bel.refl _ | assumption | refine Bel.step_alloc ?_ _ | refine Bel.step_drew ?_ | refine Bel.step_drewN ?_ _ | refine Bel.step_set ?_ (by simp <;> omega) _ | refine Bel.trans ?_ (by assumption))))).mono ?_
  rintro e w3 ⟨rfl, hb3⟩
  have hbw3 : Bel w w3 := hbw2.trans hb3
  have HI3 := Hid.mk (HI.out.later hbw3)
  clear him2 e7 hb1 hb2 hb3 hbw1 hbw2 HI c7
  obtain ⟨N, hN⟩ : ∃ N, N = latN t1.size t2.size E1 := ⟨_, rfl⟩
  have hNle : N ≤ 349529 := by
    rw [hN]; unfold latN
    split <;> omega
  go_upto_if 56 with fail
  go_cut [10, 12] (fun v v12 wr => w3 = wr ∧ v = .int .i64 (N : Int) ∧ ∃ E0, v12 = .int .i64 E0)
  case first =>
    by_cases hE : E1 = 0
    · have hEb : (E1 == 0) = true := by rw [beq_iff_eq]; exact hE
      have hNe : Hid (3 + ((if (t2.size : Int) < (t1.size : Int) then (t1.size : Int) else (t2.size : Int)) + 48 - 1) / 48 = (N : Int)) := by
        show _ = _
        rw [hN]; unfold latN
        rw [if_pos hE]
        split <;> omega
      have hmx : 0 ≤ (if (t2.size : Int) < (t1.size : Int) then (t1.size : Int) else (t2.size : Int)) ∧ (if (t2.size : Int) < (t1.size : Int) then (t1.size : Int) else (t2.size : Int)) ≤ 16777216 := by split <;> omega
      have hms := fun wx => most_is (t1.size : Int) (t2.size : Int) wx
      generalize (if (t2.size : Int) < (t1.size : Int) then (t1.size : Int) else (t2.size : Int)) = mx at *
      obtain ⟨hm1, hm2⟩ := hmx
      clear hN
      go_wp2_with fail
      refine (hms _).mono ?_
      rintro e w4 ⟨rfl, rfl⟩
      clear hms
      go_wp2_with fail
      go_meet
      case rel => exact ⟨rfl, by rw [← hNe.out], _, rfl⟩
    · have hEb : (E1 == 0) = false := by rw [beq_eq_false_iff_ne]; exact hE
      have hNe : Hid ((3 : Int) = (N : Int)) := by
        show _ = _
        rw [hN]; unfold latN
        rw [if_neg hE]
        rfl
      clear hN
      go_wp2_with fail
      go_meet
      case rel => exact ⟨rfl, by rw [← hNe.out], _, rfl⟩
  case rest =>
    obtain ⟨rfl, rfl, E0, rfl⟩ := hcut
    clear hN hbw3 c13 c16 cs0
    have H0 : Hid (∃ k', KInv W0 p s k' w3 ∧ KTo k k' (3 * 0)) := ⟨k, HI3.out, KTo.refl k 0⟩
    clear HI3
    go_wp2
    go_loopg [15] N (fun r nk wr => ∃ j : Nat, nk = .int .i64 (j : Int) ∧ j ≤ N ∧ r = N - j ∧ ∃ k', KInv W0 p s k' wr ∧ KTo k k' (3 * j))
    case atStart => exact ⟨0, rfl, by omega, rfl, H0.out⟩
    case round =>
      obtain ⟨j, rfl, hj, rfl, k', hk', hT'⟩ := hrel
      have hfbj := hT'.fb
      by_cases hjN : j < N
      · have hjb : decide ((j : Int) < (N : Int)) = true := decide_eq_true (by omega)
        have hrd := kround_is hk' hs (n := n) (by rw [hT'.len]; exact hn) (by omega) 0
        clear hk'
        go_wp2_with fail
        refine hrd.mono ?_
        rintro e w4 ⟨rfl, k4, hk4, hT4, -⟩
        have hT5 := hT'.trans hT4
        have hfb5 := hT5.fb
        clear hrd hT4 hT'
        go_wp2_with fail
        refine (hpk _).mono ?_
        rintro e w5 ⟨rfl, rfl⟩
        by_cases hm : 0 < m3
        · have hm1 : decide (m3 > 0) = true := decide_eq_true hm
          by_cases hj2 : j + 1 < N
          · have hj4 : decide ((j : Int) < (N : Int) - 1) = true := decide_eq_true (by omega)
            have hol := fun b' (hb' : I64 b') => kold_is hk4 hs (n := n) (by rw [hT5.len]; exact hn) (by omega) b' hb'
            clear hk4
            go_wp2_with fail
            refine (hol _ (wrap64_range _)).mono ?_
            rintro e w6 ⟨rfl, k6, hk6, hT6, -⟩
            have HN : Hid (∃ k', KInv W0 p s k' w6 ∧ KTo k k' (3 * (j + 1))) := ⟨k6, hk6, (hT5.trans hT6).wide (by omega)⟩
            clear hk6 hT6 hol
            go_wp2
            go_roundg (N - (j + 1))
            case measure => omega
            case rel => exact ⟨j + 1, by go_num, by omega, rfl, HN.out⟩
          · have hj4 : decide ((j : Int) < (N : Int) - 1) = false := decide_eq_false (by omega)
            have HN : Hid (∃ k', KInv W0 p s k' w4 ∧ KTo k k' (3 * (j + 1))) := ⟨k4, hk4, hT5.wide (by omega)⟩
            clear hk4
            go_wp2
            go_roundg (N - (j + 1))
            case measure => omega
            case rel => exact ⟨j + 1, by go_num, by omega, rfl, HN.out⟩
        · have hm1 : decide (m3 > 0) = false := decide_eq_false hm
          have HN : Hid (∃ k', KInv W0 p s k' w4 ∧ KTo k k' (3 * (j + 1))) := ⟨k4, hk4, hT5.wide (by omega)⟩
          clear hk4
          go_wp2
          go_roundg (N - (j + 1))
          case measure => omega
          case rel => exact ⟨j + 1, by go_num, by omega, rfl, HN.out⟩
      · have hjb : decide ((j : Int) < (N : Int)) = false := decide_eq_false (by omega)
        have hhd := held_v hk'.svc (n := n) (by show n < k'.pp.length; rw [hT'.len]; exact hn)
        have hgn := fun wx (b' : Bel wr wx) => kgen_is (hk'.later b')
        have c7 := hk'.at_.1 7 _ rfl
        rw [hT'.q] at c7 hgn
        have hq : k'.q = k.q := hT'.q
        have hhd' : Calls Tryz.prog 32 #[.pointer (some ⟨k.q, 0, none⟩), .int .i64 (n : Int)] wr (RHeld wr (heldF (k'.svp.ps[n]'(by show n < k'.pp.length; rw [hT'.len]; exact hn)).2.1.g (k'.svp.ps[n]'(by show n < k'.pp.length; rw [hT'.len]; exact hn)).2.1.nf)) := by rw [← hq]; exact hhd
        unfold heldF at hhd'
        have HK := Hid.mk hk'
        clear hk' hhd
        generalize (k'.svp.ps[n]'(by show n < k'.pp.length; rw [hT'.len]; exact hn)).2.1.g = G2 at *
        generalize (k'.svp.ps[n]'(by show n < k'.pp.length; rw [hT'.len]; exact hn)).2.1.nf = nf2 at *
        generalize (if nf2 = true then (11 : Int) else 0) = xe2 at hhd'
        go_wp2_with fail
        refine hhd'.mono ?_
        rintro e w4 ⟨rfl, hb4⟩
        have x7 := hb4.cell c7
        have HK4 := Hid.mk (HK.out.later hb4)
        clear hhd' HK c7
        by_cases hf0 : bits .and .i64 spn k.on.formats = 0
        · have hfb0 : (bits .and .i64 spn k.on.formats == 0) = true := by rw [beq_iff_eq]; exact hf0
          go_wp2
          all_goals go_ret
          all_goals exact ⟨_, k', rfl, HK4.out, hT'.wide (by omega), trivial⟩
        · have hfb0 : (bits .and .i64 spn k.on.formats == 0) = false := by rw [beq_eq_false_iff_ne]; exact hf0
          go_wp2_with fail
          refine (hgn _ (by (repeat (first | exact Bel.refl _ | assumption | refine Bel.step_alloc ?_ _ | refine Bel.step_drew ?_ | refine Bel.step_drewN ?_ _ | refine Bel.step_set ?_ (by simp <;> omega) _ | refine Bel.trans ?_ (by assumption))))).mono ?_
          rintro e w5 ⟨rfl, rfl⟩
          clear hgn
          go_wp2
          all_goals go_ret
          all_goals exact ⟨_, k', rfl, HK4.out, hT'.wide (by omega), trivial⟩

end Go.Proofs.YtpapdkhjdelfcabGreat

namespace Go.Proofs.YtpapdkhjdelfcabGreat
open Go.RowKit

theorem KInv.hdn {W0 : World} {p s : Nat} {k : KI} {w : World} (h : KInv W0 p s k w) (hR : k.Rdy s) : k.hd.length = k.pp.length := by
  have := h.hlen
  have := hR.2.1
  omega
theorem KI.Rdy.fb {k : KI} {s : Nat} (h : k.Rdy s) : k.fb ≤ s * 2000000 := h.2.2.1
theorem KI.Rdy.fb8 {k : KI} {s : Nat} (h : k.Rdy s) (hs : s ≤ 65600) : k.fb ≤ 800000000000 := Nat.le_trans h.fb (Nat.le_trans (Nat.mul_le_mul_right _ hs) (by decide))
theorem RStand.up {W0 : World} {p s f : Nat} {k k' : KI} {w' : World} {hd' : List Int} (h : KInv W0 p s { k' with hd := hd' } w') (hR : k.Rdy s) (hT : KTo k k' f) (hf : f ≤ 2000000) (hTr : ({ k' with hd := hd' } : KI).Tr) : KInv W0 p (s + 1) { k' with hd := hd' } w' ∧ ({ k' with hd := hd' } : KI).Rdy (s + 1) := by
  refine ⟨h.up (by omega), ?_, ?_, ?_, hT.sl hR.2.2.2.1, ?_, hTr⟩
  · show k'.ds = 0
    rw [hT.ds]; exact hR.1
  · show k'.dh = 0
    rw [hT.dh]; exact hR.2.1
  · show k'.fb ≤ (s + 1) * 2000000
    rw [Nat.succ_mul]
    exact Nat.le_trans hT.fb (Nat.add_le_add hR.fb hf)
  · show ImgP k'.img k'.on k'.g k'.B
    have e : k'.img = k.img := by have e := congrArg KI.img hT.eq; exact e
    rw [e, hT.on, hT.g, hT.B]
    exact hR.2.2.2.2.1

set_option maxRecDepth 100000 in
set_option maxHeartbeats 400000 in
/-- any other step, where there is no dataplane -/
theorem step_none (W0 : World) (p s : Nat) (k : KI) (kd a b c : Int) (S : ByteArray) (w : World) (h : KInv W0 p s k w) (hR : k.Rdy s) (hv : k.pp.length = 0) (hkd : (kd < 1 ∨ 6 < kd) ∧ kd ≠ 12 ∧ kd ≠ 13) :
    Calls Tryz.prog 36 #[.pointer (some ⟨p, 0, none⟩), opV kd a b c S] w (RStep W0 p (s + 1) FS) := by
  obtain ⟨ah, caph, hvh⟩ := own_slice h.held
  have c17 : w.cell? ⟨p, 17, none⟩ = some (.slice ah 0 caph) := by
    have e : k.hd.length = 0 := by rw [h.hdn hR]; exact hv
    rw [e] at hvh
    rw [← hvh]; exact h.at_.1 17 _ rfl
  have hplt := h.at_.lt (by rw [wl_len]; decide)
  have HI := Hid.mk h
  clear h hvh
  have e1 : (kd == 1) = false := by rw [beq_eq_false_iff_ne]; omega
  have e2 : (kd == 2) = false := by rw [beq_eq_false_iff_ne]; omega
  have e3 : (kd == 3) = false := by rw [beq_eq_false_iff_ne]; omega
  have e4 : (kd == 4) = false := by rw [beq_eq_false_iff_ne]; omega
  have e5 : (kd == 5) = false := by rw [beq_eq_false_iff_ne]; omega
  have e6 : (kd == 6) = false := by rw [beq_eq_false_iff_ne]; omega
  have e12 : (kd == 12) = false := by rw [beq_eq_false_iff_ne]; omega
  have e13 : (kd == 13) = false := by rw [beq_eq_false_iff_ne]; omega
  unfold opV
  go_enter Tryz.func36, Tryz.ntmps36
  go_wp2
  all_goals go_ret
  all_goals exact Or.inl ⟨rfl, k, (HI.out.later (by (repeat (first | exact Bel.refl _ | assumption | refine Bel.step_alloc ?_ _ | refine Bel.step_drew ?_ | refine Bel.step_drewN ?_ _ | refine Bel.step_set ?_ (by simp <;> omega) _ | refine Bel.trans ?_ (by assumption))))).up (by omega), hR.up (by omega)⟩

set_option maxRecDepth 100000 in
set_option maxHeartbeats 1000000 in
theorem step_else (W0 : World) (p s : Nat) (k : KI) (kd a b c : Int) (S : ByteArray) (w : World) (h : KInv W0 p s k w) (hR : k.Rdy s) (hs : s ≤ 65600) (hpp : 0 < k.pp.length) (ha : I64 a) (hkd : kd < 1 ∨ 13 < kd) :
    Calls Tryz.prog 36 #[.pointer (some ⟨p, 0, none⟩), opV kd a b c S] w (RStep W0 p (s + 1) FS) := by
  have hhl := h.hdn hR
  have hle4 : k.pp.length ≤ 4 := h.svc.le4
  have hpk := fun wx => pick_is a (k.hd.length : Int) wx ha (by omega) (by omega)
  obtain ⟨h1, h2⟩ := pickF_range a (k.hd.length : Int) (by omega)
  obtain ⟨n, hn⟩ := Int.eq_ofNat_of_zero_le h1
  rw [hn] at hpk h2
  have hnl : n < k.pp.length := by omega
  obtain ⟨gh, ch, hvh, -, -⟩ := World.ownsRow.form h.held (by omega : 0 < k.hd.length)
  have c17 : w.cell? ⟨p, 17, none⟩ = some (.slice (some ⟨gh, 0, none⟩) k.hd.length ch) := by rw [← hvh]; exact h.at_.1 17 _ rfl
  have c7 := h.at_.1 7 _ rfl
  have hplt := h.at_.lt (by rw [wl_len]; decide)
  have hp0 := (h.lt p (h.inM p h.p_in)).1
  have hlz : ((k.hd.length : Int) == 0) = false := by rw [beq_eq_false_iff_ne]; omega
  have hfb : k.fb ≤ 800000000000 := hR.fb8 hs
  have HI := Hid.mk h
  have e1 : (kd == 1) = false := by rw [beq_eq_false_iff_ne]; omega
  have e2 : (kd == 2) = false := by rw [beq_eq_false_iff_ne]; omega
  have e3 : (kd == 3) = false := by rw [beq_eq_false_iff_ne]; omega
  have e4 : (kd == 4) = false := by rw [beq_eq_false_iff_ne]; omega
  have e5 : (kd == 5) = false := by rw [beq_eq_false_iff_ne]; omega
  have e6 : (kd == 6) = false := by rw [beq_eq_false_iff_ne]; omega
  have e7 : (kd == 7) = false := by rw [beq_eq_false_iff_ne]; omega
  have e8 : (kd == 8) = false := by rw [beq_eq_false_iff_ne]; omega
  have e9 : (kd == 9) = false := by rw [beq_eq_false_iff_ne]; omega
  have e10 : (kd == 10) = false := by rw [beq_eq_false_iff_ne]; omega
  have e11 : (kd == 11) = false := by rw [beq_eq_false_iff_ne]; omega
  have e12 : (kd == 12) = false := by rw [beq_eq_false_iff_ne]; omega
  have e13 : (kd == 13) = false := by rw [beq_eq_false_iff_ne]; omega
  have hst := fun wx (b' : Bel w wx) => kstands_is (h.later b') hs hR.2.1 hnl hR.2.2.2.2.2
  clear h h1 hn
  have HR := Hid.mk hR
  have HHL := Hid.mk hhl
  have HNL := Hid.mk hnl
  have HS := Hid.mk hs
  clear hR hhl hnl hs hle4 hpp h2 hfb
  unfold opV
  go_enter Tryz.func36, Tryz.ntmps36
  go_wp2_with fail
  go_region_held3 (fun w' => Bel w w' ∧ w'.cell? ⟨p, 17, none⟩ = some (.slice (some ⟨gh, 0, none⟩) k.hd.length ch) ∧ w'.cell? ⟨w.heap.size, 1, none⟩ = some (.int .i64 a)) ((exact ⟨by (repeat (first | exact Bel.refl _ | assumption | refine Bel.step_alloc ?_ _ | refine Bel.step_drew ?_ | refine Bel.step_drewN ?_ _ | refine Bel.step_set ?_ (by simp <;> omega) _ | refine Bel.trans ?_ (by assumption))), Bel.cell (a := w) (by (repeat (first | exact Bel.refl _ | assumption | refine Bel.step_alloc ?_ _ | refine Bel.step_drew ?_ | refine Bel.step_drewN ?_ _ | refine Bel.step_set ?_ (by simp <;> omega) _ | refine Bel.trans ?_ (by assumption)))) c17, by simp⟩)) ((go_at_call 70; refine (hpk _).mono ?_; rintro e w2 ⟨rfl, rfl⟩))
  all_goals clear hpk
  go_wp2_with fail
  refine (hst _ (by (repeat (first | exact Bel.refl _ | assumption | refine Bel.step_alloc ?_ _ | refine Bel.step_drew ?_ | refine Bel.step_drewN ?_ _ | refine Bel.step_set ?_ (by simp <;> omega) _ | refine Bel.trans ?_ (by assumption))))).mono ?_
  rintro e w3 ⟨hd', rfl, hk3, hTr3⟩
  have HK3 := Hid.mk hk3
  have HTR3 := Hid.mk hTr3
  clear hst hk3 hTr3
  go_wp2
  go_ret
  exact Or.inl ⟨rfl, _, RStand.up HK3.out HR.out (KTo.refl k 0) (by decide) HTR3.out⟩

end Go.Proofs.YtpapdkhjdelfcabGreat

namespace Go.Proofs.YtpapdkhjdelfcabGreat
open Go.RowKit

set_option maxRecDepth 100000 in
set_option maxHeartbeats 1000000 in
theorem step_round (W0 : World) (p s : Nat) (k : KI) (a b c : Int) (S : ByteArray) (w : World) (h : KInv W0 p s k w) (hR : k.Rdy s) (hs : s ≤ 65600) (hpp : 0 < k.pp.length) (ha : I64 a) :
    Calls Tryz.prog 36 #[.pointer (some ⟨p, 0, none⟩), opV 7 a b c S] w (RStep W0 p (s + 1) FS) := by
  have hhl := h.hdn hR
  have hle4 : k.pp.length ≤ 4 := h.svc.le4
  have hpk := fun wx => pick_is a (k.hd.length : Int) wx ha (by omega) (by omega)
  obtain ⟨h1, h2⟩ := pickF_range a (k.hd.length : Int) (by omega)
  obtain ⟨n, hn⟩ := Int.eq_ofNat_of_zero_le h1
  rw [hn] at hpk h2
  have hnl : n < k.pp.length := by omega
  obtain ⟨gh, ch, hvh, -, -⟩ := World.ownsRow.form h.held (by omega : 0 < k.hd.length)
  have c17 : w.cell? ⟨p, 17, none⟩ = some (.slice (some ⟨gh, 0, none⟩) k.hd.length ch) := by rw [← hvh]; exact h.at_.1 17 _ rfl
  have c7 := h.at_.1 7 _ rfl
  have hplt := h.at_.lt (by rw [wl_len]; decide)
  have hp0 := (h.lt p (h.inM p h.p_in)).1
  have hlz : ((k.hd.length : Int) == 0) = false := by rw [beq_eq_false_iff_ne]; omega
  have hfb : k.fb ≤ 800000000000 := hR.fb8 hs
  have HI := Hid.mk h
  have hcl := fun wx (b' : Bel w wx) => kround_is (h.later b') hs hnl (Nat.le_trans hfb (by decide)) b
  clear h h1 hn
  have HR := Hid.mk hR
  have HHL := Hid.mk hhl
  have HNL := Hid.mk hnl
  have HS := Hid.mk hs
  clear hR hhl hnl hs hle4 hpp h2 hfb
  unfold opV
  go_enter Tryz.func36, Tryz.ntmps36
  go_wp2_with fail
  go_region_held3 (fun w' => Bel w w' ∧ w'.cell? ⟨p, 17, none⟩ = some (.slice (some ⟨gh, 0, none⟩) k.hd.length ch) ∧ w'.cell? ⟨w.heap.size, 1, none⟩ = some (.int .i64 a)) ((exact ⟨by (repeat (first | exact Bel.refl _ | assumption | refine Bel.step_alloc ?_ _ | refine Bel.step_drew ?_ | refine Bel.step_drewN ?_ _ | refine Bel.step_set ?_ (by simp <;> omega) _ | refine Bel.trans ?_ (by assumption))), Bel.cell (a := w) (by (repeat (first | exact Bel.refl _ | assumption | refine Bel.step_alloc ?_ _ | refine Bel.step_drew ?_ | refine Bel.step_drewN ?_ _ | refine Bel.step_set ?_ (by simp <;> omega) _ | refine Bel.trans ?_ (by assumption)))) c17, by simp⟩)) ((go_at_call 70; refine (hpk _).mono ?_; rintro e w2 ⟨rfl, rfl⟩))
  all_goals clear hpk
  go_wp2_with fail
  refine (hcl _ (by (repeat (first | exact Bel.refl _ | assumption | refine Bel.step_alloc ?_ _ | refine Bel.step_drew ?_ | refine Bel.step_drewN ?_ _ | refine Bel.step_set ?_ (by simp <;> omega) _ | refine Bel.trans ?_ (by assumption))))).mono ?_
  rintro e w2 ⟨rfl, k2, hk2, hT2, -⟩
  have x17 : w2.cell? ⟨p, 17, none⟩ = some (.slice (some ⟨gh, 0, none⟩) k.hd.length ch) := by rw [← hvh, ← hT2.vh]; exact hk2.at_.1 17 _ rfl
  have hst := kstands_is hk2 HS.out (by rw [hT2.dh]; exact HR.out.2.1) (n := n) (by rw [hT2.len]; exact HNL.out) (hT2.tr HR.out.2.2.2.2.2)
  clear hk2 hcl
  go_wp2_with fail
  refine hst.mono ?_
  rintro e w3 ⟨hd', rfl, hk3, hTr3⟩
  have HK3 := Hid.mk hk3
  have HTR3 := Hid.mk hTr3
  clear hst hk3 hTr3
  go_wp2
  go_ret
  exact Or.inl ⟨rfl, _, RStand.up HK3.out HR.out hT2 (by decide) HTR3.out⟩

end Go.Proofs.YtpapdkhjdelfcabGreat

namespace Go.Proofs.YtpapdkhjdelfcabGreat
open Go.RowKit

set_option maxRecDepth 100000 in
set_option maxHeartbeats 1000000 in
theorem step_old (W0 : World) (p s : Nat) (k : KI) (a b c : Int) (S : ByteArray) (w : World) (h : KInv W0 p s k w) (hR : k.Rdy s) (hs : s ≤ 65600) (hpp : 0 < k.pp.length) (ha : I64 a) (hb : I64 b) :
    Calls Tryz.prog 36 #[.pointer (some ⟨p, 0, none⟩), opV 8 a b c S] w (RStep W0 p (s + 1) FS) := by
  have hhl := h.hdn hR
  have hle4 : k.pp.length ≤ 4 := h.svc.le4
  have hpk := fun wx => pick_is a (k.hd.length : Int) wx ha (by omega) (by omega)
  obtain ⟨h1, h2⟩ := pickF_range a (k.hd.length : Int) (by omega)
  obtain ⟨n, hn⟩ := Int.eq_ofNat_of_zero_le h1
  rw [hn] at hpk h2
  have hnl : n < k.pp.length := by omega
  obtain ⟨gh, ch, hvh, -, -⟩ := World.ownsRow.form h.held (by omega : 0 < k.hd.length)
  have c17 : w.cell? ⟨p, 17, none⟩ = some (.slice (some ⟨gh, 0, none⟩) k.hd.length ch) := by rw [← hvh]; exact h.at_.1 17 _ rfl
  have c7 := h.at_.1 7 _ rfl
  have hplt := h.at_.lt (by rw [wl_len]; decide)
  have hp0 := (h.lt p (h.inM p h.p_in)).1
  have hlz : ((k.hd.length : Int) == 0) = false := by rw [beq_eq_false_iff_ne]; omega
  have hfb : k.fb ≤ 800000000000 := hR.fb8 hs
  have HI := Hid.mk h
  have hcl := fun wx (b' : Bel w wx) => kold_is (h.later b') hs hnl (Nat.le_trans hfb (by decide)) b hb
  clear h h1 hn
  have HR := Hid.mk hR
  have HHL := Hid.mk hhl
  have HNL := Hid.mk hnl
  have HS := Hid.mk hs
  clear hR hhl hnl hs hle4 hpp h2 hfb
  unfold opV
  go_enter Tryz.func36, Tryz.ntmps36
  go_wp2_with fail
  go_region_held3 (fun w' => Bel w w' ∧ w'.cell? ⟨p, 17, none⟩ = some (.slice (some ⟨gh, 0, none⟩) k.hd.length ch) ∧ w'.cell? ⟨w.heap.size, 1, none⟩ = some (.int .i64 a)) ((exact ⟨by (repeat (first | exact Bel.refl _ | assumption | refine Bel.step_alloc ?_ _ | refine Bel.step_drew ?_ | refine Bel.step_drewN ?_ _ | refine Bel.step_set ?_ (by simp <;> omega) _ | refine Bel.trans ?_ (by assumption))), Bel.cell (a := w) (by (repeat (first | exact Bel.refl _ | assumption | refine Bel.step_alloc ?_ _ | refine Bel.step_drew ?_ | refine Bel.step_drewN ?_ _ | refine Bel.step_set ?_ (by simp <;> omega) _ | refine Bel.trans ?_ (by assumption)))) c17, by simp⟩)) ((go_at_call 70; refine (hpk _).mono ?_; rintro e w2 ⟨rfl, rfl⟩))
  all_goals clear hpk
  go_wp2_with fail
  refine (hcl _ (by (repeat (first | exact Bel.refl _ | assumption | refine Bel.step_alloc ?_ _ | refine Bel.step_drew ?_ | refine Bel.step_drewN ?_ _ | refine Bel.step_set ?_ (by simp <;> omega) _ | refine Bel.trans ?_ (by assumption))))).mono ?_
  rintro e w2 ⟨rfl, k2, hk2, hT2, -⟩
  have x17 : w2.cell? ⟨p, 17, none⟩ = some (.slice (some ⟨gh, 0, none⟩) k.hd.length ch) := by rw [← hvh, ← hT2.vh]; exact hk2.at_.1 17 _ rfl
  have hst := kstands_is hk2 HS.out (by rw [hT2.dh]; exact HR.out.2.1) (n := n) (by rw [hT2.len]; exact HNL.out) (hT2.tr HR.out.2.2.2.2.2)
  clear hk2 hcl
  go_wp2_with fail
  refine hst.mono ?_
  rintro e w3 ⟨hd', rfl, hk3, hTr3⟩
  have HK3 := Hid.mk hk3
  have HTR3 := Hid.mk hTr3
  clear hst hk3 hTr3
  go_wp2
  go_ret
  exact Or.inl ⟨rfl, _, RStand.up HK3.out HR.out hT2 (by decide) HTR3.out⟩

end Go.Proofs.YtpapdkhjdelfcabGreat

namespace Go.Proofs.YtpapdkhjdelfcabGreat
open Go.RowKit

set_option maxRecDepth 100000 in
set_option maxHeartbeats 1000000 in
theorem step_burst (W0 : World) (p s : Nat) (k : KI) (a b c : Int) (S : ByteArray) (w : World) (h : KInv W0 p s k w) (hR : k.Rdy s) (hs : s ≤ 65600) (hpp : 0 < k.pp.length) (ha : I64 a) (hb : I64 b) (hc : I64 c) :
    Calls Tryz.prog 36 #[.pointer (some ⟨p, 0, none⟩), opV 9 a b c S] w (RStep W0 p (s + 1) FS) := by
  have hhl := h.hdn hR
  have hle4 : k.pp.length ≤ 4 := h.svc.le4
  have hpk := fun wx => pick_is a (k.hd.length : Int) wx ha (by omega) (by omega)
  obtain ⟨h1, h2⟩ := pickF_range a (k.hd.length : Int) (by omega)
  obtain ⟨n, hn⟩ := Int.eq_ofNat_of_zero_le h1
  rw [hn] at hpk h2
  have hnl : n < k.pp.length := by omega
  obtain ⟨gh, ch, hvh, -, -⟩ := World.ownsRow.form h.held (by omega : 0 < k.hd.length)
  have c17 : w.cell? ⟨p, 17, none⟩ = some (.slice (some ⟨gh, 0, none⟩) k.hd.length ch) := by rw [← hvh]; exact h.at_.1 17 _ rfl
  have c7 := h.at_.1 7 _ rfl
  have hplt := h.at_.lt (by rw [wl_len]; decide)
  have hp0 := (h.lt p (h.inM p h.p_in)).1
  have hlz : ((k.hd.length : Int) == 0) = false := by rw [beq_eq_false_iff_ne]; omega
  have hfb : k.fb ≤ 800000000000 := hR.fb8 hs
  have HI := Hid.mk h
  have hcl := fun wx (b' : Bel w wx) => kburst_is (h.later b') hs hnl (Nat.le_trans hfb (by decide)) hR.2.2.2.1 b c S hb hc
  clear h h1 hn
  have HR := Hid.mk hR
  have HHL := Hid.mk hhl
  have HNL := Hid.mk hnl
  have HS := Hid.mk hs
  clear hR hhl hnl hs hle4 hpp h2 hfb
  unfold opV
  go_enter Tryz.func36, Tryz.ntmps36
  go_wp2_with fail
  go_region_held3 (fun w' => Bel w w' ∧ w'.cell? ⟨p, 17, none⟩ = some (.slice (some ⟨gh, 0, none⟩) k.hd.length ch) ∧ w'.cell? ⟨w.heap.size, 1, none⟩ = some (.int .i64 a)) ((exact ⟨by (repeat (first | exact Bel.refl _ | assumption | refine Bel.step_alloc ?_ _ | refine Bel.step_drew ?_ | refine Bel.step_drewN ?_ _ | refine Bel.step_set ?_ (by simp <;> omega) _ | refine Bel.trans ?_ (by assumption))), Bel.cell (a := w) (by (repeat (first | exact Bel.refl _ | assumption | refine Bel.step_alloc ?_ _ | refine Bel.step_drew ?_ | refine Bel.step_drewN ?_ _ | refine Bel.step_set ?_ (by simp <;> omega) _ | refine Bel.trans ?_ (by assumption)))) c17, by simp⟩)) ((go_at_call 70; refine (hpk _).mono ?_; rintro e w2 ⟨rfl, rfl⟩))
  all_goals clear hpk
  go_wp2_with fail
  refine (hcl _ (by (repeat (first | exact Bel.refl _ | assumption | refine Bel.step_alloc ?_ _ | refine Bel.step_drew ?_ | refine Bel.step_drewN ?_ _ | refine Bel.step_set ?_ (by simp <;> omega) _ | refine Bel.trans ?_ (by assumption))))).mono ?_
  rintro e w2 ⟨k2, rfl, hk2, hT2⟩
  have x17 : w2.cell? ⟨p, 17, none⟩ = some (.slice (some ⟨gh, 0, none⟩) k.hd.length ch) := by rw [← hvh, ← hT2.vh]; exact hk2.at_.1 17 _ rfl
  have hst := kstands_is hk2 HS.out (by rw [hT2.dh]; exact HR.out.2.1) (n := n) (by rw [hT2.len]; exact HNL.out) (hT2.tr HR.out.2.2.2.2.2)
  clear hk2 hcl
  go_wp2_with fail
  refine hst.mono ?_
  rintro e w3 ⟨hd', rfl, hk3, hTr3⟩
  have HK3 := Hid.mk hk3
  have HTR3 := Hid.mk hTr3
  clear hst hk3 hTr3
  go_wp2
  go_ret
  exact Or.inl ⟨rfl, _, RStand.up HK3.out HR.out hT2 (by decide) HTR3.out⟩

end Go.Proofs.YtpapdkhjdelfcabGreat

namespace Go.Proofs.YtpapdkhjdelfcabGreat
open Go.RowKit

set_option maxRecDepth 100000 in
set_option maxHeartbeats 1000000 in
theorem step_soon (W0 : World) (p s : Nat) (k : KI) (a b c : Int) (S : ByteArray) (w : World) (h : KInv W0 p s k w) (hR : k.Rdy s) (hs : s ≤ 65600) (hpp : 0 < k.pp.length) (ha : I64 a) (hb : I64 b) :
    Calls Tryz.prog 36 #[.pointer (some ⟨p, 0, none⟩), opV 11 a b c S] w (RStep W0 p (s + 1) FS) := by
  have hhl := h.hdn hR
  have hle4 : k.pp.length ≤ 4 := h.svc.le4
  have hpk := fun wx => pick_is a (k.hd.length : Int) wx ha (by omega) (by omega)
  obtain ⟨h1, h2⟩ := pickF_range a (k.hd.length : Int) (by omega)
  obtain ⟨n, hn⟩ := Int.eq_ofNat_of_zero_le h1
  rw [hn] at hpk h2
  have hnl : n < k.pp.length := by omega
  obtain ⟨gh, ch, hvh, -, -⟩ := World.ownsRow.form h.held (by omega : 0 < k.hd.length)
  have c17 : w.cell? ⟨p, 17, none⟩ = some (.slice (some ⟨gh, 0, none⟩) k.hd.length ch) := by rw [← hvh]; exact h.at_.1 17 _ rfl
  have c7 := h.at_.1 7 _ rfl
  have hplt := h.at_.lt (by rw [wl_len]; decide)
  have hp0 := (h.lt p (h.inM p h.p_in)).1
  have hlz : ((k.hd.length : Int) == 0) = false := by rw [beq_eq_false_iff_ne]; omega
  have hfb : k.fb ≤ 800000000000 := hR.fb8 hs
  have HI := Hid.mk h
  have hcl := fun wx (b' : Bel w wx) => klatest_is (h.later b') hs hR.1 hnl hfb b hb
  clear h h1 hn
  have HR := Hid.mk hR
  have HHL := Hid.mk hhl
  have HNL := Hid.mk hnl
  have HS := Hid.mk hs
  clear hR hhl hnl hs hle4 hpp h2 hfb
  unfold opV
  go_enter Tryz.func36, Tryz.ntmps36
  go_wp2_with fail
  go_region_held3 (fun w' => Bel w w' ∧ w'.cell? ⟨p, 17, none⟩ = some (.slice (some ⟨gh, 0, none⟩) k.hd.length ch) ∧ w'.cell? ⟨w.heap.size, 1, none⟩ = some (.int .i64 a)) ((exact ⟨by (repeat (first | exact Bel.refl _ | assumption | refine Bel.step_alloc ?_ _ | refine Bel.step_drew ?_ | refine Bel.step_drewN ?_ _ | refine Bel.step_set ?_ (by simp <;> omega) _ | refine Bel.trans ?_ (by assumption))), Bel.cell (a := w) (by (repeat (first | exact Bel.refl _ | assumption | refine Bel.step_alloc ?_ _ | refine Bel.step_drew ?_ | refine Bel.step_drewN ?_ _ | refine Bel.step_set ?_ (by simp <;> omega) _ | refine Bel.trans ?_ (by assumption)))) c17, by simp⟩)) ((go_at_call 70; refine (hpk _).mono ?_; rintro e w2 ⟨rfl, rfl⟩))
  all_goals clear hpk
  go_wp2_with fail
  refine (hcl _ (by (repeat (first | exact Bel.refl _ | assumption | refine Bel.step_alloc ?_ _ | refine Bel.step_drew ?_ | refine Bel.step_drewN ?_ _ | refine Bel.step_set ?_ (by simp <;> omega) _ | refine Bel.trans ?_ (by assumption))))).mono ?_
  rintro e w2 ⟨ok, k2, rfl, hk2, hT2, -⟩
  have x17 : w2.cell? ⟨p, 17, none⟩ = some (.slice (some ⟨gh, 0, none⟩) k.hd.length ch) := by rw [← hvh, ← hT2.vh]; exact hk2.at_.1 17 _ rfl
  have hst := kstands_is hk2 HS.out (by rw [hT2.dh]; exact HR.out.2.1) (n := n) (by rw [hT2.len]; exact HNL.out) (hT2.tr HR.out.2.2.2.2.2)
  have hf2 := fails_is p _ 8 w2 hk2.at_ (by rw [wl_len]; decide)
  have h20 := hk2.at_.1 0 _ rfl
  have hB2 := hk2.bel
  clear hk2 hcl
  cases ok
  · clear hst
    go_wp2_with fail
    refine hf2.mono ?_
    rintro e w4 ⟨rfl, rfl⟩
    clear hf2
    go_wp2
    go_ret
    exact Or.inr ⟨rfl, hB2.step_set hp0 _, 8, Or.inr (by simp), set_same h20⟩
  clear hf2 h20
  go_wp2_with fail
  refine hst.mono ?_
  rintro e w3 ⟨hd', rfl, hk3, hTr3⟩
  have HK3 := Hid.mk hk3
  have HTR3 := Hid.mk hTr3
  clear hst hk3 hTr3
  go_wp2
  go_ret
  exact Or.inl ⟨rfl, _, RStand.up HK3.out HR.out hT2 (by decide) HTR3.out⟩

end Go.Proofs.YtpapdkhjdelfcabGreat

namespace Go.Proofs.YtpapdkhjdelfcabGreat
open Go.RowKit

set_option maxRecDepth 100000 in
set_option maxHeartbeats 1000000 in
theorem step_restart (W0 : World) (p s : Nat) (k : KI) (a b c : Int) (S : ByteArray) (w : World) (h : KInv W0 p s k w) (hR : k.Rdy s) (hs : s ≤ 65600) (hpp : 0 < k.pp.length) (ha : I64 a) :
    Calls Tryz.prog 36 #[.pointer (some ⟨p, 0, none⟩), opV 10 a b c S] w (RStep W0 p (s + 1) FS) := by
  have hhl := h.hdn hR
  have hle4 : k.pp.length ≤ 4 := h.svc.le4
  have hpk := fun wx => pick_is a (k.hd.length : Int) wx ha (by omega) (by omega)
  obtain ⟨h1, h2⟩ := pickF_range a (k.hd.length : Int) (by omega)
  obtain ⟨n, hn⟩ := Int.eq_ofNat_of_zero_le h1
  rw [hn] at hpk h2
  have hnl : n < k.pp.length := by omega
  obtain ⟨gh, ch, hvh, -, -⟩ := World.ownsRow.form h.held (by omega : 0 < k.hd.length)
  have c17 : w.cell? ⟨p, 17, none⟩ = some (.slice (some ⟨gh, 0, none⟩) k.hd.length ch) := by rw [← hvh]; exact h.at_.1 17 _ rfl
  have c7 := h.at_.1 7 _ rfl
  have hplt := h.at_.lt (by rw [wl_len]; decide)
  have hp0 := (h.lt p (h.inM p h.p_in)).1
  have hlz : ((k.hd.length : Int) == 0) = false := by rw [beq_eq_false_iff_ne]; omega
  have hfb : k.fb ≤ 800000000000 := hR.fb8 hs
  have HI := Hid.mk h
  have hcl := fun wx (b' : Bel w wx) => krestart_is (h.later b') hnl
  clear h h1 hn
  have HR := Hid.mk hR
  have HHL := Hid.mk hhl
  have HNL := Hid.mk hnl
  have HS := Hid.mk hs
  clear hR hhl hnl hs hle4 hpp h2 hfb
  unfold opV
  go_enter Tryz.func36, Tryz.ntmps36
  go_wp2_with fail
  go_region_held3 (fun w' => Bel w w' ∧ w'.cell? ⟨p, 17, none⟩ = some (.slice (some ⟨gh, 0, none⟩) k.hd.length ch) ∧ w'.cell? ⟨w.heap.size, 1, none⟩ = some (.int .i64 a)) ((exact ⟨by (repeat (first | exact Bel.refl _ | assumption | refine Bel.step_alloc ?_ _ | refine Bel.step_drew ?_ | refine Bel.step_drewN ?_ _ | refine Bel.step_set ?_ (by simp <;> omega) _ | refine Bel.trans ?_ (by assumption))), Bel.cell (a := w) (by (repeat (first | exact Bel.refl _ | assumption | refine Bel.step_alloc ?_ _ | refine Bel.step_drew ?_ | refine Bel.step_drewN ?_ _ | refine Bel.step_set ?_ (by simp <;> omega) _ | refine Bel.trans ?_ (by assumption)))) c17, by simp⟩)) ((go_at_call 70; refine (hpk _).mono ?_; rintro e w2 ⟨rfl, rfl⟩))
  all_goals clear hpk
  go_wp2_with fail
  refine (hcl _ (by (repeat (first | exact Bel.refl _ | assumption | refine Bel.step_alloc ?_ _ | refine Bel.step_drew ?_ | refine Bel.step_drewN ?_ _ | refine Bel.step_set ?_ (by simp <;> omega) _ | refine Bel.trans ?_ (by assumption))))).mono ?_
  rintro e w2 ⟨rfl, M2, pp2, hk2, hl2, hTr2⟩
  have hnk : n < k.hd.length := by rw [HHL.out]; exact HNL.out
  have hrow := hk2.held
  have hvh2 : ({ k with M := M2, pp := pp2 } : KI).vh = .slice (some ⟨gh, 0, none⟩) k.hd.length ch := hvh
  rw [hvh2] at hrow
  have hc2 : w2.cell? ⟨gh, n, none⟩ = some (.int .i64 k.hd[n]) := by
    have hc := World.ownsRow.cellAt hrow n (by simpa using hnk)
    rw [hc]; simp [hnk]
  have hf2 : w2.frozen? ⟨gh, n, none⟩ = false := World.ownsRow.frozenAt hrow n
  have x17 : w2.cell? ⟨p, 17, none⟩ = some (.slice (some ⟨gh, 0, none⟩) k.hd.length ch) := by rw [← hvh]; exact hk2.at_.1 17 _ rfl
  have hk3 := hk2.note hvh2 hnk (x := 0) (by omega)
  have hst := kstands_is hk3 HS.out HR.out.2.1 (n := n) (by show n < pp2.length; rw [hl2]; exact HNL.out) (hTr2 HR.out.2.2.2.2.2)
  clear hk2 hcl hrow hk3 hTr2
  go_wp2_with fail
  refine hst.mono ?_
  rintro e w3 ⟨hd', rfl, hk3, hTr3⟩
  have HK3 := Hid.mk hk3
  have HTR3 := Hid.mk hTr3
  clear hst hk3 hTr3
  go_wp2
  go_ret
  exact Or.inl ⟨rfl, _, HK3.out.up (by omega), HR.out.1, HR.out.2.1, Nat.le_trans HR.out.2.2.1 (Nat.mul_le_mul_right _ (Nat.le_succ s)), HR.out.2.2.2.1, HR.out.2.2.2.2.1, HTR3.out⟩

end Go.Proofs.YtpapdkhjdelfcabGreat

namespace Go.Proofs.YtpapdkhjdelfcabGreat
open Go.RowKit

theorem crc_low (y : BitVec 32) : bits .and .u32 (y.toNat : Int) 1 = ((y.toNat % 2 : Nat) : Int) := by
  have hy := y.isLt
  rw [show (1 : Int) = ((1 : Nat) : Int) from rfl, u32_and_nat _ _ (by omega) (by omega), Nat.and_one_is_mod]
theorem cStep_nat (y : BitVec 32) : (cStep y).toNat = y.toNat / 2 ^^^ (3988292384 * (y.toNat % 2)) := by
  have hy := y.isLt
  unfold cStep
  rw [BitVec.toNat_xor, BitVec.toNat_ushiftRight, Nat.shiftRight_eq_div_pow]
  have h0 : y.getLsbD 0 = (y.toNat % 2 == 1) := by
    rw [BitVec.getLsbD, Nat.testBit_zero]
    rcases Nat.mod_two_eq_zero_or_one y.toNat with h | h <;> simp [h]
  rw [h0]
  rcases Nat.mod_two_eq_zero_or_one y.toNat with h | h <;> simp [h]
theorem crc_one {y : BitVec 32} (h : y.toNat % 2 = 1) : bits .xor .u32 ((y.toNat : Int) / 2) 3988292384 = ((cStep y).toNat : Int) := by
  have hy := y.isLt
  have e1 : ((y.toNat : Int) / 2) = ((y.toNat / 2 : Nat) : Int) := by omega
  rw [e1, show (3988292384 : Int) = ((3988292384 : Nat) : Int) from rfl, u32_xor_nat _ _ (by omega) (by omega), cStep_nat, h]
theorem crc_nil {y : BitVec 32} (h : y.toNat % 2 = 0) : ((y.toNat : Int) / 2) = ((cStep y).toNat : Int) := by
  rw [cStep_nat, h]
  simp

set_option maxRecDepth 100000 in
set_option maxHeartbeats 1000000 in
theorem kcrc_is (t : ByteArray) (w : World) (ht : t.size ≤ 1099511627776) :
    Calls Tryz.prog 180 #[.string t] w (RCrc w (crcB t.data.toList)) := by
  have hz : Hid (t.data.toList.length = t.size) := by show _ = _; rw [Array.length_toList]; rfl
  go_enter Tryz.func180, Tryz.ntmps180
  go_wp2
  go_loopg [3, 4] t.size (fun r x d wr => w = wr ∧ ∃ k : Nat, r = t.size - k ∧ k ≤ t.size ∧ x = .int .u32 (((t.data.toList.take k).foldl cByte 0xFFFFFFFF#32).toNat : Int) ∧ d = .int .i64 (k : Int))
  case atStart => exact ⟨rfl, 0, rfl, by omega, rfl, rfl⟩
  case round =>
    obtain ⟨rfl, k, hr, hk, rfl, rfl⟩ := hrel
    by_cases hlt : k < t.size
    · have hft : Hid ((t.data.toList.take (k + 1)).foldl cByte 0xFFFFFFFF#32 = cByte ((t.data.toList.take k).foldl cByte 0xFFFFFFFF#32) (t[k]'hlt)) := fold_take t.data.toList k (by rw [hz.out]; exact hlt) _
      generalize (t.data.toList.take k).foldl cByte 0xFFFFFFFF#32 = c at *
      go_wp2
      go_loopg [3, 5] 8 (fun r x d wr => w = wr ∧ ∃ j : Nat, r = 8 - j ∧ j ≤ 8 ∧ x = .int .u32 ((stepN (c ^^^ BitVec.ofNat 32 (t[k]'hlt).toNat) j).toNat : Int) ∧ d = .int .i64 (j : Int))
      case atStart => exact ⟨rfl, 0, rfl, by omega, by rw [crc_xor]; rfl, rfl⟩
      case round =>
        obtain ⟨rfl, j, hr2, hj, rfl, rfl⟩ := hrel
        by_cases hj8 : j < 8
        · have hst : Hid (stepN (c ^^^ BitVec.ofNat 32 (t[k]'hlt).toNat) (j + 1) = cStep (stepN (c ^^^ BitVec.ofNat 32 (t[k]'hlt).toNat) j)) := rfl
          generalize stepN (c ^^^ BitVec.ofNat 32 (t[k]'hlt).toNat) j = y at *
          rcases Nat.mod_two_eq_zero_or_one y.toNat with h2 | h2
          · have hlow : (bits .and .u32 (y.toNat : Int) 1 == 1) = false := by rw [crc_low, h2]; rfl
            have HS := Hid.mk (crc_nil h2)
            go_wp2
            go_roundg (8 - (j + 1))
            case measure => omega
            case rel => exact ⟨rfl, j + 1, rfl, by omega, by rw [hst.out, ← HS.out], by go_num⟩
          · have hlow : (bits .and .u32 (y.toNat : Int) 1 == 1) = true := by rw [crc_low, h2]; rfl
            have HS := Hid.mk (crc_one h2)
            go_wp2
            go_roundg (8 - (j + 1))
            case measure => omega
            case rel => exact ⟨rfl, j + 1, rfl, by omega, by rw [hst.out, ← HS.out], by go_num⟩
        · obtain rfl : j = 8 := by omega
          rw [← cByte_step, ← hft.out]
          go_wp2
          go_roundg (t.size - (k + 1))
          case measure => omega
          case rel => exact ⟨rfl, k + 1, rfl, by omega, rfl, by go_num⟩
    · have he : Hid (t.data.toList.take k = t.data.toList) := List.take_of_length_le (by rw [hz.out]; omega)
      go_wp2
      go_ret
      refine ⟨?_, rfl⟩
      show Ending.returned (.int .u32 (bits .xor .u32 _ 4294967295)) = _
      have := crc_xor ((t.data.toList.take k).foldl cByte 0xFFFFFFFF#32) 4294967295
      rw [show (((4294967295 : Nat) : Int) % 4294967296) = 4294967295 from rfl] at this
      rw [this, he.out]
      rfl
theorem decF_len4 {l : List UInt8} (h : (decF l).2.2.2 = 0) : 4 < l.length := by
  unfold decF at h
  split at h
  · rename_i hi
    unfold imageP openB at hi
    by_cases hl : l.length ≤ 4
    · rw [if_pos hl] at hi; simp at hi
    · omega
  · simp at h

/-- the other service of Bytes -/
def AnI (w : World) (q2 : Nat) (on : Cfg) (i : Nat) (wr : World) : Prop := ∃ (Bx : List BK) (gx : Nat), SvcAt (.slice none 0 0) [q2] q2 on Bx (gx : Int) wr ∧ Good Bx ∧ Bel w wr ∧ gx ≤ i
def RAny (w : World) (e : Ending) (w' : World) : Prop := ∃ b, e = .returned (.bool b) ∧ Bel w w'

end Go.Proofs.YtpapdkhjdelfcabGreat
