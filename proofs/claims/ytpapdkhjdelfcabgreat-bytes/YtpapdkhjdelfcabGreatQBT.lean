import Derived.Test.YtpapdkhjdelfcabGreatQBS
import Derived.Deep.QuietTactic
import Derived.BigQuiet
import Derived.Test.YtpapdkhjdelfcabGreatQAI
namespace Go.Proofs.YtpapdkhjdelfcabGreat
open Go.RowKit

/-- a dataplane asks, and is answered -/
noncomputable def roundP (x : KP) (n : Nat) (how : Int) : KP :=
  if bits .and .i64 how 1 = 1 then x.keep (x.tick n)
  else if ((x.keep (x.tick n)).serve (x.tick n)).toList = [] then x.keep (x.tick n)
  else if bits .and .i64 how 2 = 2 then (x.keep (x.tick n)).keep ((x.keep (x.tick n)).serve (x.tick n))
  else if bits .and .i64 how 4 = 4 then (((x.keep (x.tick n)).keep ((x.keep (x.tick n)).serve (x.tick n))).recv n ((x.keep (x.tick n)).serve (x.tick n))).recv n ((x.keep (x.tick n)).serve (x.tick n))
  else ((x.keep (x.tick n)).keep ((x.keep (x.tick n)).serve (x.tick n))).recv n ((x.keep (x.tick n)).serve (x.tick n))
theorem nil_beq (t : ByteArray) : (t.toList = [] → t.toList.isEmpty = true) ∧ (t.toList ≠ [] → t.toList.isEmpty = false) :=
  ⟨fun h => by rw [h]; rfl, fun h => by cases e : t.toList.isEmpty; rfl; exact absurd (List.isEmpty_iff.1 e) h⟩

set_option maxRecDepth 100000 in
set_option maxHeartbeats 1000000 in
theorem kround_is {W0 : World} {p s : Nat} {k : KI} {w : World} {n : Nat} (h : KInv W0 p s k w) (hs : s ≤ 65600) (hn : n < k.pp.length) (hfb : k.fb ≤ 900000000000) (how : Int) :
    Calls Tryz.prog 75 #[.pointer (some ⟨p, 0, none⟩), .int .i64 (n : Int), .int .i64 how] w (RTo W0 p s k 2 (roundP k.pu n how)) := by
  have htk := fun wx (b' : Bel w wx) => ktick_is (h.later b') hn
  have HI := Hid.mk h
  have c7 := h.at_.1 7 _ rfl
  have hsz := KP.tick_size k.pu n
  obtain ⟨q, hq⟩ : ∃ q, q = k.pu.tick n := ⟨_, rfl⟩
  rw [← hq] at htk hsz
  have HQ := Hid.mk hq
  clear h hq
  go_enter Tryz.func75, Tryz.ntmps75
  go_wp2_with fail
  refine (htk _ (by (repeat (first | exact Bel.refl _ | assumption | refine Bel.step_alloc ?_ _ | refine Bel.step_drew ?_ | refine Bel.step_drewN ?_ _ | refine Bel.step_set ?_ (by simp <;> omega) _ | refine Bel.trans ?_ (by assumption))))).mono ?_
  rintro e w1 ⟨rfl, hb1⟩
  have hI1 := HI.out.later hb1
  have hkp := kkeep_is hI1 q (by omega) (by omega) (by rw [HQ.out]; exact tick_seald (by simpa [KI.pu] using hn))
  have d7 := hb1.cell c7
  clear htk c7 hI1
  go_wp2_with fail
  refine hkp.mono ?_
  rintro e w2 ⟨rfl, k2, hk2, hT2, hp2⟩
  have e7 := hk2.at_.1 7 _ rfl
  rw [hT2.q] at e7
  clear hkp d7
  have hsv := fun wx (b' : Bel w2 wx) => kserve_is (hk2.later b') hs q (by omega)
  have hsz2 := KP.serve_size k2.pu q
  obtain ⟨a, ha⟩ : ∃ a, a = k2.pu.serve q := ⟨_, rfl⟩
  rw [← ha] at hsv hsz2
  rw [hp2] at ha
  have HA := Hid.mk ha
  have HK2 := Hid.mk hk2
  have HP2 := Hid.mk hp2
  clear hk2 ha hp2
  rw [hT2.q] at hsv
  by_cases a1 : bits .and .i64 how 1 = 1
  · have a1b : (bits .and .i64 how 1 == 1) = true := by rw [beq_iff_eq]; exact a1
    have HX : Hid (roundP k.pu n how = k.pu.keep q) := by
      show _ = _
      unfold roundP
      rw [if_pos a1, HQ.out]
    clear hsv
    go_wp2
    (try simp only [Exit.inBlock, Exit.then]); refine bodyPost_ret (results_none rfl _ _ _) rfl ?_
    exact ⟨rfl, k2, HK2.out, hT2.wide (by omega), HP2.out.trans HX.out.symm⟩
  have a1b : (bits .and .i64 how 1 == 1) = false := by rw [beq_eq_false_iff_ne]; exact a1
  go_wp2_with fail
  refine (hsv _ (by (repeat (first | exact Bel.refl _ | assumption | refine Bel.step_alloc ?_ _ | refine Bel.step_drew ?_ | refine Bel.step_drewN ?_ _ | refine Bel.step_set ?_ (by simp <;> omega) _ | refine Bel.trans ?_ (by assumption))))).mono ?_
  rintro e w3 ⟨rfl, hb3⟩
  have hI3 := HK2.out.later hb3
  have f7 := hb3.cell e7
  clear hsv e7
  by_cases a0 : a.toList = []
  · have a0b := (nil_beq a).1 a0
    have HX : Hid (roundP k.pu n how = k.pu.keep q) := by
      show _ = _
      unfold roundP
      rw [if_neg a1, ← HQ.out, ← HA.out, if_pos a0]
    have HI3 := Hid.mk hI3
    clear hI3
    go_wp2
    (try simp only [Exit.inBlock, Exit.then]); refine bodyPost_ret (results_none rfl _ _ _) rfl ?_
    exact ⟨rfl, k2, HI3.out, hT2.wide (by omega), HP2.out.trans HX.out.symm⟩
  have a0b := (nil_beq a).2 a0
  have hkp := kkeep_is hI3 a (by omega) (by have := hT2.fb; omega) (by rw [HA.out] at a0 ⊢; exact serve_seald a0)
  clear hI3
  go_wp2_with fail
  refine hkp.mono ?_
  rintro e w4 ⟨rfl, k4, hk4, hT4, hp4⟩
  have g7 := hk4.at_.1 7 _ rfl
  have hT4' := hT2.trans hT4
  rw [hT4'.q] at g7
  have HK4 := Hid.mk hk4
  have HP4 := Hid.mk hp4
  clear hkp f7 hp4 hT4
  by_cases a2 : bits .and .i64 how 2 = 2
  · have a2b : (bits .and .i64 how 2 == 2) = true := by rw [beq_iff_eq]; exact a2
    have HX : Hid (roundP k.pu n how = (k.pu.keep q).keep a) := by
      show _ = _
      unfold roundP
      rw [if_neg a1, ← HQ.out, ← HA.out, if_neg a0, if_pos a2]
    clear hk4
    go_wp2
    (try simp only [Exit.inBlock, Exit.then]); refine bodyPost_ret (results_none rfl _ _ _) rfl ?_
    exact ⟨rfl, k4, HK4.out, hT4', (HP4.out.trans (congrArg (fun x => x.keep a) HP2.out)).trans HX.out.symm⟩
  have a2b : (bits .and .i64 how 2 == 2) = false := by rw [beq_eq_false_iff_ne]; exact a2
  have hrc := krecv_is hk4 (n := n) (by rw [hT4'.len]; exact hn) a (by omega)
  rw [hT4'.q] at hrc
  clear hk4
  go_wp2_with fail
  refine hrc.mono ?_
  rintro e w5 ⟨rfl, k5, hk5, hT5, hp5⟩
  have hT5' := hT4'.trans hT5
  have i7 := hk5.at_.1 7 _ rfl
  rw [hT5'.q] at i7
  have HK5 := Hid.mk hk5
  have HP5 : Hid (k5.pu = ((k.pu.keep q).keep a).recv n a) := hp5.trans (congrArg (fun x => x.recv n a) (HP4.out.trans (congrArg (fun x => x.keep a) HP2.out)))
  clear hrc g7 hp5 hT5
  by_cases a4 : bits .and .i64 how 4 = 4
  · have a4b : (bits .and .i64 how 4 == 4) = true := by rw [beq_iff_eq]; exact a4
    have HX : Hid (roundP k.pu n how = (((k.pu.keep q).keep a).recv n a).recv n a) := by
      show _ = _
      unfold roundP
      rw [if_neg a1, ← HQ.out, ← HA.out, if_neg a0, if_neg a2, if_pos a4]
    have hrc := krecv_is hk5 (n := n) (by rw [hT5'.len]; exact hn) a (by omega)
    rw [hT5'.q] at hrc
    clear hk5
    go_wp2_with fail
    refine hrc.mono ?_
    rintro e w6 ⟨rfl, k6, hk6, hT6, hp6⟩
    have HK6 := Hid.mk hk6
    have HP6 := Hid.mk hp6
    clear hk6 hp6 hrc i7
    go_wp2
    go_end0
    exact ⟨rfl, k6, HK6.out, hT5'.trans hT6, (HP6.out.trans (congrArg (fun x => x.recv n a) HP5.out)).trans HX.out.symm⟩
  · have a4b : (bits .and .i64 how 4 == 4) = false := by rw [beq_eq_false_iff_ne]; exact a4
    have HX : Hid (roundP k.pu n how = ((k.pu.keep q).keep a).recv n a) := by
      show _ = _
      unfold roundP
      rw [if_neg a1, ← HQ.out, ← HA.out, if_neg a0, if_neg a2, if_neg a4]
    clear hk5
    go_wp2
    go_end0
    exact ⟨rfl, k5, HK5.out, hT5', HP5.out.trans HX.out.symm⟩

theorem half_range {b : Int} (h : I64 b) : I64 (b.tdiv 2) := by
  unfold I64 at *
  rcases Int.le_total 0 b with h1 | h1
  · rw [Int.tdiv_eq_ediv_of_nonneg h1]; omega
  · have : b.tdiv 2 = -((-b).tdiv 2) := by rw [Int.neg_tdiv]; omega
    rw [this, Int.tdiv_eq_ediv_of_nonneg (by omega)]; omega
def oldF (x : KP) (b : Int) : ByteArray := (x.fr[(pickF (b.tdiv 2) (x.fr.length : Int)).toNat]?).getD ⟨#[]⟩
/-- an old frame comes -/
noncomputable def oldP (x : KP) (n : Nat) (b : Int) : KP :=
  if x.fr = [] then x
  else if bits .and .i64 b 1 = 1 then (if (x.serve (oldF x b)).toList = [] then x else (x.keep (x.serve (oldF x b))).recv n (x.serve (oldF x b)))
  else x.recv n (oldF x b)
theorem frames_cell {W0 : World} {p s : Nat} {k : KI} {w : World} (h : KInv W0 p s k w) (hne : k.fr ≠ []) : ∃ g cap, k.vf = .slice (some ⟨g, 0, none⟩) k.fr.length cap ∧ ∀ j (hj : j < k.fr.length), w.cell? ⟨g, j, none⟩ = some (.string k.fr[j]) := by
  have hl : 0 < k.fr.length := List.length_pos_iff.2 hne
  obtain ⟨g, cap, hv, -, -⟩ := World.ownsRow.form h.frames hl
  refine ⟨g, cap, hv, fun j hj => ?_⟩
  have hr := h.frames
  rw [hv] at hr
  have hc := World.ownsRow.cellAt hr j (by simpa using hj)
  rw [hc]
  simp [hj]

set_option maxRecDepth 100000 in
set_option maxHeartbeats 1000000 in
theorem kold_is {W0 : World} {p s : Nat} {k : KI} {w : World} {n : Nat} (h : KInv W0 p s k w) (hs : s ≤ 65600) (hn : n < k.pp.length) (hfb : k.fb ≤ 900000000000) (b : Int) (hb : I64 b) :
    Calls Tryz.prog 76 #[.pointer (some ⟨p, 0, none⟩), .int .i64 (n : Int), .int .i64 b] w (RTo W0 p s k 1 (oldP k.pu n b)) := by
  have c7 := h.at_.1 7 _ rfl
  have c18 := h.at_.1 18 _ rfl
  have HI := Hid.mk h
  by_cases hne : k.fr = []
  · have hr := h.frames
    rw [hne] at hr
    obtain ⟨av, capv, hv⟩ := own_slice hr
    have c18' : w.cell? ⟨p, 18, none⟩ = some (.slice av 0 capv) := by rw [c18, hv]; rfl
    have HX : Hid (oldP k.pu n b = k.pu) := by
      show _ = _
      unfold oldP
      rw [if_pos (show k.pu.fr = [] from hne)]
    clear h hr c18 hv
    go_enter Tryz.func76, Tryz.ntmps76
    go_wp2
    (try simp only [Exit.inBlock, Exit.then]); refine bodyPost_ret (results_none rfl _ _ _) rfl ?_
    exact ⟨rfl, k, HI.out, KTo.refl k 1, HX.out.symm⟩
  obtain ⟨g, cap, hv, hx⟩ := frames_cell h hne
  have hl : 0 < k.fr.length := List.length_pos_iff.2 hne
  have hfl := h.flen
  have hpk := fun wx => pick_is (b.tdiv 2) (k.fr.length : Int) wx (half_range hb) (by omega) (by omega)
  obtain ⟨h1, h2⟩ := pickF_range (b.tdiv 2) (k.fr.length : Int) (by omega)
  obtain ⟨m, hm⟩ := Int.eq_ofNat_of_zero_le h1
  have hml : m < k.fr.length := by omega
  have hOF : oldF k.pu b = k.fr[m] := by
    show (k.fr[(pickF (b.tdiv 2) (k.fr.length : Int)).toNat]?).getD ⟨#[]⟩ = _
    rw [hm, Int.toNat_natCast, List.getElem?_eq_getElem hml]; rfl
  have hfs := h.fsz _ (List.getElem_mem hml)
  rw [hm] at hpk
  have hxm := hx m hml
  have c18' : w.cell? ⟨p, 18, none⟩ = some (.slice (some ⟨g, 0, none⟩) k.fr.length cap) := by rw [c18, hv]
  have hsv := fun wx (b' : Bel w wx) => kserve_is (h.later b') hs k.fr[m] hfs
  have hrc := fun wx (b' : Bel w wx) => krecv_is (h.later b') hn k.fr[m] hfs
  have hsz2 := KP.serve_size k.pu k.fr[m]
  have hlz : ((k.fr.length : Int) == 0) = false := by rw [beq_eq_false_iff_ne]; omega
  have HN : Hid (∀ y, (bits .and .i64 b 1 = 1 → y = (if (k.pu.serve k.fr[m]).toList = [] then k.pu else (k.pu.keep (k.pu.serve k.fr[m])).recv n (k.pu.serve k.fr[m]))) → (¬ bits .and .i64 b 1 = 1 → y = k.pu.recv n k.fr[m]) → y = oldP k.pu n b) := fun y y1 y2 => by
    unfold oldP
    rw [if_neg (show ¬ k.pu.fr = [] from hne), hOF]
    split
    · rename_i ha; exact y1 ha
    · rename_i ha; exact y2 ha
  clear h1 h2 hm hx hOF h c18 hv hne hfs
  generalize k.fr[m] = f at *
  generalize k.fr.length = nn at *
  obtain ⟨a, ha⟩ : ∃ a, a = k.pu.serve f := ⟨_, rfl⟩
  rw [← ha] at hsv hsz2 HN
  have HA := Hid.mk ha
  clear ha
  unfold I64 at hb
  go_enter Tryz.func76, Tryz.ntmps76
  go_wp2_with fail
  go_quiet ((go_at_call 70; refine Calls.quiet_of_same ((hpk _).mono fun e w2 h => ⟨h.1, h.2.symm⟩)))
  by_cases a1 : bits .and .i64 b 1 = 1
  rotate_left
  · have a1b : (bits .and .i64 b 1 == 1) = false := by rw [beq_eq_false_iff_ne]; exact a1
    have HY : Hid (k.pu.recv n f = oldP k.pu n b) := HN.out _ (fun e => absurd e a1) (fun _ => rfl)
    clear hsv HN
    go_wp2_with fail
    refine (hrc _ (by (repeat (first | exact Bel.refl _ | assumption | refine Bel.step_alloc ?_ _ | refine Bel.step_drew ?_ | refine Bel.step_drewN ?_ _ | refine Bel.step_set ?_ (by simp <;> omega) _ | refine Bel.trans ?_ (by assumption))))).mono ?_
    rintro e w5 ⟨rfl, k5, hk5, hT5, hp5⟩
    have HK5 := Hid.mk hk5
    have HP5 := Hid.mk hp5
    clear hk5 hp5 hrc
    go_wp2
    go_end0
    exact ⟨rfl, k5, HK5.out, hT5.wide (by omega), HP5.out.trans HY.out⟩
  have a1b : (bits .and .i64 b 1 == 1) = true := by rw [beq_iff_eq]; exact a1
  clear hrc
  go_wp2_with fail
  refine (hsv _ (by (repeat (first | exact Bel.refl _ | assumption | refine Bel.step_alloc ?_ _ | refine Bel.step_drew ?_ | refine Bel.step_drewN ?_ _ | refine Bel.step_set ?_ (by simp <;> omega) _ | refine Bel.trans ?_ (by assumption))))).mono ?_
  rintro e w3 ⟨rfl, hb3⟩
  have hbw : Bel w w3 := Bel.trans (by (repeat (first | exact Bel.refl _ | assumption | refine Bel.step_alloc ?_ _ | refine Bel.step_drew ?_ | refine Bel.step_drewN ?_ _ | refine Bel.step_set ?_ (by simp <;> omega) _ | refine Bel.trans ?_ (by assumption)))) hb3
  have hI3 := HI.out.later hbw
  have f7 := hbw.cell c7
  clear hsv
  by_cases a0 : a.toList = []
  · have a0b := (nil_beq a).1 a0
    have HY : Hid (k.pu = oldP k.pu n b) := HN.out _ (fun _ => by rw [if_pos a0]) (fun e => absurd a1 e)
    have HI3 := Hid.mk hI3
    clear hI3 HN
    go_wp2
    (try simp only [Exit.inBlock, Exit.then]); refine bodyPost_ret (results_none rfl _ _ _) rfl ?_
    exact ⟨rfl, k, HI3.out, KTo.refl k 1, HY.out⟩
  have a0b := (nil_beq a).2 a0
  have HY : Hid ((k.pu.keep a).recv n a = oldP k.pu n b) := HN.out _ (fun _ => by rw [if_neg a0]) (fun e => absurd a1 e)
  have hkp := kkeep_is hI3 a (by omega) (by omega) (by rw [HA.out] at a0 ⊢; exact serve_seald a0)
  clear hI3 HN
  go_wp2_with fail
  refine hkp.mono ?_
  rintro e w4 ⟨rfl, k4, hk4, hT4, hp4⟩
  have g7 := hk4.at_.1 7 _ rfl
  rw [hT4.q] at g7
  have HP4 := Hid.mk hp4
  have hrc := krecv_is hk4 (n := n) (by rw [hT4.len]; exact hn) a (by omega)
  rw [hT4.q] at hrc
  clear hkp f7 hp4 hk4
  go_wp2_with fail
  refine hrc.mono ?_
  rintro e w5 ⟨rfl, k5, hk5, hT5, hp5⟩
  have HK5 := Hid.mk hk5
  have HP5 := Hid.mk hp5
  clear hk5 hp5 hrc g7
  go_wp2
  go_end0
  exact ⟨rfl, k5, HK5.out, hT4.trans hT5, (HP5.out.trans (congrArg (fun x => x.recv n a) HP4.out)).trans HY.out⟩

end Go.Proofs.YtpapdkhjdelfcabGreat

namespace Go.Proofs.YtpapdkhjdelfcabGreat
open Go.RowKit

theorem xor4 (a b P : BitVec 32) : a ^^^ b = a ^^^ P ^^^ (b ^^^ P) := by
  apply BitVec.eq_of_getLsbD_eq
  intro i hi
  rw [BitVec.getLsbD_xor, BitVec.getLsbD_xor, BitVec.getLsbD_xor, BitVec.getLsbD_xor]
  cases a.getLsbD i <;> cases b.getLsbD i <;> cases P.getLsbD i <;> rfl
theorem cStep_lin (x y : BitVec 32) : cStep (x ^^^ y) = cStep x ^^^ cStep y := by
  unfold cStep
  have hsh : (x ^^^ y) >>> 1 = (x >>> 1) ^^^ (y >>> 1) := by
    apply BitVec.eq_of_getLsbD_eq
    intro i hi
    simp
  rw [hsh, BitVec.getLsbD_xor]
  generalize x >>> 1 = a
  generalize y >>> 1 = b
  cases x.getLsbD 0 <;> cases y.getLsbD 0
  · simp
  · simp only [Bool.false_bne, Bool.false_eq_true, if_false, if_true, BitVec.xor_zero]
    rw [BitVec.xor_assoc]
  · simp only [Bool.bne_false, Bool.false_eq_true, if_false, if_true, BitVec.xor_zero]
    rw [BitVec.xor_assoc, BitVec.xor_comm b, ← BitVec.xor_assoc]
  · simp only [bne_self_eq_false, Bool.false_eq_true, if_false, if_true, BitVec.xor_zero]
    exact xor4 _ _ _
theorem cStep_zero {z : BitVec 32} (h : cStep z = 0#32) : z = 0#32 := by
  unfold cStep at h
  have h31 : ((z >>> 1) ^^^ (if z.getLsbD 0 then 0xEDB88320#32 else 0#32)).getLsbD 31 = false := by rw [h]; rfl
  rw [BitVec.getLsbD_xor, BitVec.getLsbD_ushiftRight] at h31
  have hz : z.getLsbD (1 + 31) = false := BitVec.getLsbD_of_ge _ _ (by omega)
  rw [hz] at h31
  cases h0 : z.getLsbD 0
  · rw [h0] at h
    simp only [Bool.false_eq_true, if_false, BitVec.xor_zero] at h
    apply BitVec.eq_of_getLsbD_eq
    intro i hi
    rw [BitVec.getLsbD_zero]
    cases i with
    | zero => exact h0
    | succ i =>
      have : (z >>> 1).getLsbD i = false := by rw [h]; exact BitVec.getLsbD_zero
      rw [BitVec.getLsbD_ushiftRight, Nat.add_comm] at this
      exact this
  · rw [h0] at h31
    simp only [if_true] at h31
    exact absurd h31 (by decide)
theorem cStep_inj {x y : BitVec 32} (h : cStep x = cStep y) : x = y := by
  have h1 : cStep (x ^^^ y) = 0#32 := by rw [cStep_lin, h, BitVec.xor_self]
  have h2 := cStep_zero h1
  have h3 : x ^^^ y ^^^ y = 0#32 ^^^ y := by rw [h2]
  rwa [BitVec.xor_assoc, BitVec.xor_self, BitVec.xor_zero, BitVec.zero_xor] at h3
theorem stepN_in (c : BitVec 32) (j : Nat) : stepN (cStep c) j = cStep (stepN c j) := by
  induction j with
  | zero => rfl
  | succ j ih => rw [stepN, ih]; rfl
theorem stepN_inj {x y : BitVec 32} (j : Nat) (h : stepN x j = stepN y j) : x = y := by
  induction j with
  | zero => exact h
  | succ j ih => exact ih (cStep_inj h)
def bit1 (d : Bool) : BitVec 32 := if d then 1#32 else 0#32
/-- one bit more into a sum -/
def aStep (c : BitVec 32) (d : Bool) : BitVec 32 := cStep (c ^^^ bit1 d)
def numE : List Bool → BitVec 32
  | [] => 0#32
  | d :: ds => bit1 d ^^^ (numE ds <<< 1)
theorem bit1_get (d : Bool) (i : Nat) : (bit1 d).getLsbD i = (d && decide (i = 0)) := by
  cases d
  · simp [bit1]
  · simp only [bit1, if_true, Bool.true_and]
    rw [BitVec.getLsbD_one]
    simp
theorem numE_get (ds : List Bool) (i : Nat) (hi : i < 32) : (numE ds).getLsbD i = (ds[i]?).getD false := by
  induction ds generalizing i with
  | nil => simp [numE]
  | cons d ds ih =>
    rw [numE, BitVec.getLsbD_xor, bit1_get, BitVec.getLsbD_shiftLeft]
    cases i with
    | zero => simp
    | succ i =>
      have := ih i (by omega)
      simp [this, hi]
theorem numE_inj {a b : List Bool} (hl : a.length = b.length) (h32 : a.length ≤ 32) (h : numE a = numE b) : a = b := by
  apply List.ext_getElem hl
  intro i h1 h2
  have e1 := numE_get a i (by omega)
  have e2 := numE_get b i (by omega)
  rw [h, e2] at e1
  simpa [h1, h2] using e1.symm
theorem shl_back {x : BitVec 32} (h : x.getLsbD 31 = false) : (x <<< 1) >>> 1 = x := by
  apply BitVec.eq_of_getLsbD_eq
  intro i hi
  rw [BitVec.getLsbD_ushiftRight, BitVec.getLsbD_shiftLeft]
  by_cases h31 : i = 31
  · subst h31; rw [h]; simp
  · have : 1 + i < 32 := by omega
    simp [this]
theorem cStep_shl {x : BitVec 32} (h : x.getLsbD 31 = false) : cStep (x <<< 1) = x := by
  unfold cStep
  have h0 : (x <<< 1).getLsbD 0 = false := by rw [BitVec.getLsbD_shiftLeft]; simp
  rw [h0, shl_back h]
  simp
theorem absorb_is (ds : List Bool) (c : BitVec 32) (h : ds.length ≤ 32) : ds.foldl aStep c = stepN (c ^^^ numE ds) ds.length := by
  induction ds generalizing c with
  | nil => simp [numE, stepN]
  | cons d ds ih =>
    rw [List.foldl_cons, ih _ (by simp only [List.length_cons] at h; omega), List.length_cons, stepN, ← stepN_in]
    congr 1
    have h31 : (numE ds).getLsbD 31 = false := by
      rw [numE_get ds 31 (by omega), List.getElem?_eq_none (by simp only [List.length_cons] at h; omega)]; rfl
    rw [numE, ← BitVec.xor_assoc, cStep_lin (c ^^^ bit1 d), cStep_shl h31]
    rfl
theorem fold_inj (ds : List Bool) {x y : BitVec 32} (h : ds.foldl aStep x = ds.foldl aStep y) : x = y := by
  induction ds generalizing x y with
  | nil => exact h
  | cons d ds ih =>
    have h1 := cStep_inj (ih h)
    have h3 : x ^^^ bit1 d ^^^ bit1 d = y ^^^ bit1 d ^^^ bit1 d := by rw [h1]
    rwa [BitVec.xor_assoc, BitVec.xor_assoc, BitVec.xor_self, BitVec.xor_zero, BitVec.xor_zero] at h3
/-- bits of bytes, the low one first -/
def bits8 (b : UInt8) : List Bool := (List.range 8).map fun k => b.toNat.testBit k
def lbits (l : List UInt8) : List Bool := l.flatMap bits8
theorem bits8_len (b : UInt8) : (bits8 b).length = 8 := by simp [bits8]
theorem numE_bits8 (b : UInt8) : numE (bits8 b) = BitVec.ofNat 32 b.toNat := by
  apply BitVec.eq_of_getLsbD_eq
  intro i hi
  rw [numE_get _ _ hi, BitVec.getLsbD_ofNat]
  have hb := b.toNat_lt
  by_cases h8 : i < 8
  · simp [bits8, h8, hi]
  · have : b.toNat.testBit i = false := Nat.testBit_lt_two_pow (Nat.lt_of_lt_of_le hb (Nat.pow_le_pow_right (by omega) (by omega : 8 ≤ i)))
    simp [bits8, h8, this]
theorem cByte_bits (c : BitVec 32) (b : UInt8) : cByte c b = (bits8 b).foldl aStep c := by
  rw [absorb_is _ _ (by rw [bits8_len]; omega), bits8_len, numE_bits8, cByte_step]
theorem crc_bits (l : List UInt8) (c : BitVec 32) : l.foldl cByte c = (lbits l).foldl aStep c := by
  induction l generalizing c with
  | nil => rfl
  | cons b l ih =>
    rw [List.foldl_cons, ih, cByte_bits]
    show _ = (bits8 b ++ lbits l).foldl aStep c
    rw [List.foldl_append]
theorem byte_bit (x q k : Nat) (hk : k < 8) : (UInt8.ofNat (x / 2 ^ q)).toNat.testBit k = x.testBit (q + k) := by
  rw [UInt8.toNat_ofNat', Nat.testBit_mod_two_pow, Nat.testBit_div_two_pow]
  simp [hk, Nat.add_comm]
theorem sum_num (x : BitVec 32) : numE (lbits (sumB x)) = x := by
  apply BitVec.eq_of_getLsbD_eq
  intro i hi
  rw [numE_get _ _ hi]
  have e : lbits (sumB x) = (List.range 8).map (fun k => x.toNat.testBit (0 + k)) ++ ((List.range 8).map (fun k => x.toNat.testBit (8 + k)) ++ ((List.range 8).map (fun k => x.toNat.testBit (16 + k)) ++ ((List.range 8).map (fun k => x.toNat.testBit (24 + k)) ++ []))) := by
    unfold lbits sumB bits8
    simp only [List.flatMap_cons, List.flatMap_nil]
    congr 1
    · exact List.map_congr_left fun k hk => by have := byte_bit x.toNat 0 k (List.mem_range.1 hk); rwa [Nat.pow_zero, Nat.div_one] at this
    congr 1
    · exact List.map_congr_left fun k hk => byte_bit x.toNat 8 k (List.mem_range.1 hk)
    congr 1
    · exact List.map_congr_left fun k hk => byte_bit x.toNat 16 k (List.mem_range.1 hk)
    congr 1
    · exact List.map_congr_left fun k hk => byte_bit x.toNat 24 k (List.mem_range.1 hk)
  have e2 : lbits (sumB x) = (List.range 32).map (fun k => x.toNat.testBit k) := by rw [e]; rfl
  rw [e2]
  simp [hi, BitVec.getLsbD]
/-- the sum of a whole sealed text is always the same -/
theorem seal_sum {l b : List UInt8} (h : openB l = some b) : (lbits l).foldl aStep 0xFFFFFFFF#32 = stepN 0xFFFFFFFF#32 32 := by
  unfold openB at h
  split at h
  · cases h
  · rename_i hl
    split at h
    · rename_i hs
      have e : l = l.take (l.length - 4) ++ sumB (crcB (l.take (l.length - 4))) := by rw [← hs, List.take_append_drop]
      generalize l.take (l.length - 4) = a at *
      rw [e]
      have e1 : lbits (a ++ sumB (crcB a)) = lbits a ++ lbits (sumB (crcB a)) := by unfold lbits; rw [List.flatMap_append]
      have e2 : (lbits (sumB (crcB a))).length = 32 := by simp [lbits, sumB, bits8_len]
      rw [e1, List.foldl_append, absorb_is _ _ (by omega), e2, sum_num, ← crc_bits]
      unfold crcB
      rw [← BitVec.xor_assoc, BitVec.xor_self, BitVec.zero_xor]
    · cases h
def bitAt (l : List UInt8) (i : Nat) : Bool := ((l[i / 8]?).getD 0).toNat.testBit (i % 8)
theorem lbits_len (l : List UInt8) : (lbits l).length = 8 * l.length := by
  induction l with
  | nil => rfl
  | cons b l ih =>
    show (bits8 b ++ lbits l).length = _
    rw [List.length_append, bits8_len, ih, List.length_cons]; omega
theorem lbits_get (l : List UInt8) (i : Nat) (hi : i < 8 * l.length) : (lbits l)[i]? = some (bitAt l i) := by
  induction l generalizing i with
  | nil => simp at hi
  | cons b l ih =>
    show (bits8 b ++ lbits l)[i]? = _
    rw [List.getElem?_append]
    by_cases h8 : i < 8
    · rw [if_pos (by rw [bits8_len]; exact h8)]
      have e1 : i / 8 = 0 := by omega
      have e2 : i % 8 = i := by omega
      simp [bits8, h8, bitAt, e1, e2]
    · rw [if_neg (by rw [bits8_len]; exact h8), bits8_len, ih (i - 8) (by simp only [List.length_cons] at hi; omega)]
      have e1 : i / 8 = (i - 8) / 8 + 1 := by omega
      have e2 : (i - 8) % 8 = i % 8 := by omega
      unfold bitAt
      rw [e1, e2, List.getElem?_cons_succ]
/-- up to thirty-two bits in a row wrong: no sealed text any more -/
theorem burst_kills {l l' b : List UInt8} {p : Nat} (h : openB l = some b) (hl : l'.length = l.length) (hout : ∀ i, i < p ∨ p + 32 ≤ i → bitAt l' i = bitAt l i) (hne : ∃ i, i < 8 * l.length ∧ bitAt l' i ≠ bitAt l i) : openB l' = none := by
  rcases h' : openB l' with _ | b'
  · rfl
  · exfalso
    have s1 := seal_sum h
    have s2 := seal_sum h'
    have hle : (lbits l').length = (lbits l).length := by rw [lbits_len, lbits_len, hl]
    have heq : ∀ i, i < p ∨ p + 32 ≤ i → (lbits l')[i]? = (lbits l)[i]? := fun i hi => by
      by_cases hi8 : i < 8 * l.length
      · rw [lbits_get l i hi8, lbits_get l' i (by omega), hout i hi]
      · rw [List.getElem?_eq_none (by rw [lbits_len]; omega), List.getElem?_eq_none (by rw [lbits_len]; omega)]
    have cut : ∀ L : List Bool, L = L.take p ++ ((L.drop p).take 32 ++ L.drop (p + 32)) := fun L => by
      rw [← List.drop_drop, List.take_append_drop, List.take_append_drop]
    have t1 : (lbits l').take p = (lbits l).take p := by
      apply List.ext_getElem?
      intro i
      rw [List.getElem?_take, List.getElem?_take]
      split
      · rename_i hi; exact heq i (Or.inl hi)
      · rfl
    have t3 : (lbits l').drop (p + 32) = (lbits l).drop (p + 32) := by
      apply List.ext_getElem?
      intro i
      rw [List.getElem?_drop, List.getElem?_drop]
      exact heq _ (Or.inr (by omega))
    rw [← s2, cut (lbits l), cut (lbits l'), t1, t3, List.foldl_append, List.foldl_append, List.foldl_append, List.foldl_append] at s1
    have s3 := fold_inj _ s1
    have hlen : ((lbits l).drop p |>.take 32).length = ((lbits l').drop p |>.take 32).length := by simp [hle]
    have h32 : ((lbits l).drop p |>.take 32).length ≤ 32 := by rw [List.length_take]; omega
    rw [absorb_is ((lbits l).drop p |>.take 32) _ h32, absorb_is ((lbits l').drop p |>.take 32) _ (by rw [← hlen]; exact h32), ← hlen] at s3
    have s4 := stepN_inj _ s3
    have s5 : numE ((lbits l).drop p |>.take 32) = numE ((lbits l').drop p |>.take 32) := by
      have x := congrArg (fun y => (((lbits l).take p).foldl aStep 0xFFFFFFFF#32) ^^^ y) s4
      simp only [← BitVec.xor_assoc, BitVec.xor_self, BitVec.zero_xor] at x
      exact x
    have s6 := numE_inj hlen h32 s5
    obtain ⟨i, hi, hb⟩ := hne
    have whole : lbits l' = lbits l := by rw [cut (lbits l'), cut (lbits l), t1, t3, s6]
    have g1 := lbits_get l i hi
    have g2 := lbits_get l' i (by omega)
    rw [whole, g1] at g2
    exact hb (Option.some.inj g2).symm

end Go.Proofs.YtpapdkhjdelfcabGreat

namespace Go.Proofs.YtpapdkhjdelfcabGreat
open Go.RowKit

/-- one bit turned -/
def flipB (l : List UInt8) (i : Nat) : List UInt8 := l.set (i / 8) (((l[i / 8]?).getD 0) ^^^ UInt8.ofNat (2 ^ (i % 8)))
/-- bits from p on turned, as the bytes s say -/
def burstN (l : List UInt8) (p : Nat) (s : Nat → Bool) : Nat → List UInt8
  | 0 => l
  | k + 1 => if s k = true ∧ p + k < 8 * l.length then flipB (burstN l p s k) (p + k) else burstN l p s k
theorem flipB_len (l : List UInt8) (i : Nat) : (flipB l i).length = l.length := List.length_set
theorem burstN_len (l : List UInt8) (p : Nat) (s : Nat → Bool) (k : Nat) : (burstN l p s k).length = l.length := by
  induction k with
  | zero => rfl
  | succ k ih => rw [burstN]; split <;> simp [flipB_len, ih]
theorem flipB_bit (l : List UInt8) (i j : Nat) (hi : i < 8 * l.length) : bitAt (flipB l i) j = (bitAt l j != decide (i = j)) := by
  unfold bitAt flipB
  by_cases hq : i / 8 = j / 8
  · rw [← hq, List.getElem?_set_self (by omega)]
    simp only [Option.getD_some]
    rw [UInt8.toNat_xor, Nat.testBit_xor, UInt8.toNat_ofNat']
    congr 1
    have h1 : i % 8 < 8 := Nat.mod_lt _ (by omega)
    have h2 : 2 ^ (i % 8) < 2 ^ 8 := Nat.pow_lt_pow_right (by omega) h1
    rw [Nat.mod_eq_of_lt h2, Nat.testBit_two_pow]
    by_cases e : i = j
    · subst e; simp
    · rw [decide_eq_false e, decide_eq_false (by omega)]
  · rw [List.getElem?_set_ne hq]
    have e : i ≠ j := fun e => hq (by rw [e])
    simp [e]
theorem burstN_bit (l : List UInt8) (p : Nat) (s : Nat → Bool) (k j : Nat) : bitAt (burstN l p s k) j = (bitAt l j != (decide (p ≤ j ∧ j < p + k ∧ j < 8 * l.length) && s (j - p))) := by
  induction k with
  | zero =>
    have : decide (p ≤ j ∧ j < p + 0 ∧ j < 8 * l.length) = false := decide_eq_false (by omega)
    rw [this]
    simp [burstN]
  | succ k ih =>
    rw [burstN]
    by_cases hc : s k = true ∧ p + k < 8 * l.length
    · rw [if_pos hc, flipB_bit _ _ _ (by rw [burstN_len]; exact hc.2), ih]
      by_cases hj : p + k = j
      · subst hj
        have h1 : decide (p ≤ p + k ∧ p + k < p + k ∧ p + k < 8 * l.length) = false := decide_eq_false (by omega)
        have h2 : decide (p ≤ p + k ∧ p + k < p + (k + 1) ∧ p + k < 8 * l.length) = true := decide_eq_true ⟨by omega, by omega, hc.2⟩
        rw [h1, h2, Nat.add_sub_cancel_left, hc.1]
        simp
      · have h1 : decide (p ≤ j ∧ j < p + k ∧ j < 8 * l.length) = decide (p ≤ j ∧ j < p + (k + 1) ∧ j < 8 * l.length) := decide_eq_decide.2 (by omega)
        rw [h1, decide_eq_false hj]
        simp
    · rw [if_neg hc, ih]
      by_cases hj : p + k = j
      · subst hj
        have h1 : decide (p ≤ p + k ∧ p + k < p + k ∧ p + k < 8 * l.length) = false := decide_eq_false (by omega)
        rw [h1, Nat.add_sub_cancel_left]
        by_cases h8 : p + k < 8 * l.length
        · have : s k = false := by
            cases hs : s k
            · rfl
            · exact absurd ⟨hs, h8⟩ hc
          simp [this]
        · simp [h8]
      · have h1 : decide (p ≤ j ∧ j < p + k ∧ j < 8 * l.length) = decide (p ≤ j ∧ j < p + (k + 1) ∧ j < 8 * l.length) := decide_eq_decide.2 (by omega)
        rw [h1]
/-- behind a burst that is none a text is not sealed -/
theorem burst_none {l b : List UInt8} {p k : Nat} {s : Nat → Bool} (h : openB l = some b) (hk : k ≤ 32) (hs : ∃ j, j < k ∧ s j = true ∧ p + j < 8 * l.length) : openB (burstN l p s k) = none := by
  refine burst_kills (p := p) h (burstN_len _ _ _ _) (fun i hi => ?_) ?_
  · rw [burstN_bit, decide_eq_false (by omega)]
    simp
  · obtain ⟨j, hj, hsj, h8⟩ := hs
    refine ⟨p + j, h8, ?_⟩
    rw [burstN_bit, decide_eq_true ⟨by omega, by omega, h8⟩, Nat.add_sub_cancel_left, hsj]
    cases bitAt l (p + j) <;> simp
theorem pow_u8 (m : Nat) (h : m < 8) : (2 : Int) ^ m % 256 = ((UInt8.ofNat (2 ^ m)).toNat : Int) := by
  rw [UInt8.toNat_ofNat']
  rcases (show m = 0 ∨ m = 1 ∨ m = 2 ∨ m = 3 ∨ m = 4 ∨ m = 5 ∨ m = 6 ∨ m = 7 by omega) with rfl | rfl | rfl | rfl | rfl | rfl | rfl | rfl <;> rfl
theorem u8_xor (x y : UInt8) : bits .xor .u8 (x.toNat : Int) (y.toNat : Int) = ((x ^^^ y).toNat : Int) := by
  have hx := x.toNat_lt
  have hy := y.toNat_lt
  show IntKind.u8.wrap ((BitVec.ofInt 8 (x.toNat : Int) ^^^ BitVec.ofInt 8 (y.toNat : Int)).toNat : Int) = _
  have hz : x.toNat ^^^ y.toNat < 2 ^ 8 := Nat.xor_lt_two_pow (by omega) (by omega)
  have e : ∀ z : UInt8, (BitVec.ofInt 8 (z.toNat : Int)).toNat = z.toNat := fun z => by
    have := z.toNat_lt
    rw [BitVec.toNat_ofInt]
    omega
  rw [BitVec.toNat_xor, e, e, IntKind.wrap_u8, UInt8.toNat_xor]
  omega

end Go.Proofs.YtpapdkhjdelfcabGreat
