import Derived.Test.YtpapdkhjdelfcabGreatOAI
import Derived.Test.YtpapdkhjdelfcabGreatOAG
import Derived.Test.YtpapdkhjdelfcabGreatOAH
import Derived.Deep.QuietTactic
import Derived.BigQuiet
namespace Go.Proofs.YtpapdkhjdelfcabGreat
open Go.RowKit

theorem Tr_join {on : Cfg} {bs : List (List BK)} {g : Int} {B : List BK} {fr : List ByteArray} {pl : List Pln} {hd : List Int} {fm : Nat} (h : TruP on bs g B fr pl hd) (hl : hd.length = pl.length) : TruP on bs g B fr (pl ++ [plnNew fm]) (hd ++ [0]) := by
  refine ⟨h.hist, h.glen, h.last, h.frT, fun p hp => ?_, fun n x p hx hp => ?_⟩
  · rcases List.mem_append.1 hp with e | e
    · exact h.plT p e
    · rw [List.mem_singleton.1 e]; exact new_true _ _ _
  · by_cases hn : n < hd.length
    · rw [List.getElem?_append_left hn] at hx
      rw [List.getElem?_append_left (by omega)] at hp
      exact h.hdT n x p hx hp
    · have hn2 : n = hd.length := by
        have := (List.getElem?_eq_some_iff.1 hx).1
        rw [List.length_append, List.length_singleton] at this
        omega
      rw [List.getElem?_append_right (by omega), hn2, Nat.sub_self] at hx
      have : (0 : Int) = x := Option.some.inj hx
      omega
set_option maxRecDepth 100000 in
set_option maxHeartbeats 1000000 in
theorem step_join (W0 : World) (p s : Nat) (k : KI) (a b c : Int) (S : ByteArray) (w : World) (h : KInv W0 p s k w) (hR : k.Rdy s) (ha : I64 a) :
    Calls Tryz.prog 36 #[.pointer (some ⟨p, 0, none⟩), opV 6 a b c S] w (RStep W0 p (s + 1) FS) := by
  have hpk := fun wx => pick_is a 3 wx ha (by omega) (by omega)
  obtain ⟨h1, h2⟩ := pickF_range a 3 (by omega)
  obtain ⟨m, hm⟩ := Int.eq_ofNat_of_zero_le h1
  rw [hm] at hpk h2
  have hlen := h.hlen
  have hslen := h.slen
  obtain ⟨hR1, hR2, hR3, hR4⟩ := hR
  have HR4 := Hid.mk hR4
  clear hR4
  have c7 := h.at_.1 7 _ rfl
  have c17 := h.at_.1 17 _ rfl
  have hplt := h.at_.lt (by rw [wl_len]; decide)
  have hw0 := h.bel.size
  obtain ⟨ah, caph, hvh⟩ := own_slice h.held
  obtain ⟨asp, caps, hvs⟩ := own_slice h.speaks
  have HI := Hid.mk h
  have hle4 := h.svc.le4
  have hle4' : k.pp.length ≤ 4 := hle4
  by_cases hfull : k.pp.length = 4
  · have hjf := fun wx (b' : Bel w wx) => joinfull_v (h.later b').svc (by show 4 ≤ k.pp.length; omega) (f := 1 + (m : Int)) (by omega)
    have c17' : w.cell? ⟨p, 17, none⟩ = some (.slice ah 4 caph) := by rw [c17, hvh]; congr 2; omega
    clear h hle4 c17 h1 hm
    unfold opV
    go_enter Tryz.func36, Tryz.ntmps36
    go_wp2_with fail
    refine (hpk _).mono ?_
    rintro e w2 ⟨rfl, rfl⟩
    clear hpk
    go_wp2_with fail
    refine (hjf _ (by (repeat (first | exact Bel.refl _ | assumption | refine Bel.step_alloc ?_ _ | refine Bel.step_drew ?_ | refine Bel.step_drewN ?_ _ | refine Bel.step_set ?_ (by simp <;> omega) _ | refine Bel.trans ?_ (by assumption))))).mono ?_
    rintro e w2 ⟨rfl, hb2⟩
    have hbw : Bel w w2 := Bel.trans (by (repeat (first | exact Bel.refl _ | assumption | refine Bel.step_alloc ?_ _ | refine Bel.step_drew ?_ | refine Bel.step_drewN ?_ _ | refine Bel.step_set ?_ (by simp <;> omega) _ | refine Bel.trans ?_ (by assumption)))) hb2
    have d17 := hbw.cell c17'
    clear hjf
    go_wp2
    go_ret
    exact Or.inl ⟨rfl, k, (HI.out.later hbw).up (by omega), ⟨hR1, hR2, Nat.le_trans hR3 (Nat.mul_le_mul_right _ (by omega)), HR4.out⟩⟩
  have hjn := fun wx (b' : Bel w wx) => join_v (h.later b').svc (fun j hj => ((h.later b').lt j hj).2) (by show k.pp.length < 4; omega) (fm := 1 + m) (by omega)
  have em : ((1 + m : Nat) : Int) = 1 + (m : Int) := by omega
  rw [em] at hjn
  have HJ := Hid.mk hjn
  clear h hle4 c17 h1 hm hjn
  obtain ⟨i0, hi, hz0, hz1, hz2⟩ := info_parts Tryz.infoInt
  unfold opV
  go_enter Tryz.func36, Tryz.ntmps36
  go_wp2_with fail
  refine (hpk _).mono ?_
  rintro e w2 ⟨rfl, rfl⟩
  clear hpk
  go_wp2_with fail
  refine (HJ.out _ (by (repeat (first | exact Bel.refl _ | assumption | refine Bel.step_alloc ?_ _ | refine Bel.step_drew ?_ | refine Bel.step_drewN ?_ _ | refine Bel.step_set ?_ (by simp <;> omega) _ | refine Bel.trans ?_ (by assumption))))).mono ?_
  intro e w2 hr
  have hbt : Hid (But (k.q :: k.L) (w.alloc (.cells #[.int .i64 6, .int .i64 a, .int .i64 b, .int .i64 c, .string S] 48)) w2) := by
    obtain ⟨_, _, _, hh, _⟩ := hr
    exact hh
  obtain ⟨rfl, K, L', pz, hk2⟩ := (HI.out.later (Bel.step_alloc (Bel.refl w) _)).joined hr
  have hnq : w.heap.size ∉ (k.q :: k.L) := fun e => by
    have hm : w.heap.size ∈ k.svp.own k.q := List.mem_cons.2 ((List.mem_cons.1 e).imp id (List.mem_append_left _))
    have := (HI.out.lt _ (HI.out.inM _ (List.mem_cons_of_mem _ (List.mem_append_right _ hm)))).2
    omega
  have x0 : w2.cell? ⟨w.heap.size, 0, none⟩ = some (.int .i64 6) := hbt.out.cell (by simp) hnq
  have x7 := hk2.at_.1 7 _ rfl
  have x17 : w2.cell? ⟨p, 17, none⟩ = some (.slice ah k.hd.length caph) := by rw [← hvh]; exact hk2.at_.1 17 _ rfl
  have y17 := hk2.at_.2 17 (by rw [wl_len]; decide)
  have hs2 := Nat.le_trans (by simp : w.heap.size + 1 ≤ (w.alloc (.cells #[.int .i64 6, .int .i64 a, .int .i64 b, .int .i64 c, .string S] 48)).heap.size) hbt.out.size
  have HR2 : Hid (w2.ownsRow W0.heap.size 3 1 (.slice ah k.hd.length caph) k.hd.length (k.hd.map (Value.int .i64))) := by
    show w2.ownsRow _ _ _ _ _ _
    rw [← hvh]; exact hk2.held
  have HK2 := Hid.mk hk2
  have hgl2 : Hid (gl k.vh = (Value.slice ah k.hd.length caph).ownBlock.toList) := by show gl k.vh = _; rw [hvh]; rfl
  have hpn2 : p ∉ gl k.vh := fun e => HI.out.apart.2.2.1 p e rfl
  have hlb : ((k.hd.length : Int) == 4) = false := by rw [beq_eq_false_iff_ne]; omega
  obtain ⟨nh, hnh⟩ : ∃ nh, nh = k.hd.length := ⟨_, rfl⟩
  obtain ⟨xh, hxh⟩ : ∃ xh, xh = k.hd.map (Value.int .i64) := ⟨_, rfl⟩
  rw [← hnh] at x17 HR2 hlb hgl2
  rw [← hxh] at HR2
  have hxl : xh.length = nh := by rw [hxh, hnh, List.length_map]
  have HNH := Hid.mk hnh
  have HXH := Hid.mk hxh
  have hnh1 : nh + k.dh = k.pp.length := by omega
  clear hnh hxh
  clear hk2 hr HJ c7 hbt hnq
  go_wp2_with (first | (at_builtin; refine wpList_append_lies _ rfl _ _ 59 rfl W0.heap.size 3 i0 (.int .i64 0) 1 8 Tryz.underlying59 hi hz0 hz1 hz2 rfl (by decide) _ nh xh rfl ?p1a ⟨w2.heap.size, 0, none⟩ 1 1 [.int .i64 0] rfl rfl ?da1 ?da2 (by decide) ?da3 ?da4 ?da5 _ rfl ?_))
  case p1a => exact World.ownsRow.alloc HR2.out _
  try (case da1 => exact one_new _ _ _ _ (by simp))
  case da2 => first | rfl | (intro u hu; simp at hu; subst hu; rfl)
  case da3 => unfold maxLen; omega
  case da4 => omega
  case da5 => first | omega | (simp; omega)
  intro gh ch w3 hown3 hgrow3 hat3 hlt3
  have b3 : But (gl k.vh) w2 w3 := by rw [hgl2.out]; exact (But.of_bel (Bel.step_alloc (Bel.refl w2) _)).trans (grown_but hgrow3)
  have hat3' : k.vh.ownBlock = some gh ∨ w2.heap.size ≤ gh := by
    rw [hvh, ← HNH.out]
    exact hat3.imp id (fun e => by first | omega | (rw [e]; simp))
  have hk3 := HK2.out.heldApp (x := 0) b3 (by rw [← HNH.out, ← HXH.out]; exact hown3) hat3' (by omega) (by show 1 ≤ k.dh + 1; omega)
  rw [← HNH.out] at hk3
  have z7 := b3.cell x7 hpn2
  have z17 := b3.cell x17 hpn2
  have t17 := b3.frozen x17 hpn2 y17
  have hs3 := b3.size
  have z16 : (w3.setCell ⟨p, 17, none⟩ (.slice (some ⟨gh, 0, none⟩) (nh + 1) ch)).cell? ⟨p, 16, none⟩ = some (.slice asp k.sp.length caps) := by rw [← hvs]; exact hk3.at_.1 16 _ rfl
  have t16 : (w3.setCell ⟨p, 17, none⟩ (.slice (some ⟨gh, 0, none⟩) (nh + 1) ch)).frozen? ⟨p, 16, none⟩ = false := hk3.at_.2 16 (by rw [wl_len]; decide)
  rw [set_other (by simp)] at z16
  rw [frozen_set] at t16
  have HR3 : Hid ((w3.setCell ⟨p, 17, none⟩ (.slice (some ⟨gh, 0, none⟩) (nh + 1) ch)).ownsRow W0.heap.size 3 1 (.slice asp k.sp.length caps) k.sp.length (k.sp.map (Value.int .i64))) := by
    show World.ownsRow _ _ _ _ _ _ _
    rw [← hvs]; exact hk3.speaks
  have HK3 := Hid.mk hk3
  have hgl3 : Hid (gl k.vs = (Value.slice asp k.sp.length caps).ownBlock.toList) := by show gl k.vs = _; rw [hvs]; rfl
  have hpn3 : p ∉ gl k.vs := fun e => HI.out.apart.2.1 p e rfl
  obtain ⟨ns, hns⟩ : ∃ ns, ns = k.sp.length := ⟨_, rfl⟩
  obtain ⟨xs, hxs⟩ : ∃ xs, xs = k.sp.map (Value.int .i64) := ⟨_, rfl⟩
  rw [← hns] at z16 HR3 hgl3
  rw [← hxs] at HR3
  have hxl3 : xs.length = ns := by rw [hxs, hns, List.length_map]
  have HNS := Hid.mk hns
  have HXS := Hid.mk hxs
  have hns1 : ns + k.ds = k.pp.length := by omega
  clear hns hxs
  have x0' : w3.cell? ⟨w.heap.size, 0, none⟩ = some (.int .i64 6) ∨ True := Or.inr trivial
  have hsz3 : (w3.setCell ⟨p, 17, none⟩ (.slice (some ⟨gh, 0, none⟩) (nh + 1) ch)).heap.size = w3.heap.size := size_setCell _ _ _
  clear hown3 hgrow3 hat3 hk3 HK2 HR2 x7 x17 y17 b3 hat3' x0 x0'
  go_wp2_with (first | (at_builtin; refine wpList_append_lies _ rfl _ _ 59 rfl W0.heap.size 3 i0 (.int .i64 0) 1 8 Tryz.underlying59 hi hz0 hz1 hz2 rfl (by decide) _ ns xs rfl ?p1b ⟨w3.heap.size, 0, none⟩ 1 1 [.int .i64 (1 + (m : Int))] rfl rfl ?db1 ?db2 (by decide) ?db3 ?db4 ?db5 _ rfl ?_))
  case p1b => exact World.ownsRow.alloc HR3.out _
  try (case db1 => exact one_new _ _ _ _ (by simp))
  case db2 => first | rfl | (intro u hu; simp at hu; subst hu; rfl)
  case db3 => unfold maxLen; omega
  case db4 => omega
  case db5 => first | omega | (simp; omega)
  intro gs cs w5 hown5 hgrow5 hat5 hlt5
  have b5 : But (gl k.vs) (w3.setCell ⟨p, 17, none⟩ (.slice (some ⟨gh, 0, none⟩) (nh + 1) ch)) w5 := by rw [hgl3.out]; exact (But.of_bel (Bel.step_alloc (Bel.refl _) _)).trans (grown_but hgrow5)
  have hat5' : k.vs.ownBlock = some gs ∨ (w3.setCell ⟨p, 17, none⟩ (.slice (some ⟨gh, 0, none⟩) (nh + 1) ch)).heap.size ≤ gs := by
    rw [hvs, ← HNS.out, hsz3]
    exact hat5.imp id (fun e => by first | omega | (rw [e]; simp))
  have hk5 := HK3.out.spApp (x := 1 + (m : Int)) b5 (by rw [← HNS.out, ← HXS.out]; exact hown5) hat5' (by show 1 ≤ k.ds + 1; omega)
  rw [← HNS.out] at hk5
  have q17 := b5.cell (set_same z17) hpn3
  have q16 := b5.cell (by rw [set_other (by simp)]; exact z16 : (w3.setCell ⟨p, 17, none⟩ (.slice (some ⟨gh, 0, none⟩) (nh + 1) ch)).cell? ⟨p, 16, none⟩ = _) hpn3
  have r16 := b5.frozen (by rw [set_other (by simp)]; exact z16 : (w3.setCell ⟨p, 17, none⟩ (.slice (some ⟨gh, 0, none⟩) (nh + 1) ch)).cell? ⟨p, 16, none⟩ = _) hpn3 (by rw [frozen_set]; exact t16)
  have hpe : ((k.pp.length : Int)) = (nh : Int) := by omega
  have HK5 := Hid.mk hk5
  clear hown5 hgrow5 hat5 hk5 HK3 HR3 z16 z17 t16 t17 b5 hat5'
  rw [hpe]
  go_wp2
  all_goals go_ret
  all_goals exact Or.inl ⟨rfl, _, HK5.out.up (by omega), ⟨by show k.ds + 1 - 1 = 0; omega, by show k.dh + 1 - 1 = 0; omega, Nat.le_trans hR3 (Nat.mul_le_mul_right _ (by omega)), HR4.out.1, HR4.out.2.1, by
    show TruP k.on k.bs k.g k.B k.fr ((k.pp ++ [(pz, plnNew (1 + m), [])]).map fun (y : Nat × Pln × List Nat) => y.2.1) (k.hd ++ [0])
    rw [List.map_append]
    exact Tr_join HR4.out.2.2 (by rw [List.length_map]; omega)⟩⟩

end Go.Proofs.YtpapdkhjdelfcabGreat

namespace Go.Proofs.YtpapdkhjdelfcabGreat
open Go.RowKit

theorem recv_fr (x : KP) (n : Nat) (t : ByteArray) : (x.recv n t).fr = x.fr := by
  unfold KP.recv
  split <;> rfl
/-- a dataplane asks, and is answered -/
noncomputable def roundP (x : KP) (n : Nat) (how : Int) : KP :=
  if bits .and .i64 how 1 = 1 then x.keep (x.tick n)
  else if ((x.keep (x.tick n)).serve (x.tick n)).toList = [] then x.keep (x.tick n)
  else if bits .and .i64 how 2 = 2 then (x.keep (x.tick n)).keep ((x.keep (x.tick n)).serve (x.tick n))
  else if bits .and .i64 how 4 = 4 then (((x.keep (x.tick n)).keep ((x.keep (x.tick n)).serve (x.tick n))).recv n ((x.keep (x.tick n)).serve (x.tick n))).recv n ((x.keep (x.tick n)).serve (x.tick n))
  else ((x.keep (x.tick n)).keep ((x.keep (x.tick n)).serve (x.tick n))).recv n ((x.keep (x.tick n)).serve (x.tick n))
theorem nil_beq (t : ByteArray) : (t.toList = [] → t.toList.isEmpty = true) ∧ (t.toList ≠ [] → t.toList.isEmpty = false) :=
  ⟨fun h => by rw [h]; rfl, fun h => by cases e : t.toList.isEmpty; rfl; exact absurd (List.isEmpty_iff.1 e) h⟩

set_option maxRecDepth 100000 in
set_option maxHeartbeats 1000000 in
theorem kround_is {W0 : World} {p s : Nat} {k : KI} {w : World} {n : Nat} (h : KInv W0 p s k w) (hs : s ≤ 65600) (hn : n < k.pp.length) (hfb : k.fb ≤ 900000000000) (how : Int) :
    Calls Tryz.prog 75 #[.pointer (some ⟨p, 0, none⟩), .int .i64 (n : Int), .int .i64 how] w (RTo W0 p s k 2 (roundP k.pu n how)) := by
  have htk := fun wx (b' : Bel w wx) => ktick_is (h.later b') hn
  have HI := Hid.mk h
  have c7 := h.at_.1 7 _ rfl
  have hsz := KP.tick_size k.pu n
  obtain ⟨q, hq⟩ : ∃ q, q = k.pu.tick n := ⟨_, rfl⟩
  rw [← hq] at htk hsz
  have HQ := Hid.mk hq
  clear h hq
  go_enter Tryz.func75, Tryz.ntmps75
  go_wp2_with fail
  refine (htk _ (by (repeat (first | exact Bel.refl _ | assumption | refine Bel.step_alloc ?_ _ | refine Bel.step_drew ?_ | refine Bel.step_drewN ?_ _ | refine Bel.step_set ?_ (by simp <;> omega) _ | refine Bel.trans ?_ (by assumption))))).mono ?_
  rintro e w1 ⟨rfl, hb1⟩
  have hI1 := HI.out.later hb1
  have hkp := kkeep_is hI1 q (by omega) (by omega) (by rw [HQ.out]; exact tick_seald (by simpa [KI.pu] using hn)) (fun _ => by rw [HQ.out]; exact Tr_tick k n)
  have d7 := hb1.cell c7
  clear htk c7 hI1
  go_wp2_with fail
  refine hkp.mono ?_
  rintro e w2 ⟨rfl, k2, hk2, hT2, hp2⟩
  have e7 := hk2.at_.1 7 _ rfl
  rw [hT2.q] at e7
  clear hkp d7
  have hsv := fun wx (b' : Bel w2 wx) => kserve_is (hk2.later b') hs q (by omega)
  have hsz2 := KP.serve_size k2.pu q
  obtain ⟨a, ha⟩ : ∃ a, a = k2.pu.serve q := ⟨_, rfl⟩
  rw [← ha] at hsv hsz2
  rw [hp2] at ha
  have HA := Hid.mk ha
  have HK2 := Hid.mk hk2
  have HP2 := Hid.mk hp2
  clear hk2 ha hp2
  rw [hT2.q] at hsv
  by_cases a1 : bits .and .i64 how 1 = 1
  · have a1b : (bits .and .i64 how 1 == 1) = true := by rw [beq_iff_eq]; exact a1
    have HX : Hid (roundP k.pu n how = k.pu.keep q) := by
      show _ = _
      unfold roundP
      rw [if_pos a1, HQ.out]
    clear hsv
    go_wp2
    (try simp only [Exit.inBlock, Exit.then]); refine bodyPost_ret (results_none rfl _ _ _) rfl ?_
    exact ⟨rfl, k2, HK2.out, hT2.wide (by omega), HP2.out.trans HX.out.symm⟩
  have a1b : (bits .and .i64 how 1 == 1) = false := by rw [beq_eq_false_iff_ne]; exact a1
  go_wp2_with fail
  refine (hsv _ (by (repeat (first | exact Bel.refl _ | assumption | refine Bel.step_alloc ?_ _ | refine Bel.step_drew ?_ | refine Bel.step_drewN ?_ _ | refine Bel.step_set ?_ (by simp <;> omega) _ | refine Bel.trans ?_ (by assumption))))).mono ?_
  rintro e w3 ⟨rfl, hb3⟩
  have hI3 := HK2.out.later hb3
  have f7 := hb3.cell e7
  clear hsv e7
  by_cases a0 : a.toList = []
  · have a0b := (nil_beq a).1 a0
    have HX : Hid (roundP k.pu n how = k.pu.keep q) := by
      show _ = _
      unfold roundP
      rw [if_neg a1, ← HQ.out, ← HA.out, if_pos a0]
    have HI3 := Hid.mk hI3
    clear hI3
    go_wp2
    (try simp only [Exit.inBlock, Exit.then]); refine bodyPost_ret (results_none rfl _ _ _) rfl ?_
    exact ⟨rfl, k2, HI3.out, hT2.wide (by omega), HP2.out.trans HX.out.symm⟩
  have a0b := (nil_beq a).2 a0
  have hFa : k2.Tr → FrT k2.on k2.bs a := fun hT => by rw [HA.out, ← HP2.out]; exact Tr_serve hT q
  have HFA := Hid.mk hFa
  have hkp := kkeep_is hI3 a (by omega) (by have := hT2.fb; omega) (by rw [HA.out] at a0 ⊢; exact serve_seald a0) hFa
  clear hFa
  clear hI3
  go_wp2_with fail
  refine hkp.mono ?_
  rintro e w4 ⟨rfl, k4, hk4, hT4, hp4⟩
  have g7 := hk4.at_.1 7 _ rfl
  have hT4' := hT2.trans hT4
  have hFb : k4.Tr → FrT k4.on k4.bs a := fun hT => hT.frT a (by have e : k4.fr = (k2.pu.keep a).fr := congrArg KP.fr hp4; rw [e]; exact List.mem_append_right _ (List.mem_singleton.2 rfl))
  have HFB := Hid.mk hFb
  clear hFb
  rw [hT4'.q] at g7
  have HK4 := Hid.mk hk4
  have HP4 := Hid.mk hp4
  clear hkp f7 hp4 hT4
  by_cases a2 : bits .and .i64 how 2 = 2
  · have a2b : (bits .and .i64 how 2 == 2) = true := by rw [beq_iff_eq]; exact a2
    have HX : Hid (roundP k.pu n how = (k.pu.keep q).keep a) := by
      show _ = _
      unfold roundP
      rw [if_neg a1, ← HQ.out, ← HA.out, if_neg a0, if_pos a2]
    clear hk4
    go_wp2
    (try simp only [Exit.inBlock, Exit.then]); refine bodyPost_ret (results_none rfl _ _ _) rfl ?_
    exact ⟨rfl, k4, HK4.out, hT4', (HP4.out.trans (congrArg (fun x => x.keep a) HP2.out)).trans HX.out.symm⟩
  have a2b : (bits .and .i64 how 2 == 2) = false := by rw [beq_eq_false_iff_ne]; exact a2
  have hrc := krecv_is hk4 (n := n) (by rw [hT4'.len]; exact hn) a (by omega) HFB.out
  rw [hT4'.q] at hrc
  clear hk4
  go_wp2_with fail
  refine hrc.mono ?_
  rintro e w5 ⟨rfl, k5, hk5, hT5, hp5⟩
  have hT5' := hT4'.trans hT5
  have i7 := hk5.at_.1 7 _ rfl
  rw [hT5'.q] at i7
  have HK5 := Hid.mk hk5
  have HP5 : Hid (k5.pu = ((k.pu.keep q).keep a).recv n a) := hp5.trans (congrArg (fun x => x.recv n a) (HP4.out.trans (congrArg (fun x => x.keep a) HP2.out)))
  clear hrc g7 hp5 hT5
  by_cases a4 : bits .and .i64 how 4 = 4
  · have a4b : (bits .and .i64 how 4 == 4) = true := by rw [beq_iff_eq]; exact a4
    have HX : Hid (roundP k.pu n how = (((k.pu.keep q).keep a).recv n a).recv n a) := by
      show _ = _
      unfold roundP
      rw [if_neg a1, ← HQ.out, ← HA.out, if_neg a0, if_neg a2, if_pos a4]
    have hrc := krecv_is hk5 (n := n) (by rw [hT5'.len]; exact hn) a (by omega) (fun hT => hT.frT a (by have e : k5.fr = (((k.pu.keep q).keep a).recv n a).fr := congrArg KP.fr HP5.out; rw [e, recv_fr]; exact List.mem_append_right _ (List.mem_singleton.2 rfl)))
    rw [hT5'.q] at hrc
    clear hk5
    go_wp2_with fail
    refine hrc.mono ?_
    rintro e w6 ⟨rfl, k6, hk6, hT6, hp6⟩
    have HK6 := Hid.mk hk6
    have HP6 := Hid.mk hp6
    clear hk6 hp6 hrc i7
    go_wp2
    go_end0
    exact ⟨rfl, k6, HK6.out, hT5'.trans hT6, (HP6.out.trans (congrArg (fun x => x.recv n a) HP5.out)).trans HX.out.symm⟩
  · have a4b : (bits .and .i64 how 4 == 4) = false := by rw [beq_eq_false_iff_ne]; exact a4
    have HX : Hid (roundP k.pu n how = ((k.pu.keep q).keep a).recv n a) := by
      show _ = _
      unfold roundP
      rw [if_neg a1, ← HQ.out, ← HA.out, if_neg a0, if_neg a2, if_neg a4]
    clear hk5
    go_wp2
    go_end0
    exact ⟨rfl, k5, HK5.out, hT5', HP5.out.trans HX.out.symm⟩

theorem half_range {b : Int} (h : I64 b) : I64 (b.tdiv 2) := by
  unfold I64 at *
  rcases Int.le_total 0 b with h1 | h1
  · rw [Int.tdiv_eq_ediv_of_nonneg h1]; omega
  · have : b.tdiv 2 = -((-b).tdiv 2) := by rw [Int.neg_tdiv]; omega
    rw [this, Int.tdiv_eq_ediv_of_nonneg (by omega)]; omega
def oldF (x : KP) (b : Int) : ByteArray := (x.fr[(pickF (b.tdiv 2) (x.fr.length : Int)).toNat]?).getD ⟨#[]⟩
/-- an old frame comes -/
noncomputable def oldP (x : KP) (n : Nat) (b : Int) : KP :=
  if x.fr = [] then x
  else if bits .and .i64 b 1 = 1 then (if (x.serve (oldF x b)).toList = [] then x else (x.keep (x.serve (oldF x b))).recv n (x.serve (oldF x b)))
  else x.recv n (oldF x b)
theorem frames_cell {W0 : World} {p s : Nat} {k : KI} {w : World} (h : KInv W0 p s k w) (hne : k.fr ≠ []) : ∃ g cap, k.vf = .slice (some ⟨g, 0, none⟩) k.fr.length cap ∧ ∀ j (hj : j < k.fr.length), w.cell? ⟨g, j, none⟩ = some (.string k.fr[j]) := by
  have hl : 0 < k.fr.length := List.length_pos_iff.2 hne
  obtain ⟨g, cap, hv, -, -⟩ := World.ownsRow.form h.frames hl
  refine ⟨g, cap, hv, fun j hj => ?_⟩
  have hr := h.frames
  rw [hv] at hr
  have hc := World.ownsRow.cellAt hr j (by simpa using hj)
  rw [hc]
  simp [hj]

set_option maxRecDepth 100000 in
set_option maxHeartbeats 1000000 in
theorem kold_is {W0 : World} {p s : Nat} {k : KI} {w : World} {n : Nat} (h : KInv W0 p s k w) (hs : s ≤ 65600) (hn : n < k.pp.length) (hfb : k.fb ≤ 900000000000) (b : Int) (hb : I64 b) :
    Calls Tryz.prog 76 #[.pointer (some ⟨p, 0, none⟩), .int .i64 (n : Int), .int .i64 b] w (RTo W0 p s k 1 (oldP k.pu n b)) := by
  have c7 := h.at_.1 7 _ rfl
  have c18 := h.at_.1 18 _ rfl
  have HI := Hid.mk h
  by_cases hne : k.fr = []
  · have hr := h.frames
    rw [hne] at hr
    obtain ⟨av, capv, hv⟩ := own_slice hr
    have c18' : w.cell? ⟨p, 18, none⟩ = some (.slice av 0 capv) := by rw [c18, hv]; rfl
    have HX : Hid (oldP k.pu n b = k.pu) := by
      show _ = _
      unfold oldP
      rw [if_pos (show k.pu.fr = [] from hne)]
    clear h hr c18 hv
    go_enter Tryz.func76, Tryz.ntmps76
    go_wp2
    (try simp only [Exit.inBlock, Exit.then]); refine bodyPost_ret (results_none rfl _ _ _) rfl ?_
    exact ⟨rfl, k, HI.out, KTo.refl k 1, HX.out.symm⟩
  obtain ⟨g, cap, hv, hx⟩ := frames_cell h hne
  have hl : 0 < k.fr.length := List.length_pos_iff.2 hne
  have hfl := h.flen
  have hpk := fun wx => pick_is (b.tdiv 2) (k.fr.length : Int) wx (half_range hb) (by omega) (by omega)
  obtain ⟨h1, h2⟩ := pickF_range (b.tdiv 2) (k.fr.length : Int) (by omega)
  obtain ⟨m, hm⟩ := Int.eq_ofNat_of_zero_le h1
  have hml : m < k.fr.length := by omega
  have hOF : oldF k.pu b = k.fr[m] := by
    show (k.fr[(pickF (b.tdiv 2) (k.fr.length : Int)).toNat]?).getD ⟨#[]⟩ = _
    rw [hm, Int.toNat_natCast, List.getElem?_eq_getElem hml]; rfl
  have hfs := h.fsz _ (List.getElem_mem hml)
  rw [hm] at hpk
  have hxm := hx m hml
  have c18' : w.cell? ⟨p, 18, none⟩ = some (.slice (some ⟨g, 0, none⟩) k.fr.length cap) := by rw [c18, hv]
  have hsv := fun wx (b' : Bel w wx) => kserve_is (h.later b') hs k.fr[m] hfs
  have hrc := fun wx (b' : Bel w wx) => krecv_is (h.later b') hn k.fr[m] hfs (fun hT => hT.frT _ (List.getElem_mem hml))
  have hsz2 := KP.serve_size k.pu k.fr[m]
  have hlz : ((k.fr.length : Int) == 0) = false := by rw [beq_eq_false_iff_ne]; omega
  have HN : Hid (∀ y, (bits .and .i64 b 1 = 1 → y = (if (k.pu.serve k.fr[m]).toList = [] then k.pu else (k.pu.keep (k.pu.serve k.fr[m])).recv n (k.pu.serve k.fr[m]))) → (¬ bits .and .i64 b 1 = 1 → y = k.pu.recv n k.fr[m]) → y = oldP k.pu n b) := fun y y1 y2 => by
    unfold oldP
    rw [if_neg (show ¬ k.pu.fr = [] from hne), hOF]
    split
    · rename_i ha; exact y1 ha
    · rename_i ha; exact y2 ha
  clear h1 h2 hm hx hOF h c18 hv hne hfs
  generalize k.fr[m] = f at *
  generalize k.fr.length = nn at *
  obtain ⟨a, ha⟩ : ∃ a, a = k.pu.serve f := ⟨_, rfl⟩
  rw [← ha] at hsv hsz2 HN
  have HA := Hid.mk ha
  clear ha
  unfold I64 at hb
  go_enter Tryz.func76, Tryz.ntmps76
  go_wp2_with fail
  go_quiet ((go_at_call 70; refine Calls.quiet_of_same ((hpk _).mono fun e w2 h => ⟨h.1, h.2.symm⟩)))
  by_cases a1 : bits .and .i64 b 1 = 1
  rotate_left
  · have a1b : (bits .and .i64 b 1 == 1) = false := by rw [beq_eq_false_iff_ne]; exact a1
    have HY : Hid (k.pu.recv n f = oldP k.pu n b) := HN.out _ (fun e => absurd e a1) (fun _ => rfl)
    clear hsv HN
    go_wp2_with fail
    refine (hrc _ (by (repeat (first | exact Bel.refl _ | assumption | refine Bel.step_alloc ?_ _ | refine Bel.step_drew ?_ | refine Bel.step_drewN ?_ _ | refine Bel.step_set ?_ (by simp <;> omega) _ | refine Bel.trans ?_ (by assumption))))).mono ?_
    rintro e w5 ⟨rfl, k5, hk5, hT5, hp5⟩
    have HK5 := Hid.mk hk5
    have HP5 := Hid.mk hp5
    clear hk5 hp5 hrc
    go_wp2
    go_end0
    exact ⟨rfl, k5, HK5.out, hT5.wide (by omega), HP5.out.trans HY.out⟩
  have a1b : (bits .and .i64 b 1 == 1) = true := by rw [beq_iff_eq]; exact a1
  clear hrc
  go_wp2_with fail
  refine (hsv _ (by (repeat (first | exact Bel.refl _ | assumption | refine Bel.step_alloc ?_ _ | refine Bel.step_drew ?_ | refine Bel.step_drewN ?_ _ | refine Bel.step_set ?_ (by simp <;> omega) _ | refine Bel.trans ?_ (by assumption))))).mono ?_
  rintro e w3 ⟨rfl, hb3⟩
  have hbw : Bel w w3 := Bel.trans (by (repeat (first | exact Bel.refl _ | assumption | refine Bel.step_alloc ?_ _ | refine Bel.step_drew ?_ | refine Bel.step_drewN ?_ _ | refine Bel.step_set ?_ (by simp <;> omega) _ | refine Bel.trans ?_ (by assumption)))) hb3
  have hI3 := HI.out.later hbw
  have f7 := hbw.cell c7
  clear hsv
  by_cases a0 : a.toList = []
  · have a0b := (nil_beq a).1 a0
    have HY : Hid (k.pu = oldP k.pu n b) := HN.out _ (fun _ => by rw [if_pos a0]) (fun e => absurd a1 e)
    have HI3 := Hid.mk hI3
    clear hI3 HN
    go_wp2
    (try simp only [Exit.inBlock, Exit.then]); refine bodyPost_ret (results_none rfl _ _ _) rfl ?_
    exact ⟨rfl, k, HI3.out, KTo.refl k 1, HY.out⟩
  have a0b := (nil_beq a).2 a0
  have HY : Hid ((k.pu.keep a).recv n a = oldP k.pu n b) := HN.out _ (fun _ => by rw [if_neg a0]) (fun e => absurd a1 e)
  have hkp := kkeep_is hI3 a (by omega) (by omega) (by rw [HA.out] at a0 ⊢; exact serve_seald a0) (fun hT => by rw [HA.out]; exact Tr_serve hT f)
  clear hI3 HN
  go_wp2_with fail
  refine hkp.mono ?_
  rintro e w4 ⟨rfl, k4, hk4, hT4, hp4⟩
  have g7 := hk4.at_.1 7 _ rfl
  rw [hT4.q] at g7
  have HP4 := Hid.mk hp4
  have hrc := krecv_is hk4 (n := n) (by rw [hT4.len]; exact hn) a (by omega) (fun hT => hT.frT a (by have e : k4.fr = (k.pu.keep a).fr := congrArg KP.fr HP4.out; rw [e]; exact List.mem_append_right _ (List.mem_singleton.2 rfl)))
  rw [hT4.q] at hrc
  clear hkp f7 hp4 hk4
  go_wp2_with fail
  refine hrc.mono ?_
  rintro e w5 ⟨rfl, k5, hk5, hT5, hp5⟩
  have HK5 := Hid.mk hk5
  have HP5 := Hid.mk hp5
  clear hk5 hp5 hrc g7
  go_wp2
  go_end0
  exact ⟨rfl, k5, HK5.out, hT4.trans hT5, (HP5.out.trans (congrArg (fun x => x.recv n a) HP4.out)).trans HY.out⟩

end Go.Proofs.YtpapdkhjdelfcabGreat

namespace Go.Proofs.YtpapdkhjdelfcabGreat
open Go.RowKit

theorem kheld_is {W0 : World} {p s : Nat} {k : KI} {w : World} {n : Nat} (h : KInv W0 p s k w) (hn : n < k.pp.length) :
    Calls Tryz.prog 32 #[.pointer (some ⟨k.q, 0, none⟩), .int .i64 (n : Int)] w (RHeld w (heldF k.pp[n].2.1.g k.pp[n].2.1.nf)) := held_v h.svc hn
theorem klookup_is {W0 : World} {p s : Nat} {k : KI} {w : World} {n : Nat} (h : KInv W0 p s k w) (hn : n < k.pp.length) (t : ByteArray) (ht : t.size ≤ 1000) :
    Calls Tryz.prog 33 #[.pointer (some ⟨k.q, 0, none⟩), .int .i64 (n : Int), .string t] w (RStrErr w (plOwnF k.pp[n].2.1.g k.pp[n].2.1.c k.pp[n].2.1.B k.pp[n].2.1.E t)) := lookup_v h.svc hn t (by omega)
theorem probe_fm (c : Cfg) (f : Int) (E : List EI) (k : ByteArray) : ∀ n, probeTo { c with formats := f } E k n = probeTo c E k n
  | 0 => rfl
  | n + 1 => by rw [probeTo, probeTo, probe_fm c f E k n]
theorem ownE_fm (c : Cfg) (f : Int) (B : List BK) (E : List EI) (k : ByteArray) : ownE { c with formats := f } B E k = ownE c B E k := by
  have e : findF { c with formats := f } E k = findF c E k := by
    unfold findF
    rw [probe_fm]
  unfold ownE
  rw [e]
def on_ok (on : Cfg) (X : List BK) : Prop := on.OK ∧ Good X
theorem own_cases {on : Cfg} {X : List BK} (hc : on.OK) (hX : Good X) (k : ByteArray) : ((ownerF on X k).1.toList = [] ∧ (ownerF on X k).2 = 8) ∨ ((ownerF on X k).1.toList ≠ [] ∧ (ownerF on X k).2 = 0) := by
  unfold ownerF
  split
  · rename_i e he
    refine Or.inr ⟨?_, rfl⟩
    obtain ⟨j, hj, h2, -⟩ := (mkF_right hc hX).2.1 e (List.mem_of_getElem? he)
    have hn : nameF X e.2 = X[j].1 := by rw [h2, nameF, if_neg (by omega), Int.toNat_natCast, List.getElem?_eq_getElem hj]; rfl
    show (nameF X e.2).toList ≠ []
    rw [hn]
    intro h0
    have h1 := (hX.1.2 _ (List.getElem_mem hj)).1
    have e1 : ByteArray.empty.toList = [] := by kernel_rfl
    have h3 : X[j].1 = ByteArray.empty := str_eq.1 (by rw [h0, e1]; rfl)
    rw [h3] at h1
    exact absurd h1 (by decide)
  · exact Or.inl ⟨by kernel_rfl, rfl⟩
/-- behind 'stands' only what was held last is another -/
def RStand (W0 : World) (p s : Nat) (k : KI) (e : Ending) (w' : World) : Prop := ∃ hd', e = .returned (.bool true) ∧ KInv W0 p s { k with hd := hd' } w' ∧ ({ k with hd := hd' } : KI).Tr
theorem Tr_note {k : KI} {n : Nat} (hn : n < k.pp.length) (hT : k.Tr) : ({ k with hd := k.hd.set n ((k.pp[n]).2.1.g : Int) } : KI).Tr := by
  refine ⟨hT.hist, hT.glen, hT.last, hT.frT, hT.plT, fun m x p hx hp => ?_⟩
  have hx' : (k.hd.set n ((k.pp[n]).2.1.g : Int))[m]? = some x := hx
  by_cases e : n = m
  · subst e
    have hl := (List.getElem?_eq_some_iff.1 hx').1
    rw [List.length_set] at hl
    rw [List.getElem?_set_self hl] at hx'
    rw [List.getElem?_map, List.getElem?_eq_getElem hn] at hp
    rw [← Option.some.inj hx', ← Option.some.inj hp]
    exact Int.le_refl _
  · rw [List.getElem?_set_ne e] at hx'
    exact hT.hdT m x p hx' hp

set_option maxRecDepth 100000 in
set_option maxHeartbeats 1000000 in
theorem kstands_is {W0 : World} {p s : Nat} {k : KI} {w : World} {n : Nat} (h : KInv W0 p s k w) (hs : s ≤ 65600) (hd0 : k.dh = 0) (hn : n < k.pp.length) (hT : k.Tr) :
    Calls Tryz.prog 80 #[.pointer (some ⟨p, 0, none⟩), .int .i64 (n : Int)] w (RStand W0 p s k) := by
  have hhd := fun wx (b' : Bel w wx) => kheld_is (h.later b') hn
  have hnl : n < k.hd.length := by have := h.hlen; omega
  obtain ⟨gh, ch, hvh, -, -⟩ := World.ownsRow.form h.held (by omega : 0 < k.hd.length)
  obtain ⟨gw, cw, hvw, -, -⟩ := World.ownsRow.form h.went (by omega)
  have hrow := h.held
  rw [hvh] at hrow
  have ch0 : w.cell? ⟨gh, n, none⟩ = some (.int .i64 k.hd[n]) := by
    have hc := World.ownsRow.cellAt hrow n (by simpa using hnl)
    rw [hc]; simp [hnl]
  have fh0 : w.frozen? ⟨gh, n, none⟩ = false := World.ownsRow.frozenAt hrow n
  have hrg := h.hrng _ (List.getElem_mem hnl)
  have c7 := h.at_.1 7 _ rfl
  have c15 : w.cell? ⟨p, 15, none⟩ = some (.slice (some ⟨gw, 0, none⟩) (k.vr.length + 1) cw) := by rw [← hvw]; exact h.at_.1 15 _ rfl
  have c17 : w.cell? ⟨p, 17, none⟩ = some (.slice (some ⟨gh, 0, none⟩) k.hd.length ch) := by rw [← hvh]; exact h.at_.1 17 _ rfl
  have hwl := h.wlen
  have hgn := h.gen
  have hbl := h.wrow.1
  have HI := Hid.mk h
  -- what is known of the dataplane
  have hle := hT.hdT n k.hd[n] (k.pp[n]).2.1 (List.getElem?_eq_getElem hnl) (by rw [List.getElem?_map, List.getElem?_eq_getElem hn]; rfl)
  have hPl : PlT k.on k.bs (k.pp[n]).2.1 := hT.plT _ (List.mem_map.2 ⟨k.pp[n], List.getElem_mem hn, rfl⟩)
  have HNote := Hid.mk (Tr_note hn hT)
  have hH := hT.hist
  have HLk : Hid (∀ j, j < 12 → ((k.pp[n]).2.1.g = 0 → plOwnF (k.pp[n]).2.1.g (k.pp[n]).2.1.c (k.pp[n]).2.1.B (k.pp[n]).2.1.E (keyF j) = (⟨#[]⟩, 7)) ∧ (1 ≤ (k.pp[n]).2.1.g → ∃ X, k.bs[(k.pp[n]).2.1.g - 1]? = some X ∧ plOwnF (k.pp[n]).2.1.g (k.pp[n]).2.1.c (k.pp[n]).2.1.B (k.pp[n]).2.1.E (keyF j) = ownerF k.on X (keyF j) ∧ on_ok k.on X)) := fun j _ => by
    refine ⟨fun e => by unfold plOwnF; rw [if_pos e], fun e => ?_⟩
    rcases hPl.2 with h0 | ⟨X, h1, h2, h3, h4, h5⟩
    · omega
    · refine ⟨X, h2, ?_, hH.1, hH.2.2 X (List.mem_of_getElem? h2)⟩
      unfold plOwnF
      rw [if_neg (by omega), h3, h4, h5, ownE_fm]
      rfl
  have hGle : (k.pp[n]).2.1.g ≤ k.vr.length := by
    rcases hPl.2 with h0 | ⟨X, h1, h2, -⟩
    · omega
    · have := (List.getElem?_eq_some_iff.1 h2).1
      omega
  clear hPl hH hT
  generalize hG : k.pp[n].2.1.g = G at *
  generalize k.pp[n].2.1.nf = nf at *
  generalize hH : k.hd[n] = H at *
  clear h hrow
  unfold heldF at hhd
  generalize (if nf = true then (11 : Int) else 0) = xe at hhd
  go_enter Tryz.func80, Tryz.ntmps80
  go_wp2_with fail
  refine (hhd _ (by (repeat (first | exact Bel.refl _ | assumption | refine Bel.step_alloc ?_ _ | refine Bel.step_drew ?_ | refine Bel.step_drewN ?_ _ | refine Bel.step_set ?_ (by simp <;> omega) _ | refine Bel.trans ?_ (by assumption))))).mono ?_
  rintro e w1 ⟨rfl, hb1⟩
  have d15 := hb1.cell c15
  have d17 := hb1.cell c17
  have d7 := hb1.cell c7
  have dh0 := hb1.cell ch0
  have gh0 := hb1.frozen ch0 fh0
  have HI1 := Hid.mk (HI.out.later hb1)
  clear hhd c15 c17 c7 ch0 fh0
  have g1b : decide ((G : Int) < H) = false := decide_eq_false (by omega)
  have g2b : decide ((G : Int) ≥ ((k.vr.length + 1 : Nat) : Int)) = false := decide_eq_false (by omega)
  have g2c : decide ((G : Int) ≥ (k.vr.length : Int) + 1) = false := decide_eq_false (by omega)
  have HK := Hid.mk (HI1.out.note hvh hnl (x := (G : Int)) (by omega))
  clear HI1
  go_wp2
  go_loopg [7] 12 (fun r nk wr => ∃ j : Nat, nk = .int .i64 (j : Int) ∧ j ≤ 12 ∧ r = 12 - j ∧ Bel (w1.setCell ⟨gh, n, none⟩ (.int .i64 (G : Int))) wr)
  case atStart => exact ⟨0, rfl, by omega, rfl, Bel.refl _⟩
  case round =>
    obtain ⟨j, rfl, hj, rfl, hbr⟩ := hrel
    have hkr := HK.out.later hbr
    by_cases hj12 : j < 12
    · have hjb : decide ((j : Int) < 12) = true := decide_eq_true (by omega)
      have hkey := fun wx => key_is j wx (by omega)
      have hlk := fun wx (b' : Bel wr wx) => klookup_is (hkr.later b') hn (keyF j) (by rw [keyF_size]; omega)
      have x7 := hkr.at_.1 7 _ rfl
      have x15 : wr.cell? ⟨p, 15, none⟩ = some (.slice (some ⟨gw, 0, none⟩) (k.vr.length + 1) cw) := by rw [← hvw]; exact hkr.at_.1 15 _ rfl
      obtain ⟨hl0, hl1⟩ := HLk.out j hj12
      have hW : Hid (∀ X, 1 ≤ G → k.bs[G - 1]? = some X → ∃ v : Value, wr.cell? ⟨gw, G, none⟩ = some v ∧ RowAt wr v 12 ((ownersF k.on X (G : Int)).map Value.string)) := fun X h1 hX => by
        have hr := hkr.went
        have hvw' : ({ k with hd := k.hd.set n (G : Int) } : KI).vw = .slice (some ⟨gw, 0, none⟩) (k.vr.length + 1) cw := hvw
        rw [hvw'] at hr
        have hc := World.ownsRow.cellAt hr G (by simp; omega)
        obtain ⟨m, rfl⟩ : ∃ m, G = m + 1 := ⟨G - 1, by omega⟩
        have hm : m < k.vr.length := by omega
        have hR := hkr.wrow.2 m k.vr[m] X (List.getElem?_eq_getElem hm) hX
        refine ⟨k.vr[m], by rw [hc]; simp [hm], ?_⟩
        have e : ((m + 1 : Nat) : Int) = (m : Int) + 1 := by omega
        rw [e]
        exact RowAt.unmask hR
      clear hkr
      rw [hG] at hlk
      generalize plOwnF G k.pp[n].2.1.c k.pp[n].2.1.B k.pp[n].2.1.E (keyF j) = lk at *
      obtain ⟨lt, le⟩ := lk
      have HL0 := Hid.mk hl0
      have HL1 := Hid.mk hl1
      clear hl0 hl1
      go_wp2_with fail
      refine (hkey _).mono ?_
      rintro e w2 ⟨rfl, hb2⟩
      have hbw : Bel wr w2 := Bel.trans (by (repeat (first | exact Bel.refl _ | assumption | refine Bel.step_alloc ?_ _ | refine Bel.step_drew ?_ | refine Bel.step_drewN ?_ _ | refine Bel.step_set ?_ (by simp <;> omega) _ | refine Bel.trans ?_ (by assumption)))) hb2
      have y7 := hbw.cell x7
      clear hkey
      go_wp2_with fail
      refine (hlk _ (by (repeat (first | exact Bel.refl _ | assumption | refine Bel.step_alloc ?_ _ | refine Bel.step_drew ?_ | refine Bel.step_drewN ?_ _ | refine Bel.step_set ?_ (by simp <;> omega) _ | refine Bel.trans ?_ (by assumption))))).mono ?_
      rintro e w3 ⟨rfl, hb3⟩
      have hbw3 : Bel wr w3 := Bel.trans (by (repeat (first | exact Bel.refl _ | assumption | refine Bel.step_alloc ?_ _ | refine Bel.step_drew ?_ | refine Bel.step_drewN ?_ _ | refine Bel.step_set ?_ (by simp <;> omega) _ | refine Bel.trans ?_ (by assumption)))) hb3
      have z15 := hbw3.cell x15
      have HB3 : Hid (Bel (w1.setCell ⟨gh, n, none⟩ (.int .i64 (G : Int))) w3) := hbr.trans hbw3
      clear hlk y7 x7
      by_cases hG0 : G = 0
      · subst hG0
        have hq := HL0.out rfl
        have hq1 : lt = ⟨#[]⟩ := congrArg Prod.fst hq
        have hq2 : le = 7 := congrArg Prod.snd hq
        subst hq1 hq2
        have hnil : (⟨#[]⟩ : ByteArray).toList.isEmpty = true := by kernel_rfl
        clear hq HL0 HL1 hW
        go_wp2
        go_roundg (12 - (j + 1))
        case measure => omega
        case rel => exact ⟨j + 1, by go_num, by omega, rfl, HB3.out⟩
      · obtain ⟨X, hX, hq, hok⟩ := HL1.out (by omega)
        obtain ⟨v, hcv, hRT⟩ := hW.out X (by omega) hX
        have hlen : (ownersF k.on X (G : Int)).length = 12 := by unfold ownersF; simp
        rw [← hlen] at hRT
        obtain ⟨ao, cap, rfl, hTc⟩ := texts_open hRT
        obtain ⟨gr, rfl, t0⟩ := hTc j (by omega)
        have htj : (ownersF k.on X (G : Int))[j]'(by omega) = lt := by
          have e1 : lt = (ownerF k.on X (keyF j)).1 := congrArg Prod.fst hq
          rw [e1]
          unfold ownersF
          rw [List.getElem_map, List.getElem_range]
          unfold localF
          rw [if_neg (by omega)]
        have hcs := own_cases hok.1 hok.2 (keyF j)
        rw [← hq] at hcs
        dsimp only at hcs
        rw [htj] at t0
        have t0' := hbw3.cell t0
        have hcv' := hbw3.cell hcv
        rw [hlen] at hcv'
        have hGb : ((G : Int) == 0) = false := by rw [beq_eq_false_iff_ne]; omega
        clear hTc hRT t0 hcv hW x15 HL0 HL1 hq htj hX hok hlen
        rcases hcs with ⟨he1, he2⟩ | ⟨he1, he2⟩
        · have hnil := (nil_beq lt).1 he1
          subst he2
          go_wp2
          go_roundg (12 - (j + 1))
          case measure => omega
          case rel => exact ⟨j + 1, by go_num, by omega, rfl, HB3.out⟩
        · have hnil := (nil_beq lt).2 he1
          subst he2
          go_wp2
          go_roundg (12 - (j + 1))
          case measure => omega
          case rel => exact ⟨j + 1, by go_num, by omega, rfl, HB3.out⟩
    · obtain rfl : j = 12 := by omega
      have HB := Hid.mk hbr
      clear hkr
      go_wp2
      go_ret
      exact ⟨_, rfl, HK.out.later HB.out, HNote.out⟩

end Go.Proofs.YtpapdkhjdelfcabGreat
