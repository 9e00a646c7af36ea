import Derived.Test.YtgfildmmcbjpnabKH
namespace Go.Proofs.Ytgfildmmcbjpnab
open Go.RowKit

set_option maxRecDepth 100000 in
set_option maxHeartbeats 400000 in
theorem probed_nil (c : Cfg) (v : Value) (k : ByteArray) (w : World) (hP : EIAt w v []) (hc : c.OK) (hk : k.size ≤ 4611686018427386000) :
    Calls Try.prog 89 #[.agg c.cells, v, .string k] w (RNat w 0) := by
  obtain ⟨hp1, hp2, hk16⟩ : 1 ≤ c.probes ∧ c.probes ≤ 5 ∧ c.key.size = 16 := ⟨hc.2.2.2.2.2.2.2.1, hc.2.2.2.2.2.2.2.2.1, hc.2.2.2.2.2.2.2.2.2.1⟩
  have hnx := fun h wx hx => next_is [] v h wx hx (by simp)
  have hn0 : ∀ h, nextF [] h = 0 := fun _ => rfl
  obtain ⟨alg, slots, points, probes, key, formats⟩ := c
  simp only [Cfg.cells] at *
  obtain ⟨ao, cap, rfl, -⟩ := hP.open
  have hH : ∀ wx : World, Calls Try.prog 77 #[.string key, .int .u8 112, .slice (some ⟨wx.heap.size, 0, none⟩) 1 1, .string k] (wx.alloc (.cells #[.int .i64 0] 3)) (RHash (wx.alloc (.cells #[.int .i64 0] 3)) (hsh key 112 [0] k)) := fun wx => hash_is key 112 [0] (.slice (some ⟨wx.heap.size, 0, none⟩) 1 1) k _ (ints_one wx 0) (by simp) (by omega) hk
  generalize hsh key 112 [0] k = x at *
  have hnx := hnx x
  rw [hn0] at hnx
  clear hc hn0
  have hd : decide ((0 : Int) < probes) = true := decide_eq_true (by omega)
  go_enter Try.func89, Try.ntmps89
  go_wp2
  obtain ⟨wm, hwm⟩ : ∃ wm, wm = w.alloc (.cells #[.int .i64 alg, .int .i64 slots, .int .i64 points, .int .i64 probes, .string key, .int .i64 formats] 30) := ⟨_, rfl⟩
  have m3 : wm.cell? ⟨w.heap.size, 3, none⟩ = some (.int .i64 probes) := by rw [hwm]; simp
  have m4 : wm.cell? ⟨w.heap.size, 4, none⟩ = some (.string key) := by rw [hwm]; simp
  have hwb : Bel w wm := by rw [hwm]; exact (Bel.refl w).step_alloc _
  rw [← hwm]
  clear hwm
  refine wp_loop_rounds 1 ?_
  rw [rounds_succ]
  go_wp2_with fail
  refine (hH _).mono ?_
  rintro e w2 ⟨rfl, hb2⟩
  have hb3 : Bel w w2 := (hwb.step_alloc _).trans hb2
  clear hb2
  go_wp2_with fail
  refine (hnx _ (hP.later hb3)).mono ?_
  rintro e w3 ⟨rfl, hb4⟩
  go_wp2
  go_ret
  exact ⟨rfl, hb3.trans hb4⟩

set_option maxRecDepth 100000 in
set_option maxHeartbeats 400000 in
theorem find_is (q : Nat) (c : Cfg) (vP vE : Value) (E : List EI) (k : ByteArray) (w : World) (hT : TabAt w q c vP vE) (hE : EIAt w vE E) (hB : E.length ≤ 65536) (hc : c.OK) (hk : k.size ≤ 4611686018427386000) :
    Calls Try.prog 84 #[.pointer (some ⟨q, 0, none⟩), .string k] w (RNat w (findF c E k)) := by
  obtain ⟨⟨h0c, h1c, h2c, h3c, h4c, h5c⟩, h6, h7⟩ := hT
  have hk16 : c.key.size = 16 := hc.2.2.2.2.2.2.2.2.2.1
  obtain ⟨X, hX⟩ : ∃ X, X = findF c E k := ⟨_, rfl⟩
  rw [← hX]
  by_cases h4 : c.alg = 4
  · have hpr : ∀ wx, EIAt wx vE E → Calls Try.prog 89 #[.agg c.cells, vE, .string k] wx (RNat wx X) := by
      intro wx hx
      by_cases hE0 : E.length = 0
      · have : E = [] := List.eq_nil_of_length_eq_zero hE0
        subst this
        rw [hX, findF, if_pos (show ([] : List EI).length = 0 from rfl)]
        exact probed_nil c vE k wx hx hc hk
      · rw [hX, findF, if_neg hE0, if_pos h4]
        exact probed_is c E vE k wx hx hB hc hk (by omega)
    clear hX
    obtain ⟨alg, slots, points, probes, key, formats⟩ := c
    simp only [Cfg.cells] at *
    subst h4
    go_enter Try.func84, Try.ntmps84
    go_wp2_with fail
    go_region_held3 (fun w' => Bel w w' ∧ w'.cell? ⟨q, 0, none⟩ = some (.int .i64 4) ∧ w'.cell? ⟨q, 1, none⟩ = some (.int .i64 slots) ∧ w'.cell? ⟨q, 2, none⟩ = some (.int .i64 points) ∧ w'.cell? ⟨q, 3, none⟩ = some (.int .i64 probes) ∧ w'.cell? ⟨q, 4, none⟩ = some (.string key) ∧ w'.cell? ⟨q, 5, none⟩ = some (.int .i64 formats) ∧ w'.cell? ⟨q, 7, none⟩ = some vE) ((exact ⟨by (repeat (first | exact Bel.refl _ | assumption | refine Bel.step_alloc ?_ _ | refine Bel.step_drew ?_ | refine Bel.step_drewN ?_ _ | refine Bel.step_set ?_ (by simp <;> omega) _ | refine Bel.trans ?_ (by assumption))), Bel.cell (by (repeat (first | exact Bel.refl _ | assumption | refine Bel.step_alloc ?_ _ | refine Bel.step_drew ?_ | refine Bel.step_drewN ?_ _ | refine Bel.step_set ?_ (by simp <;> omega) _ | refine Bel.trans ?_ (by assumption)))) h0c, Bel.cell (by (repeat (first | exact Bel.refl _ | assumption | refine Bel.step_alloc ?_ _ | refine Bel.step_drew ?_ | refine Bel.step_drewN ?_ _ | refine Bel.step_set ?_ (by simp <;> omega) _ | refine Bel.trans ?_ (by assumption)))) h1c, Bel.cell (by (repeat (first | exact Bel.refl _ | assumption | refine Bel.step_alloc ?_ _ | refine Bel.step_drew ?_ | refine Bel.step_drewN ?_ _ | refine Bel.step_set ?_ (by simp <;> omega) _ | refine Bel.trans ?_ (by assumption)))) h2c, Bel.cell (by (repeat (first | exact Bel.refl _ | assumption | refine Bel.step_alloc ?_ _ | refine Bel.step_drew ?_ | refine Bel.step_drewN ?_ _ | refine Bel.step_set ?_ (by simp <;> omega) _ | refine Bel.trans ?_ (by assumption)))) h3c, Bel.cell (by (repeat (first | exact Bel.refl _ | assumption | refine Bel.step_alloc ?_ _ | refine Bel.step_drew ?_ | refine Bel.step_drewN ?_ _ | refine Bel.step_set ?_ (by simp <;> omega) _ | refine Bel.trans ?_ (by assumption)))) h4c, Bel.cell (by (repeat (first | exact Bel.refl _ | assumption | refine Bel.step_alloc ?_ _ | refine Bel.step_drew ?_ | refine Bel.step_drewN ?_ _ | refine Bel.step_set ?_ (by simp <;> omega) _ | refine Bel.trans ?_ (by assumption)))) h5c, Bel.cell (by (repeat (first | exact Bel.refl _ | assumption | refine Bel.step_alloc ?_ _ | refine Bel.step_drew ?_ | refine Bel.step_drewN ?_ _ | refine Bel.step_set ?_ (by simp <;> omega) _ | refine Bel.trans ?_ (by assumption)))) h7⟩)) ((go_at_call 89; refine (hpr _ (hE.later (by (repeat (first | exact Bel.refl _ | assumption | refine Bel.step_alloc ?_ _ | refine Bel.step_drew ?_ | refine Bel.step_drewN ?_ _ | refine Bel.step_set ?_ (by simp <;> omega) _ | refine Bel.trans ?_ (by assumption)))))).mono ?_; rintro e w2 ⟨rfl, hb2⟩))
    all_goals
      go_wp2
      go_ret
      exact ⟨rfl, by (repeat (first | exact Bel.refl _ | assumption | refine Bel.step_alloc ?_ _ | refine Bel.step_drew ?_ | refine Bel.step_drewN ?_ _ | refine Bel.step_set ?_ (by simp <;> omega) _ | refine Bel.trans ?_ (by assumption)))⟩
  · have h4b : (c.alg == 4) = false := by rw [beq_eq_false_iff_ne]; exact h4
    have hH := fun wx => hash_is c.key 107 [] (.slice none 0 0) k wx (ints_nil wx) (by decide) (by omega) hk
    have hr := hsh_range c.key 107 [] k
    by_cases h2 : c.alg = 2
    · have hX2 : X = nextF E (hsh c.key 107 [] k) := by
        rw [hX, findF]
        by_cases hE0 : E.length = 0
        · have : E = [] := List.eq_nil_of_length_eq_zero hE0
          subst this; rfl
        · rw [if_neg hE0, if_neg h4, if_pos h2]
      have hnx := fun wx hx => next_is E vE (hsh c.key 107 [] k) wx hx hB
      rw [← hX2] at hnx
      generalize hsh c.key 107 [] k = x at *
      clear hX hX2
      obtain ⟨alg, slots, points, probes, key, formats⟩ := c
      simp only at *
      subst h2
      go_enter Try.func84, Try.ntmps84
      go_wp2_with fail
      refine (hH _).mono ?_
      rintro e w2 ⟨rfl, hb2⟩
      have k0 := hb2.cell h0c
      have k7 := hb2.cell h7
      go_wp2_with fail
      refine (hnx _ (hE.later hb2)).mono ?_
      rintro e w3 ⟨rfl, hb3⟩
      go_wp2
      go_ret
      exact ⟨rfl, hb2.trans hb3⟩
    · have h2b : (c.alg == 2) = false := by rw [beq_eq_false_iff_ne]; exact h2
      have hX2 : (X : Int) = restF (hsh c.key 107 [] k) (E.length : Int) := by
        rw [hX, findF, restF]
        by_cases hE0 : E.length = 0
        · rw [if_pos hE0, if_pos (by omega)]; rfl
        · rw [if_neg hE0, if_neg h4, if_neg h2, if_neg (by omega)]
          exact Int.toNat_of_nonneg (Int.emod_nonneg _ (by omega))
      have hrs := fun wx => rest_is (hsh c.key 107 [] k) (E.length : Int) wx hr.1 hr.2 (by omega) (by omega)
      rw [← hX2] at hrs
      generalize hsh c.key 107 [] k = x at *
      clear hX hX2
      obtain ⟨ao, cap, rfl, -⟩ := hE.open
      obtain ⟨alg, slots, points, probes, key, formats⟩ := c
      simp only at *
      go_enter Try.func84, Try.ntmps84
      go_wp2_with fail
      refine (hH _).mono ?_
      rintro e w2 ⟨rfl, hb2⟩
      have k0 := hb2.cell h0c
      have k7 := hb2.cell h7
      go_wp2_with fail
      refine (hrs _).mono ?_
      rintro e w3 ⟨rfl, rfl⟩
      go_wp2
      go_ret
      exact ⟨rfl, hb2⟩

end Go.Proofs.Ytgfildmmcbjpnab

namespace Go.Proofs.Ytgfildmmcbjpnab
open Go.RowKit

def ownE (c : Cfg) (B : List BK) (E : List EI) (k : ByteArray) : ByteArray × Int := match E[findF c E k]? with
  | some e => (nameF B e.2, 0)
  | none => (ByteArray.empty, 8)
theorem ownerF_eq (c : Cfg) (B : List BK) (k : ByteArray) : ownerF c B k = ownE c B (mkF c B) k := rfl
def RStrErr (w : World) (x : ByteArray × Int) (e : Ending) (w' : World) : Prop := e = .returned (.tuple #[.string x.1, .int .i64 x.2]) ∧ Bel w w'

set_option maxRecDepth 100000 in
set_option maxHeartbeats 400000 in
theorem owner_is (q : Nat) (c : Cfg) (vP vE : Value) (B : List BK) (E : List EI) (k : ByteArray) (w : World) (hT : TabAt w q c vP vE) (hP : PoolAt w vP B) (hE : EIAt w vE E) (hB : E.length ≤ 65536) (hc : c.OK) (hk : k.size ≤ 4611686018427386000) :
    Calls Try.prog 80 #[.pointer (some ⟨q, 0, none⟩), .string k] w (RStrErr w (ownE c B E k)) := by
  have hfi := find_is q c vP vE E k w hT hE hB hc hk
  have hnm := fun x wx (h : Bel w wx) => name_is q c vP vE B x wx (hT.later h) (hP.later h)
  obtain ⟨X, hX⟩ : ∃ X, X = ownE c B E k := ⟨_, rfl⟩
  rw [← hX]
  rw [ownE] at hX
  generalize findF c E k = p at *
  obtain ⟨-, -, h7⟩ := hT
  obtain ⟨ao, cap, rfl, hcell⟩ := hE.open
  have hdn : decide ((p : Int) < 0) = false := decide_eq_false (by omega)
  by_cases hlt : p < E.length
  · rw [List.getElem?_eq_getElem hlt] at hX
    simp only at hX
    obtain ⟨g, rfl, c0, c1⟩ := hcell p hlt
    clear hcell c0
    generalize E[p].2 = o at *
    have hnm := hnm o
    generalize nameF B o = nm at *
    subst hX
    have hdg : decide ((p : Int) ≥ (E.length : Int)) = false := decide_eq_false (by omega)
    go_enter Try.func80, Try.ntmps80
    go_wp2_with fail
    refine hfi.mono ?_
    rintro e w2 ⟨rfl, hb2⟩
    have k7 := hb2.cell h7
    have k1 := hb2.cell c1
    have hnm := hnm w2 hb2
    clear hfi
    go_wp2_with fail
    first
    | refine hnm.mono ?_
    | (go_quiet (fail); go_wp2_with fail; refine (hnm.mono ?_))
    rintro e w3 ⟨rfl, hb3⟩
    go_wp2
    go_ret2
    exact ⟨rfl, hb2.trans hb3⟩
  · rw [List.getElem?_eq_none (by omega)] at hX
    simp only at hX
    subst hX
    clear hcell hnm
    have hdg : decide ((p : Int) ≥ (E.length : Int)) = true := decide_eq_true (by omega)
    go_enter Try.func80, Try.ntmps80
    go_wp2_with fail
    refine hfi.mono ?_
    rintro e w2 ⟨rfl, hb2⟩
    have k7 := hb2.cell h7
    go_wp2_with fail
    first
    | (go_ret2; exact ⟨rfl, hb2⟩)
    | (go_quiet (fail); go_wp2; go_ret2; exact ⟨rfl, by (repeat (first | exact Bel.refl _ | assumption | refine Bel.step_alloc ?_ _ | refine Bel.step_drew ?_ | refine Bel.step_drewN ?_ _ | refine Bel.step_set ?_ (by simp <;> omega) _ | refine Bel.trans ?_ (by assumption)))⟩)

/-- texts in a row of its own -/
def OwnT (base : Nat) (w : World) (v : Value) (L : List ByteArray) : Prop := w.ownsRow base 9 1 v L.length (L.map Value.string)
theorem OwnT.snoc {base : Nat} {w : World} {v : Value} {L : List ByteArray} {b : ByteArray} {n : Nat} (h : w.ownsRow base 9 1 v n (L.map Value.string ++ [.string b])) (hn : n = L.length + 1) : OwnT base w v (L ++ [b]) := by
  unfold OwnT
  rw [List.map_append, List.length_append]
  subst hn
  exact h
def RTexts (w : World) (L : List ByteArray) (e : Ending) (w' : World) : Prop := ∃ v, e = .returned v ∧ Bel w w' ∧ OwnT w.heap.size w' v L ∧ (L = [] → v = .slice none 0 0)
def namesF (B : List BK) (E : List EI) : List ByteArray := E.map fun e => nameF B e.2

set_option maxRecDepth 100000 in
set_option maxHeartbeats 400000 in
theorem names_is (q : Nat) (c : Cfg) (vP vE : Value) (B : List BK) (E : List EI) (w : World) (hT : TabAt w q c vP vE) (hP : PoolAt w vP B) (hE : EIAt w vE E) (hB : E.length ≤ 65536) :
    Calls Try.prog 30 #[.pointer (some ⟨q, 0, none⟩)] w (RTexts w (namesF B E)) := by
  obtain ⟨i0, hi, hz0, hz1, hz2⟩ := info_parts Try.infoStr
  have hnm := fun x wx (h : Bel w wx) => name_is q c vP vE B x wx (hT.later h) (hP.later h)
  obtain ⟨-, -, h7⟩ := hT
  obtain ⟨ao, cap, rfl, hcell⟩ := hE.open
  by_cases hE0 : E.length = 0
  · have : E = [] := List.eq_nil_of_length_eq_zero hE0
    subst this
    clear hcell hnm hE0
    go_enter Try.func30, Try.ntmps30
    go_wp2
    go_ret
    exact ⟨_, rfl, Bel.refl _, World.ownsRow_nil _ _ _ _, fun _ => rfl⟩
  · have hE0b : ((E.length : Int) == 0) = false := by rw [beq_eq_false_iff_ne]; omega
    have hst : ∀ k (h : k < E.length), namesF B (E.take (k + 1)) = namesF B (E.take k) ++ [nameF B E[k].2] := fun k h => by
      rw [List.take_succ_eq_append_getElem h, namesF, List.map_append]; rfl
    have hln : ∀ k, k ≤ E.length → (namesF B (E.take k)).length = k := fun k h => by simp [namesF]; omega
    have HE : Hid (namesF B (E.take E.length) = namesF B E) := by rw [List.take_length]; rfl
    have HNE : Hid (namesF B E ≠ []) := fun h => by
      have := congrArg List.length h
      simp [namesF] at this
      subst this
      exact hE0 rfl
    generalize namesF B E = NL at *
    obtain ⟨nl, hnl⟩ : ∃ nl : Nat → List ByteArray, nl = fun k => namesF B (E.take k) := ⟨_, rfl⟩
    have hst2 : ∀ k (h : k < E.length), nl (k + 1) = nl k ++ [nameF B E[k].2] := fun k h => by rw [hnl]; exact hst k h
    have hln2 : ∀ k, k ≤ E.length → (nl k).length = k := fun k h => by rw [hnl]; exact hln k h
    have h02 : nl 0 = [] := by rw [hnl]; rfl
    have HE2 : Hid (nl E.length = NL) := by rw [hnl]; exact HE.out
    clear hst hln HE hnl
    go_enter Try.func30, Try.ntmps30
    go_wp2_with (first | (at_make; refine wpList_make_own _ rfl _ _ 36 rfl w.heap.size 9 i0 (.string ByteArray.empty) 1 Try.underlying36 hi hz0 hz1 _ _ _ E.length rfl rfl ?b1 ?b2 ?b3 ?b4 ?_))
    case b1 => rfl
    case b2 => first | omega | (rw [hz2]; omega)
    case b3 => unfold maxLen; omega
    case b4 => exact Nat.le_refl _
    intro w1 hown1 hgrow1
    have hb1 : Bel w w1 := (Bel.refl _).grown hgrow1 (fun g hg => by cases hg)
    have hown : OwnT w.heap.size w1 (.slice (some ⟨w.heap.size, 0, none⟩) 0 E.length) [] := hown1
    have k7 := hb1.cell h7
    clear hgrow1 hown1
    generalize (Value.slice (some ⟨w.heap.size, 0, none⟩) 0 E.length) = v1 at *
    go_wp2
    go_loopg [3, 23] E.length (fun r vL n wr => Bel w wr ∧ ∃ (k : Nat), r = E.length - k ∧ k ≤ E.length ∧ n = .int .i64 k ∧ OwnT w.heap.size wr vL (nl k))
    case atStart => exact ⟨hb1, 0, by omega, by omega, rfl, by rw [h02]; exact hown⟩
    case round =>
      obtain ⟨hb, k, hr, hk, rfl, hL⟩ := hrel
      have HO := Hid.mk hL
      have hwr := hb.size
      clear hL hown hb1 k7
      by_cases hlt : k < E.length
      · obtain ⟨g, rfl, c0, c1⟩ := hcell k hlt
        have c0' := hb.cell c0
        have c1' := hb.cell c1
        have HS := Hid.mk (hst2 k hlt)
        have hlk := hln2 k hk
        clear hcell hst2 hln2 h02 c0 c1
        generalize nl k = L at *
        have hL65 : L.length ≤ 65536 := by omega
        have HLk := Hid.mk hlk
        clear hlk
        generalize E[k].1 = ep at *
        generalize E[k].2 = eo at *
        have hnm := hnm eo
        generalize nameF B eo = nm at *
        go_wp2_with fail
        refine (hnm _ (by (repeat (first | exact Bel.refl _ | assumption | refine Bel.step_alloc ?_ _ | refine Bel.step_drew ?_ | refine Bel.step_drewN ?_ _ | refine Bel.step_set ?_ (by simp <;> omega) _ | refine Bel.trans ?_ (by assumption))))).mono ?_
        rintro e w2 ⟨rfl, hb2⟩
        have hbr : Bel wr w2 := (Bel.step_alloc (Bel.refl wr) _).trans hb2
        have hO2 := Hid.mk (own_later HO.out hbr)
        have hbw := hb.trans hbr
        have hw2 := hbw.size
        clear HO hb2 hnm
        go_wp2_with (first | (at_builtin; refine wpList_append_own _ rfl _ _ 36 rfl w.heap.size 9 i0 (.string ByteArray.empty) 1 16 Try.underlying36 hi hz0 hz1 hz2 rfl (by decide) _ L.length (L.map Value.string) rfl ?p1 ⟨w2.heap.size, 0, none⟩ 1 1 [.string nm] rfl rfl ?d1 ?d2 ?d3 ?d4 ?d5 ?_))
        case p1 => exact World.ownsRow.alloc hO2.out _
        try (case d1 => exact one_new _ _ _ _ (by simp))
        case d2 => first | rfl | (intro u hu; simp at hu; subst hu; rfl)
        case d3 => unfold maxLen; omega
        case d4 => omega
        case d5 => first | omega | (simp; omega)
        intro v3 w3 hown3 hgrow3 _
        have hb3 : Bel w w3 := (hbw.step_alloc _).grown hgrow3 (fun g hg => (World.ownsRow.lt hO2.out g hg).1)
        have H3 := Hid.mk (OwnT.snoc (b := nm) hown3 rfl)
        clear hown3 hgrow3
        go_wp2
        go_roundg (E.length - (k + 1))
        case measure => omega
        case rel => exact ⟨hb3, k + 1, rfl, by omega, by go_num, by rw [HS.out]; exact H3.out⟩
      · obtain rfl : k = E.length := by omega
        clear hcell hst2 hln2 h02
        go_wp2
        go_ret
        exact ⟨_, rfl, hb, by rw [← HE2.out]; exact HO.out, fun h => absurd h HNE.out⟩

end Go.Proofs.Ytgfildmmcbjpnab

namespace Go.Proofs.Ytgfildmmcbjpnab
open Go.RowKit

theorem pcells_one (B : List BK) : ∀ u ∈ pcells B, u.oneCell' = true := by
  intro u hu
  simp only [pcells, List.mem_flatMap, List.mem_cons, List.not_mem_nil, or_false] at hu
  obtain ⟨b, _, rfl | rfl⟩ := hu <;> rfl
theorem PoolAt.src {w : World} {v : Value} {L : List BK} (h : PoolAt w v L) : SrcAt w v L.length (pcells L) := by
  rcases h with ⟨h1, h2, h3⟩ | ⟨g, cap, hv, hn, hg, hc⟩
  · exact Or.inl ⟨h1, h2, h3⟩
  · refine Or.inr ⟨_, _, hv, fun j u hu => ?_⟩
    have hadd : (⟨g, 0, none⟩ : Addr).add j = ⟨g, j, none⟩ := by unfold Addr.add; split <;> simp_all
    rw [hadd]
    exact hc j u hu
def tabV (c : Cfg) (vP vE : Value) : Value := .agg #[.int .i64 c.alg, .int .i64 c.slots, .int .i64 c.points, .int .i64 c.probes, .string c.key, .int .i64 c.formats, vP, vE]
def RMake (w : World) (c : Cfg) (B : List BK) (e : Ending) (w' : World) : Prop := ∃ vP vE, e = .returned (tabV c vP vE) ∧ Bel w w' ∧ OwnB w.heap.size w' vP B ∧ OwnE w.heap.size w' vE (mkF c B)

theorem own_empty (w : World) (e : TypeId) (base n : Nat) (hn : n = w.heap.size) (hb : base ≤ n) : (w.alloc (.cells #[] e)).ownsRow base e 2 (.slice (some ⟨n, 0, none⟩) 0 0) 0 [] := by
  subst hn
  exact World.ownsRow_lit w #[] 0 hb (by decide) rfl
theorem own_slice {w : World} {base : Nat} {e : TypeId} {size : Nat} {v : Value} {n : Nat} {xs : List Value} (h : w.ownsRow base e size v n xs) : ∃ ao cap, v = .slice ao n cap := by
  rcases h.2 with ⟨h1, h2⟩ | ⟨g, cap, cur, h1, _⟩
  · exact ⟨none, 0, by rw [h1, h2]⟩
  · exact ⟨_, _, h1⟩
/-- a configuration's box -/
def TabC (p : Nat) (alg slots points probes : Int) (key : ByteArray) (formats : Int) (w : World) : Prop :=
  w.cell? ⟨p, 0, none⟩ = some (.int .i64 alg) ∧ w.cell? ⟨p, 1, none⟩ = some (.int .i64 slots) ∧ w.cell? ⟨p, 2, none⟩ = some (.int .i64 points) ∧ w.cell? ⟨p, 3, none⟩ = some (.int .i64 probes) ∧ w.cell? ⟨p, 4, none⟩ = some (.string key) ∧ w.cell? ⟨p, 5, none⟩ = some (.int .i64 formats)
/-- eight cells that may be written -/
def Box8 (p : Nat) (a0 a1 a2 a3 a4 a5 a6 a7 : Value) (w : World) : Prop :=
  (w.cell? ⟨p, 0, none⟩ = some a0 ∧ w.cell? ⟨p, 1, none⟩ = some a1 ∧ w.cell? ⟨p, 2, none⟩ = some a2 ∧ w.cell? ⟨p, 3, none⟩ = some a3 ∧ w.cell? ⟨p, 4, none⟩ = some a4 ∧ w.cell? ⟨p, 5, none⟩ = some a5 ∧ w.cell? ⟨p, 6, none⟩ = some a6 ∧ w.cell? ⟨p, 7, none⟩ = some a7) ∧ w.frozen? ⟨p, 0, none⟩ = false ∧ w.frozen? ⟨p, 1, none⟩ = false ∧ w.frozen? ⟨p, 2, none⟩ = false ∧ w.frozen? ⟨p, 3, none⟩ = false ∧ w.frozen? ⟨p, 4, none⟩ = false ∧ w.frozen? ⟨p, 5, none⟩ = false ∧ w.frozen? ⟨p, 6, none⟩ = false ∧ w.frozen? ⟨p, 7, none⟩ = false
theorem Box8.new (w : World) (a0 a1 a2 a3 a4 a5 a6 a7 : Value) (t : TypeId) : Box8 w.heap.size a0 a1 a2 a3 a4 a5 a6 a7 (w.alloc (.cells #[a0, a1, a2, a3, a4, a5, a6, a7] t)) :=
  ⟨⟨by simp, by simp, by simp, by simp, by simp, by simp, by simp, by simp⟩, by simp, by simp, by simp, by simp, by simp, by simp, by simp, by simp⟩
theorem Box8.later {p : Nat} {a0 a1 a2 a3 a4 a5 a6 a7 : Value} {w w2 : World} (h : Box8 p a0 a1 a2 a3 a4 a5 a6 a7 w) (k : Bel w w2) : Box8 p a0 a1 a2 a3 a4 a5 a6 a7 w2 := by
  obtain ⟨⟨h0, h1, h2, h3, h4, h5, h6, h7⟩, f0, f1, f2, f3, f4, f5, f6, f7⟩ := h
  exact ⟨⟨k.cell h0, k.cell h1, k.cell h2, k.cell h3, k.cell h4, k.cell h5, k.cell h6, k.cell h7⟩, k.frozen h0 f0, k.frozen h1 f1, k.frozen h2 f2, k.frozen h3 f3, k.frozen h4 f4, k.frozen h5 f5, k.frozen h6 f6, k.frozen h7 f7⟩
theorem Box8.other {p : Nat} {a0 a1 a2 a3 a4 a5 a6 a7 : Value} {w : World} (h : Box8 p a0 a1 a2 a3 a4 a5 a6 a7 w) {q : Addr} (u : Value) (hq : q.block ≠ p) : Box8 p a0 a1 a2 a3 a4 a5 a6 a7 (w.setCell q u) := by
  obtain ⟨⟨h0, h1, h2, h3, h4, h5, h6, h7⟩, f0, f1, f2, f3, f4, f5, f6, f7⟩ := h
  exact ⟨⟨by rw [set_other (Or.inl hq)]; exact h0, by rw [set_other (Or.inl hq)]; exact h1, by rw [set_other (Or.inl hq)]; exact h2, by rw [set_other (Or.inl hq)]; exact h3, by rw [set_other (Or.inl hq)]; exact h4, by rw [set_other (Or.inl hq)]; exact h5, by rw [set_other (Or.inl hq)]; exact h6, by rw [set_other (Or.inl hq)]; exact h7⟩, by rw [frozen_set]; exact f0, by rw [frozen_set]; exact f1, by rw [frozen_set]; exact f2, by rw [frozen_set]; exact f3, by rw [frozen_set]; exact f4, by rw [frozen_set]; exact f5, by rw [frozen_set]; exact f6, by rw [frozen_set]; exact f7⟩
theorem Box8.set6 {p : Nat} {a0 a1 a2 a3 a4 a5 a6 a7 : Value} {w : World} (h : Box8 p a0 a1 a2 a3 a4 a5 a6 a7 w) (u : Value) : Box8 p a0 a1 a2 a3 a4 a5 u a7 (w.setCell ⟨p, 6, none⟩ u) := by
  obtain ⟨⟨h0, h1, h2, h3, h4, h5, h6, h7⟩, f0, f1, f2, f3, f4, f5, f6, f7⟩ := h
  exact ⟨⟨by rw [set_other (by simp)]; exact h0, by rw [set_other (by simp)]; exact h1, by rw [set_other (by simp)]; exact h2, by rw [set_other (by simp)]; exact h3, by rw [set_other (by simp)]; exact h4, by rw [set_other (by simp)]; exact h5, set_same h6, by rw [set_other (by simp)]; exact h7⟩, by rw [frozen_set]; exact f0, by rw [frozen_set]; exact f1, by rw [frozen_set]; exact f2, by rw [frozen_set]; exact f3, by rw [frozen_set]; exact f4, by rw [frozen_set]; exact f5, by rw [frozen_set]; exact f6, by rw [frozen_set]; exact f7⟩
theorem Box8.set7 {p : Nat} {a0 a1 a2 a3 a4 a5 a6 a7 : Value} {w : World} (h : Box8 p a0 a1 a2 a3 a4 a5 a6 a7 w) (u : Value) : Box8 p a0 a1 a2 a3 a4 a5 a6 u (w.setCell ⟨p, 7, none⟩ u) := by
  obtain ⟨⟨h0, h1, h2, h3, h4, h5, h6, h7⟩, f0, f1, f2, f3, f4, f5, f6, f7⟩ := h
  exact ⟨⟨by rw [set_other (by simp)]; exact h0, by rw [set_other (by simp)]; exact h1, by rw [set_other (by simp)]; exact h2, by rw [set_other (by simp)]; exact h3, by rw [set_other (by simp)]; exact h4, by rw [set_other (by simp)]; exact h5, by rw [set_other (by simp)]; exact h6, set_same h7⟩, by rw [frozen_set]; exact f0, by rw [frozen_set]; exact f1, by rw [frozen_set]; exact f2, by rw [frozen_set]; exact f3, by rw [frozen_set]; exact f4, by rw [frozen_set]; exact f5, by rw [frozen_set]; exact f6, by rw [frozen_set]; exact f7⟩
theorem TabC.later {p : Nat} {alg slots points probes : Int} {key : ByteArray} {formats : Int} {w w2 : World} (h : TabC p alg slots points probes key formats w) (k : Bel w w2) : TabC p alg slots points probes key formats w2 :=
  ⟨k.cell h.1, k.cell h.2.1, k.cell h.2.2.1, k.cell h.2.2.2.1, k.cell h.2.2.2.2.1, k.cell h.2.2.2.2.2⟩
theorem TabC.other {p : Nat} {alg slots points probes : Int} {key : ByteArray} {formats : Int} {w : World} (h : TabC p alg slots points probes key formats w) {q : Addr} (u : Value) (hq : q.block ≠ p) : TabC p alg slots points probes key formats (w.setCell q u) := by
  obtain ⟨h0, h1, h2, h3, h4, h5⟩ := h
  exact ⟨by rw [set_other (Or.inl hq)]; exact h0, by rw [set_other (Or.inl hq)]; exact h1, by rw [set_other (Or.inl hq)]; exact h2, by rw [set_other (Or.inl hq)]; exact h3, by rw [set_other (Or.inl hq)]; exact h4, by rw [set_other (Or.inl hq)]; exact h5⟩

set_option maxRecDepth 100000 in
set_option maxHeartbeats 400000 in
theorem make_is (c : Cfg) (B : List BK) (v : Value) (w : World) (hP : PoolAt w v B) (hB : PoolOK B) (hc : c.OK) :
    Calls Try.prog 46 #[.agg c.cells, v] w (RMake w c B) := by
  obtain ⟨i0, hi, hz0, hz1, hz2⟩ := info_parts Try.infoBK
  have hTot := fun wx (h : Bel w wx) => total_is B v wx (hP.later h) hB
  have hmag := fun wx (h : Bel w wx) => maglev_is c B v wx (hP.later h) hB hc
  have hren := fun wx (h : Bel w wx) => rendezvous_is c B v wx (hP.later h) hB hc
  have hk16 : c.key.size = 16 := hc.2.2.2.2.2.2.2.2.2.1
  have hp1 : 1 ≤ c.points := hc.2.2.2.2.2.1
  have hp2 : c.points ≤ 3 := hc.2.2.2.2.2.2.1
  have hrng := fun wx (h : Bel w wx) => points_is c.key 114 c.points B v wx (hP.later h) hB hk16 (by omega) (by omega)
  have hprb := fun wx (h : Bel w wx) => points_is c.key 109 1 B v wx (hP.later h) hB hk16 (by omega) (by omega)
  have h8 := hB.1
  obtain ⟨E, hE⟩ : ∃ E, E = mkF c B := ⟨_, rfl⟩
  unfold RMake
  rw [← hE]
  rw [mkF] at hE
  generalize wSum B = T at *
  obtain ⟨E1, hE1⟩ : ∃ E1, E1 = slotE (maglevF c B) := ⟨_, rfl⟩
  obtain ⟨E2, hE2⟩ : ∃ E2, E2 = pointsF c.key 114 c.points B := ⟨_, rfl⟩
  obtain ⟨E3, hE3⟩ : ∃ E3, E3 = slotE ((List.range c.slots.toNat).map (winnerF c.key B)) := ⟨_, rfl⟩
  obtain ⟨E4, hE4⟩ : ∃ E4, E4 = pointsF c.key 109 1 B := ⟨_, rfl⟩
  rw [← hE1] at hmag
  rw [← hE2] at hrng
  rw [← hE3] at hren
  rw [← hE4] at hprb
  rw [show (maglevF c B).map (fun o => ((0 : Int), o)) = E1 from hE1.symm, ← hE2, show (List.range c.slots.toNat).map (fun s => ((0 : Int), winnerF c.key B s)) = E3 from by rw [hE3, slotE, List.map_map]; rfl, ← hE4] at hE
  clear hE1 hE2 hE3 hE4
  have HE := Hid.mk hE
  have halg := hc.1
  have halg4 := hc.2.1
  clear hE hc
  obtain ⟨alg, slots, points, probes, key, formats⟩ := c
  simp only [Cfg.cells, tabV] at *
  go_enter Try.func46, Try.ntmps46
  go_wp2_with (first | (at_builtin; refine wpList_append_src _ rfl _ _ 47 rfl (w.heap.size + 3) 64 i0 (.agg #[.string ByteArray.empty, .int .i64 0]) 2 24 Try.underlying47 hi hz0 hz1 hz2 rfl (by decide) _ 0 [] rfl ?o1 _ B.length (pcells B) rfl ?o2 ?c1 ?c2 ?c3 ?c4 ?c5 ?_))
  case o1 => exact own_empty _ _ _ _ (by simp) (by omega)
  case o2 => exact (hP.later (by (repeat (first | exact Bel.refl _ | assumption | refine Bel.step_alloc ?_ _ | refine Bel.step_drew ?_ | refine Bel.step_drewN ?_ _ | refine Bel.step_set ?_ (by simp <;> omega) _ | refine Bel.trans ?_ (by assumption))))).src
  case c1 => exact pcells_len B
  case c2 => exact pcells_one B
  case c3 => unfold maxLen; omega
  case c4 => omega
  case c5 => simp
  intro vP w1 hown1 hgrow1
  obtain ⟨wa, hwa⟩ : ∃ wa, wa = w.alloc (.cells #[.int .i64 alg, .int .i64 slots, .int .i64 points, .int .i64 probes, .string key, .int .i64 formats] 30) := ⟨_, rfl⟩
  obtain ⟨wr, hwr⟩ : ∃ wr, wr = wa.alloc (.cells #[.int .i64 0, .int .i64 0, .int .i64 0, .int .i64 0, .string { data := #[] }, .int .i64 0, .slice none 0 0, .slice none 0 0] 56) := ⟨_, rfl⟩
  obtain ⟨wm, hwm⟩ : ∃ wm, wm = wr.alloc (.cells #[.int .i64 alg, .int .i64 slots, .int .i64 points, .int .i64 probes, .string key, .int .i64 formats, .slice none 0 0, .slice none 0 0] 56) := ⟨_, rfl⟩
  have sa : wa.heap.size = w.heap.size + 1 := by rw [hwa]; simp
  have sr : wr.heap.size = w.heap.size + 1 + 1 := by rw [hwr]; simp [sa]
  have sm : wm.heap.size = w.heap.size + 1 + 1 + 1 := by rw [hwm]; simp [sr]
  have ba : Bel w wa := by rw [hwa]; exact (Bel.refl w).step_alloc _
  have br : Bel wa wr := by rw [hwr]; exact (Bel.refl _).step_alloc _
  have bm : Bel wr wm := by rw [hwm]; exact (Bel.refl _).step_alloc _
  have hwb : Bel w wm := ba.trans (br.trans bm)
  have hb1 : Bel wm w1 := by
    rw [hwm, hwr, hwa]
    refine Bel.grown (Bel.step_alloc (Bel.refl _) _) hgrow1 (fun g hg => ?_)
    simp [Value.ownBlock] at hg
    simp; omega
  have bp : Bel wa w1 := br.trans (bm.trans hb1)
  have bq : Bel wr w1 := bm.trans hb1
  have cfgA : TabC w.heap.size alg slots points probes key formats wa := by
    rw [hwa]; exact ⟨by simp, by simp, by simp, by simp, by simp, by simp⟩
  have hR1 : Box8 (w.heap.size + 1) (.int .i64 0) (.int .i64 0) (.int .i64 0) (.int .i64 0) (.string { data := #[] }) (.int .i64 0) (.slice none 0 0) (.slice none 0 0) w1 := by
    have := Box8.new wa (.int .i64 0) (.int .i64 0) (.int .i64 0) (.int .i64 0) (.string { data := #[] }) (.int .i64 0) (.slice none 0 0) (.slice none 0 0) 56
    rw [← hwr, sa] at this
    exact this.later bq
  have hT1 : Box8 (w.heap.size + 1 + 1) (.int .i64 alg) (.int .i64 slots) (.int .i64 points) (.int .i64 probes) (.string key) (.int .i64 formats) (.slice none 0 0) (.slice none 0 0) w1 := by
    have := Box8.new wr (.int .i64 alg) (.int .i64 slots) (.int .i64 points) (.int .i64 probes) (.string key) (.int .i64 formats) (.slice none 0 0) (.slice none 0 0) 56
    rw [← hwm, sr] at this
    exact this.later hb1
  have hC1 := cfgA.later bp
  have hown : OwnB (w.heap.size + 3) w1 vP B := by unfold OwnB; simpa using hown1
  have hbw1 : Bel w w1 := hwb.trans hb1
  have hsz1 := hb1.size
  clear hown1 hgrow1 hwa hwr hwm sa sr ba br bm hwb hb1 bp bq cfgA
  obtain ⟨aP, capP, rfl⟩ := own_slice hown
  obtain ⟨⟨t0, t1, t2, t3, t4, t5, t6, t7⟩, g0, g1, g2, g3, g4, g5, g6, g7⟩ := id hT1
  have hT2 := hT1.set6 (.slice aP B.length capP)
  have hR2 := hR1.other (q := ⟨w.heap.size + 1 + 1, 6, none⟩) (.slice aP B.length capP) (by simp)
  have hC2 := hC1.other (q := ⟨w.heap.size + 1 + 1, 6, none⟩) (.slice aP B.length capP) (by simp only; omega)
  have hown2 : OwnB (w.heap.size + 3) _ _ B := ownsRow_setCell_below hown (a := ⟨w.heap.size + 1 + 1, 6, none⟩) (by simp) (.slice aP B.length capP)
  have hbw2 := hbw1.step_set (p := ⟨w.heap.size + 1 + 1, 6, none⟩) (by simp; omega) (.slice aP B.length capP)
  go_wp2_with fail
  refine (hTot _ hbw2).mono ?_
  rintro e w3 ⟨rfl, hb3⟩
  have hT3 := hT2.later hb3
  have hR3 := hR2.later hb3
  have hC3 := hC2.later hb3
  have hown3 := Hid.mk (own_later hown2 hb3)
  have hbw3 := hbw2.trans hb3
  have hs3 := hbw3.size
  clear hT1 hR1 hC1 hT2 hR2 hC2 hown hown2 hbw1 hbw2 hb3 hsz1 t0 t1 t2 t3 t4 t5 t6 t7 g0 g1 g2 g3 g4 g5 g6 g7
  obtain ⟨⟨t0, t1, t2, t3, t4, t5, t6, t7⟩, g0, g1, g2, g3, g4, g5, g6, g7⟩ := id hT3
  obtain ⟨⟨r0, r1, r2, r3, r4, r5, r6, r7⟩, f0, f1, f2, f3, f4, f5, f6, f7⟩ := id hR3
  obtain ⟨c0, c1, c2, c3, c4, c5⟩ := id hC3
  by_cases hT0 : T < 1
  · have HE2 : Hid (E = []) := by show E = []; rw [HE.out, if_pos hT0]
    clear HE hmag hren hrng hprb hTot hT3 hR3 hC3
    go_wp2
    refine bodyPost_ret (v := .agg #[.int .i64 alg, .int .i64 slots, .int .i64 points, .int .i64 probes, .string key, .int .i64 formats, .slice aP B.length capP, .slice none 0 0]) (by simp [results, Try.results46, go_sem, *]) rfl ⟨_, _, rfl, ?_, ?_, ?_⟩
    · exact (((((((hbw3.step_set (by simp) _).step_set (by simp) _).step_set (by simp) _).step_set (by simp) _).step_set (by simp) _).step_set (by simp) _).step_set (by simp) _).step_set (by simp) _
    · exact World.ownsRow.mono (ownsRow_setCell_below (ownsRow_setCell_below (ownsRow_setCell_below (ownsRow_setCell_below (ownsRow_setCell_below (ownsRow_setCell_below (ownsRow_setCell_below (ownsRow_setCell_below hown3.out (by simp) _) (by simp) _) (by simp) _) (by simp) _) (by simp) _) (by simp) _) (by simp) _) (by simp) _) (by omega)
    · rw [HE2.out]; exact World.ownsRow_nil _ _ _ _
  · rw [if_neg hT0] at HE
    have hs33 : w.heap.size + 1 + 1 < w3.heap.size := World.block_lt_of_cell? w3 _ t0
    rcases (show alg = 1 ∨ alg = 2 ∨ alg = 3 ∨ alg = 4 by omega) with rfl | rfl | rfl | rfl
    · have HE2 : Hid (E = E1) := by show E = E1; rw [HE.out]; simp
      have hcl := hmag _ hbw3 (by omega)
      clear HE hmag hren hrng hprb hTot
      go_wp2_with fail
      refine hcl.mono ?_
      rintro e w4 ⟨vE, rfl, hb4, hE4⟩
      obtain ⟨aE, capE, rfl⟩ := own_slice hE4
      have hT4 := hT3.later hb4
      have hR4 := hR3.later hb4
      have hown4 := own_later hown3.out hb4
      have hbw4 := hbw3.trans hb4
      have hown5 := Hid.mk (ownsRow_setCell_below hown4 (a := ⟨w.heap.size + 1 + 1, 7, none⟩) (by simp) (.slice aE E1.length capE))
      have hE5 := Hid.mk (ownsRow_setCell_below hE4 (a := ⟨w.heap.size + 1 + 1, 7, none⟩) (by simp only; omega) (.slice aE E1.length capE))
      have hbw5 := hbw4.step_set (p := ⟨w.heap.size + 1 + 1, 7, none⟩) (by simp only; omega) (.slice aE E1.length capE)
      clear t0 t1 t2 t3 t4 t5 t6 t7 g0 g1 g2 g3 g4 g5 g6 g7 r0 r1 r2 r3 r4 r5 r6 r7 f0 f1 f2 f3 f4 f5 f6 f7 hT3 hR3 hC3 c0 c1 c2 c3 c4 c5 hown3 hbw3
      obtain ⟨⟨t0, t1, t2, t3, t4, t5, t6, t7⟩, g0, g1, g2, g3, g4, g5, g6, g7⟩ := hT4
      obtain ⟨⟨r0, r1, r2, r3, r4, r5, r6, r7⟩, f0, f1, f2, f3, f4, f5, f6, f7⟩ := hR4
      have hs4 := hb4.size
      clear hown4 hbw4 hE4 hb4 hcl
      go_wp2
      refine bodyPost_ret (v := .agg #[.int .i64 1, .int .i64 slots, .int .i64 points, .int .i64 probes, .string key, .int .i64 formats, .slice aP B.length capP, .slice aE E1.length capE]) (by simp [results, Try.results46, go_sem, *]) rfl ⟨_, _, rfl, ?_, ?_, ?_⟩
      · exact (((((((hbw5.step_set (by simp) _).step_set (by simp) _).step_set (by simp) _).step_set (by simp) _).step_set (by simp) _).step_set (by simp) _).step_set (by simp) _).step_set (by simp) _
      · exact World.ownsRow.mono ((ownsRow_setCell_below (ownsRow_setCell_below (ownsRow_setCell_below (ownsRow_setCell_below (ownsRow_setCell_below (ownsRow_setCell_below (ownsRow_setCell_below (ownsRow_setCell_below hown5.out (by simp) _) (by simp) _) (by simp) _) (by simp) _) (by simp) _) (by simp) _) (by simp) _) (by simp) _)) (by omega)
      · rw [HE2.out]; exact World.ownsRow.mono (ownsRow_setCell_below (ownsRow_setCell_below (ownsRow_setCell_below (ownsRow_setCell_below (ownsRow_setCell_below (ownsRow_setCell_below (ownsRow_setCell_below (ownsRow_setCell_below hE5.out (by simp only; omega) _) (by simp only; omega) _) (by simp only; omega) _) (by simp only; omega) _) (by simp only; omega) _) (by simp only; omega) _) (by simp only; omega) _) (by simp only; omega) _) (by omega)
    · have HE2 : Hid (E = E2) := by show E = E2; rw [HE.out]; simp
      have hcl := hrng _ hbw3
      clear HE hmag hren hrng hprb hTot
      go_wp2_with fail
      refine hcl.mono ?_
      rintro e w4 ⟨vE, rfl, hb4, hE4⟩
      obtain ⟨aE, capE, rfl⟩ := own_slice hE4
      have hT4 := hT3.later hb4
      have hR4 := hR3.later hb4
      have hown4 := own_later hown3.out hb4
      have hbw4 := hbw3.trans hb4
      have hown5 := Hid.mk (ownsRow_setCell_below hown4 (a := ⟨w.heap.size + 1 + 1, 7, none⟩) (by simp) (.slice aE E2.length capE))
      have hE5 := Hid.mk (ownsRow_setCell_below hE4 (a := ⟨w.heap.size + 1 + 1, 7, none⟩) (by simp only; omega) (.slice aE E2.length capE))
      have hbw5 := hbw4.step_set (p := ⟨w.heap.size + 1 + 1, 7, none⟩) (by simp only; omega) (.slice aE E2.length capE)
      clear t0 t1 t2 t3 t4 t5 t6 t7 g0 g1 g2 g3 g4 g5 g6 g7 r0 r1 r2 r3 r4 r5 r6 r7 f0 f1 f2 f3 f4 f5 f6 f7 hT3 hR3 hC3 c0 c1 c2 c3 c4 c5 hown3 hbw3
      obtain ⟨⟨t0, t1, t2, t3, t4, t5, t6, t7⟩, g0, g1, g2, g3, g4, g5, g6, g7⟩ := hT4
      obtain ⟨⟨r0, r1, r2, r3, r4, r5, r6, r7⟩, f0, f1, f2, f3, f4, f5, f6, f7⟩ := hR4
      have hs4 := hb4.size
      clear hown4 hbw4 hE4 hb4 hcl
      go_wp2
      refine bodyPost_ret (v := .agg #[.int .i64 2, .int .i64 slots, .int .i64 points, .int .i64 probes, .string key, .int .i64 formats, .slice aP B.length capP, .slice aE E2.length capE]) (by simp [results, Try.results46, go_sem, *]) rfl ⟨_, _, rfl, ?_, ?_, ?_⟩
      · exact (((((((hbw5.step_set (by simp) _).step_set (by simp) _).step_set (by simp) _).step_set (by simp) _).step_set (by simp) _).step_set (by simp) _).step_set (by simp) _).step_set (by simp) _
      · exact World.ownsRow.mono ((ownsRow_setCell_below (ownsRow_setCell_below (ownsRow_setCell_below (ownsRow_setCell_below (ownsRow_setCell_below (ownsRow_setCell_below (ownsRow_setCell_below (ownsRow_setCell_below hown5.out (by simp) _) (by simp) _) (by simp) _) (by simp) _) (by simp) _) (by simp) _) (by simp) _) (by simp) _)) (by omega)
      · rw [HE2.out]; exact World.ownsRow.mono (ownsRow_setCell_below (ownsRow_setCell_below (ownsRow_setCell_below (ownsRow_setCell_below (ownsRow_setCell_below (ownsRow_setCell_below (ownsRow_setCell_below (ownsRow_setCell_below hE5.out (by simp only; omega) _) (by simp only; omega) _) (by simp only; omega) _) (by simp only; omega) _) (by simp only; omega) _) (by simp only; omega) _) (by simp only; omega) _) (by simp only; omega) _) (by omega)
    · have HE2 : Hid (E = E3) := by show E = E3; rw [HE.out]; simp
      have hcl := hren _ hbw3
      clear HE hmag hren hrng hprb hTot
      go_wp2_with fail
      refine hcl.mono ?_
      rintro e w4 ⟨vE, rfl, hb4, hE4⟩
      obtain ⟨aE, capE, rfl⟩ := own_slice hE4
      have hT4 := hT3.later hb4
      have hR4 := hR3.later hb4
      have hown4 := own_later hown3.out hb4
      have hbw4 := hbw3.trans hb4
      have hown5 := Hid.mk (ownsRow_setCell_below hown4 (a := ⟨w.heap.size + 1 + 1, 7, none⟩) (by simp) (.slice aE E3.length capE))
      have hE5 := Hid.mk (ownsRow_setCell_below hE4 (a := ⟨w.heap.size + 1 + 1, 7, none⟩) (by simp only; omega) (.slice aE E3.length capE))
      have hbw5 := hbw4.step_set (p := ⟨w.heap.size + 1 + 1, 7, none⟩) (by simp only; omega) (.slice aE E3.length capE)
      clear t0 t1 t2 t3 t4 t5 t6 t7 g0 g1 g2 g3 g4 g5 g6 g7 r0 r1 r2 r3 r4 r5 r6 r7 f0 f1 f2 f3 f4 f5 f6 f7 hT3 hR3 hC3 c0 c1 c2 c3 c4 c5 hown3 hbw3
      obtain ⟨⟨t0, t1, t2, t3, t4, t5, t6, t7⟩, g0, g1, g2, g3, g4, g5, g6, g7⟩ := hT4
      obtain ⟨⟨r0, r1, r2, r3, r4, r5, r6, r7⟩, f0, f1, f2, f3, f4, f5, f6, f7⟩ := hR4
      have hs4 := hb4.size
      clear hown4 hbw4 hE4 hb4 hcl
      go_wp2
      refine bodyPost_ret (v := .agg #[.int .i64 3, .int .i64 slots, .int .i64 points, .int .i64 probes, .string key, .int .i64 formats, .slice aP B.length capP, .slice aE E3.length capE]) (by simp [results, Try.results46, go_sem, *]) rfl ⟨_, _, rfl, ?_, ?_, ?_⟩
      · exact (((((((hbw5.step_set (by simp) _).step_set (by simp) _).step_set (by simp) _).step_set (by simp) _).step_set (by simp) _).step_set (by simp) _).step_set (by simp) _).step_set (by simp) _
      · exact World.ownsRow.mono ((ownsRow_setCell_below (ownsRow_setCell_below (ownsRow_setCell_below (ownsRow_setCell_below (ownsRow_setCell_below (ownsRow_setCell_below (ownsRow_setCell_below (ownsRow_setCell_below hown5.out (by simp) _) (by simp) _) (by simp) _) (by simp) _) (by simp) _) (by simp) _) (by simp) _) (by simp) _)) (by omega)
      · rw [HE2.out]; exact World.ownsRow.mono (ownsRow_setCell_below (ownsRow_setCell_below (ownsRow_setCell_below (ownsRow_setCell_below (ownsRow_setCell_below (ownsRow_setCell_below (ownsRow_setCell_below (ownsRow_setCell_below hE5.out (by simp only; omega) _) (by simp only; omega) _) (by simp only; omega) _) (by simp only; omega) _) (by simp only; omega) _) (by simp only; omega) _) (by simp only; omega) _) (by simp only; omega) _) (by omega)
    · have HE2 : Hid (E = E4) := by show E = E4; rw [HE.out]; simp
      have hcl := hprb _ hbw3
      clear HE hmag hren hrng hprb hTot
      go_wp2_with fail
      refine hcl.mono ?_
      rintro e w4 ⟨vE, rfl, hb4, hE4⟩
      obtain ⟨aE, capE, rfl⟩ := own_slice hE4
      have hT4 := hT3.later hb4
      have hR4 := hR3.later hb4
      have hown4 := own_later hown3.out hb4
      have hbw4 := hbw3.trans hb4
      have hown5 := Hid.mk (ownsRow_setCell_below hown4 (a := ⟨w.heap.size + 1 + 1, 7, none⟩) (by simp) (.slice aE E4.length capE))
      have hE5 := Hid.mk (ownsRow_setCell_below hE4 (a := ⟨w.heap.size + 1 + 1, 7, none⟩) (by simp only; omega) (.slice aE E4.length capE))
      have hbw5 := hbw4.step_set (p := ⟨w.heap.size + 1 + 1, 7, none⟩) (by simp only; omega) (.slice aE E4.length capE)
      clear t0 t1 t2 t3 t4 t5 t6 t7 g0 g1 g2 g3 g4 g5 g6 g7 r0 r1 r2 r3 r4 r5 r6 r7 f0 f1 f2 f3 f4 f5 f6 f7 hT3 hR3 hC3 c0 c1 c2 c3 c4 c5 hown3 hbw3
      obtain ⟨⟨t0, t1, t2, t3, t4, t5, t6, t7⟩, g0, g1, g2, g3, g4, g5, g6, g7⟩ := hT4
      obtain ⟨⟨r0, r1, r2, r3, r4, r5, r6, r7⟩, f0, f1, f2, f3, f4, f5, f6, f7⟩ := hR4
      have hs4 := hb4.size
      clear hown4 hbw4 hE4 hb4 hcl
      go_wp2
      refine bodyPost_ret (v := .agg #[.int .i64 4, .int .i64 slots, .int .i64 points, .int .i64 probes, .string key, .int .i64 formats, .slice aP B.length capP, .slice aE E4.length capE]) (by simp [results, Try.results46, go_sem, *]) rfl ⟨_, _, rfl, ?_, ?_, ?_⟩
      · exact (((((((hbw5.step_set (by simp) _).step_set (by simp) _).step_set (by simp) _).step_set (by simp) _).step_set (by simp) _).step_set (by simp) _).step_set (by simp) _).step_set (by simp) _
      · exact World.ownsRow.mono ((ownsRow_setCell_below (ownsRow_setCell_below (ownsRow_setCell_below (ownsRow_setCell_below (ownsRow_setCell_below (ownsRow_setCell_below (ownsRow_setCell_below (ownsRow_setCell_below hown5.out (by simp) _) (by simp) _) (by simp) _) (by simp) _) (by simp) _) (by simp) _) (by simp) _) (by simp) _)) (by omega)
      · rw [HE2.out]; exact World.ownsRow.mono (ownsRow_setCell_below (ownsRow_setCell_below (ownsRow_setCell_below (ownsRow_setCell_below (ownsRow_setCell_below (ownsRow_setCell_below (ownsRow_setCell_below (ownsRow_setCell_below hE5.out (by simp only; omega) _) (by simp only; omega) _) (by simp only; omega) _) (by simp only; omega) _) (by simp only; omega) _) (by simp only; omega) _) (by simp only; omega) _) (by simp only; omega) _) (by omega)

end Go.Proofs.Ytgfildmmcbjpnab
