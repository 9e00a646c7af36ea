import Derived.Test.YtgfildmmcbjpnabKD
namespace Go.Proofs.Ytgfildmmcbjpnab
open Go.RowKit

theorem u64_range (op : BinOp) (a b : Int) (h : op = .xor ∨ op = .or) : 0 ≤ bits op .u64 a b ∧ bits op .u64 a b < 18446744073709551616 := by
  rcases h with rfl | rfl
  · show 0 ≤ IntKind.u64.wrap _ ∧ IntKind.u64.wrap _ < _
    rw [IntKind.wrap_u64]; omega
  · show 0 ≤ IntKind.u64.wrap _ ∧ IntKind.u64.wrap _ < _
    rw [IntKind.wrap_u64]; omega
theorem hsh_range (key : ByteArray) (l : UInt8) (n : List Nat) (t : ByteArray) : 0 ≤ hsh key l n t ∧ hsh key l n t < 18446744073709551616 := u64_range _ _ _ (Or.inl rfl)
theorem restF_range (h m : Int) (hm : 1 ≤ m) : 0 ≤ restF h m ∧ restF h m < m := by
  rw [restF, if_neg (by omega)]
  exact ⟨Int.emod_nonneg _ (by omega), Int.emod_lt_of_pos _ (by omega)⟩

set_option maxHeartbeats 400000 in
theorem rest_is (h m : Int) (w : World) (h0 : 0 ≤ h) (h1 : h < 18446744073709551616) (hm : m ≤ 65536) (hm0 : 0 ≤ m) :
    Calls Try.prog 81 #[.int .u64 h, .int .i64 m] w fun e w' => e = .returned (.int .i64 (restF h m)) ∧ w = w' := by
  by_cases hlt : m < 1
  · have HE : Hid (restF h m = 0) := by show restF h m = 0; rw [restF, if_pos hlt]
    generalize restF h m = X at *
    go_enter Try.func81, Try.ntmps81
    go_wp2
    go_ret
    exact ⟨ret_int HE.out.symm, rfl⟩
  · have HE : Hid (restF h m = h % m) := by show restF h m = h % m; rw [restF, if_neg hlt]
    have hr1 := Int.emod_nonneg h (show m ≠ 0 by omega)
    have hr2 := Int.emod_lt_of_pos h (show 0 < m by omega)
    generalize restF h m = X at *
    go_enter Try.func81, Try.ntmps81
    go_wp2
    go_ret
    exact ⟨ret_int HE.out.symm, rfl⟩

/-- entries, as cells -/
def icells (l : List EI) : List Value := l.flatMap fun b => [.int .u64 b.1, .int .i64 b.2]
theorem icells_len (l : List EI) : (icells l).length = l.length * 2 := by
  induction l with
  | nil => rfl
  | cons b l ih => simp only [icells, List.flatMap_cons, List.length_append, List.length_cons, List.length_nil] at ih ⊢; omega
theorem icells_get (l : List EI) (j : Nat) (h : j < l.length) : (icells l)[j * 2]? = some (.int .u64 l[j].1) ∧ (icells l)[j * 2 + 1]? = some (.int .i64 l[j].2) := by
  induction l generalizing j with
  | nil => simp at h
  | cons b l ih =>
    cases j with
    | zero => simp [icells]
    | succ j =>
      obtain ⟨h1, h2⟩ := ih j (by simpa using h)
      have e1 : (j + 1) * 2 = j * 2 + 1 + 1 := by omega
      rw [e1]
      simp only [icells, List.flatMap_cons, List.cons_append, List.nil_append, List.getElem?_cons_succ] at h1 h2 ⊢
      exact ⟨h1, h2⟩
theorem icells_snoc (L : List EI) (b : EI) : icells (L ++ [b]) = icells L ++ [.int .u64 b.1, .int .i64 b.2] := by simp [icells]
def EIAt (w : World) (v : Value) (l : List EI) : Prop := RowAt w v l.length (icells l)
theorem EIAt.later {a w : World} {v : Value} {l : List EI} (h : EIAt a v l) (k : Bel a w) : EIAt w v l := RowAt.later h k
theorem EIAt.open {w : World} {v : Value} {B : List EI} (h : EIAt w v B) : ∃ ao cap, v = .slice ao B.length cap ∧ ∀ j (hj : j < B.length), ∃ g, ao = some ⟨g, 0, none⟩ ∧ w.cell? ⟨g, j * 2, none⟩ = some (.int .u64 B[j].1) ∧ w.cell? ⟨g, j * 2 + 1, none⟩ = some (.int .i64 B[j].2) := by
  rcases h with ⟨h1, h2, _⟩ | ⟨g, cap, hv, hn, hg, hc⟩
  · exact ⟨none, 0, by rw [h1, h2], fun j hj => by omega⟩
  · exact ⟨_, cap, hv, fun j hj => ⟨g, rfl, hc _ _ (icells_get B j hj).1, hc _ _ (icells_get B j hj).2⟩⟩
/-- entries in a row of its own, from base on -/
def OwnE (base : Nat) (w : World) (v : Value) (B : List EI) : Prop := w.ownsRow base 78 2 v B.length (icells B)
theorem OwnE.ents {base : Nat} {w : World} {v : Value} {B : List EI} (h : OwnE base w v B) : EIAt w v B := RowAt.of_owns h
theorem OwnE.snoc {base : Nat} {w : World} {v : Value} {L : List EI} {b : EI} {n : Nat} (h : w.ownsRow base 78 2 v n (icells L ++ [.int .u64 b.1, .int .i64 b.2])) (hn : n = L.length + 1) : OwnE base w v (L ++ [b]) := by
  unfold OwnE
  rw [icells_snoc, List.length_append]
  subst hn
  exact h
/-- ints in a row -/
def IRow (w : World) (v : Value) (l : List Int) : Prop := RowAt w v l.length (l.map (Value.int .i64))
theorem IRow.later {a w : World} {v : Value} {l : List Int} (h : IRow a v l) (k : Bel a w) : IRow w v l := RowAt.later h k
theorem IRow.open {w : World} {v : Value} {l : List Int} (h : IRow w v l) : ∃ ao cap, v = .slice ao l.length cap ∧ ∀ j (hj : j < l.length), ∃ g, ao = some ⟨g, 0, none⟩ ∧ w.cell? ⟨g, j, none⟩ = some (.int .i64 l[j]) := by
  rcases h with ⟨h1, h2, _⟩ | ⟨g, cap, hv, hn, hg, hc⟩
  · exact ⟨none, 0, by rw [h1, h2], fun j hj => by omega⟩
  · exact ⟨_, cap, hv, fun j hj => ⟨g, rfl, hc j _ (by simp [hj])⟩⟩

theorem nextF_hit {E : List EI} {h : Int} {k : Nat} (hk : k < E.length) (he : h ≤ E[k].1) (hall : ∀ j (hj : j < E.length), j < k → ¬ h ≤ E[j].1) : nextF E h = k := by
  have : E.findIdx (fun e => h ≤ e.1) = k := by
    rw [List.findIdx_eq hk]
    exact ⟨by simpa using he, fun j hj => by simpa using hall j (by omega) hj⟩
  rw [nextF, this, if_pos hk]
theorem nextF_none {E : List EI} {h : Int} (hall : ∀ j (hj : j < E.length), ¬ h ≤ E[j].1) : nextF E h = 0 := by
  rw [nextF, if_neg]
  intro hlt
  have := List.findIdx_getElem (p := fun e : EI => decide (h ≤ e.1)) (w := hlt)
  exact hall _ hlt (by simpa using this)
def RNat (w : World) (x : Nat) (e : Ending) (w' : World) : Prop := e = .returned (.int .i64 (x : Int)) ∧ Bel w w'

set_option maxRecDepth 100000 in
set_option maxHeartbeats 800000 in
theorem next_is (E : List EI) (v : Value) (h : Int) (w : World) (hP : EIAt w v E) (hB : E.length ≤ 65536) :
    Calls Try.prog 90 #[v, .int .u64 h] w (RNat w (nextF E h)) := by
  obtain ⟨ao, cap, rfl, hc⟩ := hP.open
  obtain ⟨X, hX⟩ : ∃ X, X = nextF E h := ⟨_, rfl⟩
  have HX := Hid.mk hX
  rw [← hX]
  clear hX
  go_enter Try.func90, Try.ntmps90
  go_wp2
  go_loopg [9] E.length (fun r n wr => Bel w wr ∧ ∃ k : Nat, r = E.length - k ∧ k ≤ E.length ∧ n = .int .i64 k ∧ ∀ j (hj : j < E.length), j < k → ¬ h ≤ E[j].1)
  case atStart => exact ⟨Bel.refl _, 0, by omega, by omega, rfl, fun j _ h => by omega⟩
  case round =>
    obtain ⟨hb, k, hr, hk, rfl, hall⟩ := hrel
    have HA := Hid.mk hall
    clear hall
    by_cases hlt : k < E.length
    · obtain ⟨g, rfl, c0, c1⟩ := hc k hlt
      have c0' := hb.cell c0
      have c1' := hb.cell c1
      clear hc c0 c1
      by_cases hge : h ≤ E[k].1
      · have hfin : Hid (X = k) := by show X = k; rw [HX.out]; exact nextF_hit hlt hge HA.out
        have hd : decide (E[k].1 ≥ h) = true := decide_eq_true hge
        generalize E[k].1 = pk at *
        generalize E[k].2 = ok at *
        go_wp2
        go_ret
        exact ⟨ret_int (by rw [hfin.out]), by (repeat (first | exact Bel.refl _ | assumption | refine Bel.step_alloc ?_ _ | refine Bel.step_drew ?_ | refine Bel.step_drewN ?_ _ | refine Bel.step_set ?_ (by simp <;> omega) _ | refine Bel.trans ?_ (by assumption)))⟩
      · have hstep : Hid (∀ j (hj : j < E.length), j < k + 1 → ¬ h ≤ E[j].1) := fun j hj hjk => by
          by_cases he : j = k
          · subst he; exact hge
          · exact HA.out j hj (by omega)
        have hd : decide (E[k].1 ≥ h) = false := decide_eq_false hge
        generalize E[k].1 = pk at *
        generalize E[k].2 = ok at *
        go_wp2
        go_roundg (E.length - (k + 1))
        case measure => omega
        case rel => exact ⟨by (repeat (first | exact Bel.refl _ | assumption | refine Bel.step_alloc ?_ _ | refine Bel.step_drew ?_ | refine Bel.step_drewN ?_ _ | refine Bel.step_set ?_ (by simp <;> omega) _ | refine Bel.trans ?_ (by assumption))), k + 1, rfl, by omega, by go_num, hstep.out⟩
    · have hfin : Hid (X = 0) := by show X = 0; rw [HX.out]; exact nextF_none (fun j hj => HA.out j hj (by omega))
      clear hc
      go_wp2
      go_ret
      exact ⟨ret_int (by rw [hfin.out]; rfl), by (repeat (first | exact Bel.refl _ | assumption | refine Bel.step_alloc ?_ _ | refine Bel.step_drew ?_ | refine Bel.step_drewN ?_ _ | refine Bel.step_set ?_ (by simp <;> omega) _ | refine Bel.trans ?_ (by assumption)))⟩

set_option maxRecDepth 100000 in
set_option maxHeartbeats 800000 in
theorem greatest_is (R : List Int) (v : Value) (w : World) (hP : IRow w v R) (hB : R.length ≤ 65536) :
    Calls Try.prog 82 #[v] w (RSum w (bestF R)) := by
  obtain ⟨ao, cap, rfl, hc⟩ := hP.open
  obtain ⟨X, hX⟩ : ∃ X, X = bestF R := ⟨_, rfl⟩
  have HX := Hid.mk hX
  rw [← hX]
  clear hX
  go_enter Try.func82, Try.ntmps82
  go_wp2
  go_loopg [3, 4, 9] R.length (fun r b m n wr => w = wr ∧ ∃ k : Nat, r = R.length - k ∧ k ≤ R.length ∧ n = .int .i64 k ∧ b = .int .i64 (bestTo R k).1 ∧ m = .int .i64 (bestTo R k).2)
  case atStart => exact ⟨rfl, 0, by omega, by omega, rfl, rfl, rfl⟩
  case round =>
    obtain ⟨rfl, k, hr, hk, rfl, rfl, rfl⟩ := hrel
    by_cases hlt : k < R.length
    · obtain ⟨g, rfl, c0⟩ := hc k hlt
      have HS : Hid (bestTo R (k + 1) = if (bestTo R k).2 < R[k] then ((k : Int), R[k]) else bestTo R k) := by
        show bestTo R (k + 1) = _
        rw [bestTo, List.getD_eq_getElem?_getD, List.getElem?_eq_getElem hlt]; rfl
      clear hc
      generalize R[k] = rk at *
      generalize bestTo R k = b at *
      obtain ⟨b1, b2⟩ := b
      simp only at HS
      by_cases hg : b2 < rk
      · rw [if_pos hg] at HS
        have hd : decide (rk > b2) = true := decide_eq_true hg
        go_wp2
        go_roundg (R.length - (k + 1))
        case measure => omega
        case rel => exact ⟨rfl, k + 1, rfl, by omega, by go_num, by rw [HS.out], by rw [HS.out]⟩
      · rw [if_neg hg] at HS
        have hd : decide (rk > b2) = false := decide_eq_false hg
        go_wp2
        go_roundg (R.length - (k + 1))
        case measure => omega
        case rel => exact ⟨rfl, k + 1, rfl, by omega, by go_num, by rw [HS.out], by rw [HS.out]⟩
    · have hfin : Hid (X = (bestTo R k).1) := by
        show X = _
        rw [HX.out, bestF, show k = R.length from by omega]
      clear hc
      generalize bestTo R k = b at *
      go_wp2
      go_ret
      exact ⟨ret_int hfin.out.symm, by (repeat (first | exact Bel.refl _ | assumption | refine Bel.step_alloc ?_ _ | refine Bel.step_drew ?_ | refine Bel.step_drewN ?_ _ | refine Bel.step_set ?_ (by simp <;> omega) _ | refine Bel.trans ?_ (by assumption)))⟩

end Go.Proofs.Ytgfildmmcbjpnab
