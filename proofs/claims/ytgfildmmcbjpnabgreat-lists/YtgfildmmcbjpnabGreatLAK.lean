import Derived.Test.YtgfildmmcbjpnabGreatLAI
import Derived.Test.YtgfildmmcbjpnabGreatLAJ
import Derived.Deep.RegionHeldLaw
import Derived.Deep.RegionLawGrows
import Derived.Deep.Onto
namespace Go.Proofs.YtgfildmmcbjpnabGreat
open Go.RowKit

theorem u64_range (op : BinOp) (a b : Int) (h : op = .xor ∨ op = .or) : 0 ≤ bits op .u64 a b ∧ bits op .u64 a b < 18446744073709551616 := by
  rcases h with rfl | rfl
  · show 0 ≤ IntKind.u64.wrap _ ∧ IntKind.u64.wrap _ < _
    rw [IntKind.wrap_u64]; omega
  · show 0 ≤ IntKind.u64.wrap _ ∧ IntKind.u64.wrap _ < _
    rw [IntKind.wrap_u64]; omega
theorem hsh_range (key : ByteArray) (l : UInt8) (n : List Nat) (t : ByteArray) : 0 ≤ hsh key l n t ∧ hsh key l n t < 18446744073709551616 := u64_range _ _ _ (Or.inl rfl)
theorem restF_range (h m : Int) (hm : 1 ≤ m) : 0 ≤ restF h m ∧ restF h m < m := by
  rw [restF, if_neg (by omega)]
  exact ⟨Int.emod_nonneg _ (by omega), Int.emod_lt_of_pos _ (by omega)⟩

set_option maxHeartbeats 400000 in
theorem rest_is (h m : Int) (w : World) (h0 : 0 ≤ h) (h1 : h < 18446744073709551616) (hm : m ≤ 65536) (hm0 : 0 ≤ m) :
    Calls Tryz.prog 115 #[.int .u64 h, .int .i64 m] w fun e w' => e = .returned (.int .i64 (restF h m)) ∧ w = w' := by
  by_cases hlt : m < 1
  · have HE : Hid (restF h m = 0) := by show restF h m = 0; rw [restF, if_pos hlt]
    generalize restF h m = X at *
    go_enter Tryz.func115, Tryz.ntmps115
    go_wp2
    go_ret
    exact ⟨ret_int HE.out.symm, rfl⟩
  · have HE : Hid (restF h m = h % m) := by show restF h m = h % m; rw [restF, if_neg hlt]
    have hr1 := Int.emod_nonneg h (show m ≠ 0 by omega)
    have hr2 := Int.emod_lt_of_pos h (show 0 < m by omega)
    generalize restF h m = X at *
    go_enter Tryz.func115, Tryz.ntmps115
    go_wp2
    go_ret
    exact ⟨ret_int HE.out.symm, rfl⟩

/-- entries, as cells -/
def icells (l : List EI) : List Value := l.flatMap fun b => [.int .u64 b.1, .int .i64 b.2]
theorem icells_len (l : List EI) : (icells l).length = l.length * 2 := by
  induction l with
  | nil => rfl
  | cons b l ih => simp only [icells, List.flatMap_cons, List.length_append, List.length_cons, List.length_nil] at ih ⊢; omega
theorem icells_get (l : List EI) (j : Nat) (h : j < l.length) : (icells l)[j * 2]? = some (.int .u64 l[j].1) ∧ (icells l)[j * 2 + 1]? = some (.int .i64 l[j].2) := by
  induction l generalizing j with
  | nil => simp at h
  | cons b l ih =>
    cases j with
    | zero => simp [icells]
    | succ j =>
      obtain ⟨h1, h2⟩ := ih j (by simpa using h)
      have e1 : (j + 1) * 2 = j * 2 + 1 + 1 := by omega
      rw [e1]
      simp only [icells, List.flatMap_cons, List.cons_append, List.nil_append, List.getElem?_cons_succ] at h1 h2 ⊢
      exact ⟨h1, h2⟩
theorem icells_snoc (L : List EI) (b : EI) : icells (L ++ [b]) = icells L ++ [.int .u64 b.1, .int .i64 b.2] := by simp [icells]
def EIAt (w : World) (v : Value) (l : List EI) : Prop := RowAt w v l.length (icells l)
theorem EIAt.later {a w : World} {v : Value} {l : List EI} (h : EIAt a v l) (k : Bel a w) : EIAt w v l := RowAt.later h k
theorem EIAt.open {w : World} {v : Value} {B : List EI} (h : EIAt w v B) : ∃ ao cap, v = .slice ao B.length cap ∧ ∀ j (hj : j < B.length), ∃ g, ao = some ⟨g, 0, none⟩ ∧ w.cell? ⟨g, j * 2, none⟩ = some (.int .u64 B[j].1) ∧ w.cell? ⟨g, j * 2 + 1, none⟩ = some (.int .i64 B[j].2) := by
  rcases h with ⟨h1, h2, _⟩ | ⟨g, cap, hv, hn, hg, hc⟩
  · exact ⟨none, 0, by rw [h1, h2], fun j hj => by omega⟩
  · exact ⟨_, cap, hv, fun j hj => ⟨g, rfl, hc _ _ (icells_get B j hj).1, hc _ _ (icells_get B j hj).2⟩⟩
/-- entries in a row of its own, from base on -/
def OwnE (base : Nat) (w : World) (v : Value) (B : List EI) : Prop := w.ownsRow base 75 2 v B.length (icells B)
theorem OwnE.ents {base : Nat} {w : World} {v : Value} {B : List EI} (h : OwnE base w v B) : EIAt w v B := RowAt.of_owns h
theorem OwnE.snoc {base : Nat} {w : World} {v : Value} {L : List EI} {b : EI} {n : Nat} (h : w.ownsRow base 75 2 v n (icells L ++ [.int .u64 b.1, .int .i64 b.2])) (hn : n = L.length + 1) : OwnE base w v (L ++ [b]) := by
  unfold OwnE
  rw [icells_snoc, List.length_append]
  subst hn
  exact h
/-- ints in a row -/
def IRow (w : World) (v : Value) (l : List Int) : Prop := RowAt w v l.length (l.map (Value.int .i64))
theorem IRow.later {a w : World} {v : Value} {l : List Int} (h : IRow a v l) (k : Bel a w) : IRow w v l := RowAt.later h k
theorem IRow.open {w : World} {v : Value} {l : List Int} (h : IRow w v l) : ∃ ao cap, v = .slice ao l.length cap ∧ ∀ j (hj : j < l.length), ∃ g, ao = some ⟨g, 0, none⟩ ∧ w.cell? ⟨g, j, none⟩ = some (.int .i64 l[j]) := by
  rcases h with ⟨h1, h2, _⟩ | ⟨g, cap, hv, hn, hg, hc⟩
  · exact ⟨none, 0, by rw [h1, h2], fun j hj => by omega⟩
  · exact ⟨_, cap, hv, fun j hj => ⟨g, rfl, hc j _ (by simp [hj])⟩⟩

theorem nextF_hit {E : List EI} {h : Int} {k : Nat} (hk : k < E.length) (he : h ≤ E[k].1) (hall : ∀ j (hj : j < E.length), j < k → ¬ h ≤ E[j].1) : nextF E h = k := by
  have : E.findIdx (fun e => h ≤ e.1) = k := by
    rw [List.findIdx_eq hk]
    exact ⟨by simpa using he, fun j hj => by simpa using hall j (by omega) hj⟩
  rw [nextF, this, if_pos hk]
theorem nextF_none {E : List EI} {h : Int} (hall : ∀ j (hj : j < E.length), ¬ h ≤ E[j].1) : nextF E h = 0 := by
  rw [nextF, if_neg]
  intro hlt
  have := List.findIdx_getElem (p := fun e : EI => decide (h ≤ e.1)) (w := hlt)
  exact hall _ hlt (by simpa using this)
def RNat (w : World) (x : Nat) (e : Ending) (w' : World) : Prop := e = .returned (.int .i64 (x : Int)) ∧ Bel w w'

set_option maxRecDepth 100000 in
set_option maxHeartbeats 800000 in
theorem next_is (E : List EI) (v : Value) (h : Int) (w : World) (hP : EIAt w v E) (hB : E.length ≤ 65536) :
    Calls Tryz.prog 120 #[v, .int .u64 h] w (RNat w (nextF E h)) := by
  obtain ⟨ao, cap, rfl, hc⟩ := hP.open
  obtain ⟨X, hX⟩ : ∃ X, X = nextF E h := ⟨_, rfl⟩
  have HX := Hid.mk hX
  rw [← hX]
  clear hX
  go_enter Tryz.func120, Tryz.ntmps120
  go_wp2
  go_loopg [9] E.length (fun r n wr => Bel w wr ∧ ∃ k : Nat, r = E.length - k ∧ k ≤ E.length ∧ n = .int .i64 k ∧ ∀ j (hj : j < E.length), j < k → ¬ h ≤ E[j].1)
  case atStart => exact ⟨Bel.refl _, 0, by omega, by omega, rfl, fun j _ h => by omega⟩
  case round =>
    obtain ⟨hb, k, hr, hk, rfl, hall⟩ := hrel
    have HA := Hid.mk hall
    clear hall
    by_cases hlt : k < E.length
    · obtain ⟨g, rfl, c0, c1⟩ := hc k hlt
      have c0' := hb.cell c0
      have c1' := hb.cell c1
      clear hc c0 c1
      by_cases hge : h ≤ E[k].1
      · have hfin : Hid (X = k) := by show X = k; rw [HX.out]; exact nextF_hit hlt hge HA.out
        have hd : decide (E[k].1 ≥ h) = true := decide_eq_true hge
        generalize E[k].1 = pk at *
        generalize E[k].2 = ok at *
        go_wp2
        go_ret
        exact ⟨ret_int (by rw [hfin.out]), by (repeat (first | exact Bel.refl _ | assumption | refine Bel.step_alloc ?_ _ | refine Bel.step_drew ?_ | refine Bel.step_drewN ?_ _ | refine Bel.step_set ?_ (by simp <;> omega) _ | refine Bel.trans ?_ (by assumption)))⟩
      · have hstep : Hid (∀ j (hj : j < E.length), j < k + 1 → ¬ h ≤ E[j].1) := fun j hj hjk => by
          by_cases he : j = k
          · subst he; exact hge
          · exact HA.out j hj (by omega)
        have hd : decide (E[k].1 ≥ h) = false := decide_eq_false hge
        generalize E[k].1 = pk at *
        generalize E[k].2 = ok at *
        go_wp2
        go_roundg (E.length - (k + 1))
        case measure => omega
        case rel => exact ⟨by (repeat (first | exact Bel.refl _ | assumption | refine Bel.step_alloc ?_ _ | refine Bel.step_drew ?_ | refine Bel.step_drewN ?_ _ | refine Bel.step_set ?_ (by simp <;> omega) _ | refine Bel.trans ?_ (by assumption))), k + 1, rfl, by omega, by go_num, hstep.out⟩
    · have hfin : Hid (X = 0) := by show X = 0; rw [HX.out]; exact nextF_none (fun j hj => HA.out j hj (by omega))
      clear hc
      go_wp2
      go_ret
      exact ⟨ret_int (by rw [hfin.out]; rfl), by (repeat (first | exact Bel.refl _ | assumption | refine Bel.step_alloc ?_ _ | refine Bel.step_drew ?_ | refine Bel.step_drewN ?_ _ | refine Bel.step_set ?_ (by simp <;> omega) _ | refine Bel.trans ?_ (by assumption)))⟩

set_option maxRecDepth 100000 in
set_option maxHeartbeats 800000 in
theorem greatest_is (R : List Int) (v : Value) (w : World) (hP : IRow w v R) (hB : R.length ≤ 65536) :
    Calls Tryz.prog 116 #[v] w (RSum w (bestF R)) := by
  obtain ⟨ao, cap, rfl, hc⟩ := hP.open
  obtain ⟨X, hX⟩ : ∃ X, X = bestF R := ⟨_, rfl⟩
  have HX := Hid.mk hX
  rw [← hX]
  clear hX
  go_enter Tryz.func116, Tryz.ntmps116
  go_wp2
  go_loopg [3, 4, 9] R.length (fun r b m n wr => w = wr ∧ ∃ k : Nat, r = R.length - k ∧ k ≤ R.length ∧ n = .int .i64 k ∧ b = .int .i64 (bestTo R k).1 ∧ m = .int .i64 (bestTo R k).2)
  case atStart => exact ⟨rfl, 0, by omega, by omega, rfl, rfl, rfl⟩
  case round =>
    obtain ⟨rfl, k, hr, hk, rfl, rfl, rfl⟩ := hrel
    by_cases hlt : k < R.length
    · obtain ⟨g, rfl, c0⟩ := hc k hlt
      have HS : Hid (bestTo R (k + 1) = if (bestTo R k).2 < R[k] then ((k : Int), R[k]) else bestTo R k) := by
        show bestTo R (k + 1) = _
        rw [bestTo, List.getD_eq_getElem?_getD, List.getElem?_eq_getElem hlt]; rfl
      clear hc
      generalize R[k] = rk at *
      generalize bestTo R k = b at *
      obtain ⟨b1, b2⟩ := b
      simp only at HS
      by_cases hg : b2 < rk
      · rw [if_pos hg] at HS
        have hd : decide (rk > b2) = true := decide_eq_true hg
        go_wp2
        go_roundg (R.length - (k + 1))
        case measure => omega
        case rel => exact ⟨rfl, k + 1, rfl, by omega, by go_num, by rw [HS.out], by rw [HS.out]⟩
      · rw [if_neg hg] at HS
        have hd : decide (rk > b2) = false := decide_eq_false hg
        go_wp2
        go_roundg (R.length - (k + 1))
        case measure => omega
        case rel => exact ⟨rfl, k + 1, rfl, by omega, by go_num, by rw [HS.out], by rw [HS.out]⟩
    · have hfin : Hid (X = (bestTo R k).1) := by
        show X = _
        rw [HX.out, bestF, show k = R.length from by omega]
      clear hc
      generalize bestTo R k = b at *
      go_wp2
      go_ret
      exact ⟨ret_int hfin.out.symm, by (repeat (first | exact Bel.refl _ | assumption | refine Bel.step_alloc ?_ _ | refine Bel.step_drew ?_ | refine Bel.step_drewN ?_ _ | refine Bel.step_set ?_ (by simp <;> omega) _ | refine Bel.trans ?_ (by assumption)))⟩

end Go.Proofs.YtgfildmmcbjpnabGreat

namespace Go.Proofs.YtgfildmmcbjpnabGreat
open Go.RowKit

/-- append to a row of one's own, as a step of a region that draws -/
theorem step_append_own {P : Program} {ops : Array Oper} {o : Oper} {a : Act} {w : World} {K : Act → World → Prop} {Q : Exit → Act → World → Prop} {E : Prop}
    (hg : o.guard = none) (s x : Operand) (t : TypeId) (hop : o.op = Op.call { callee := Callee.builtin Builtin.append, args := #[s, x], argTypes := #[t, t] })
    (base : Nat) (e : TypeId) (i : TypeInfo) (z : Value) (size bytes : Nat) (h1 : P.underlying t = some (.slice e)) (h2 : P.info? e = some i) (h3 : i.zero = some z) (h4 : i.size = size) (h5 : i.bytes = bytes) (h6 : z.cells.size = size) (h7 : 0 < size)
    (v : Value) (n : Nat) (xs : List Value) (hs : a.eval s = v) (hown : w.ownsRow base e size v n xs)
    (ad : Addr) (m c : Nat) (news : List Value) (hx : a.eval x = .slice (some ad) m c) (hn : news.length = m * size) (hc : ∀ j u, news[j]? = some u → w.cell? (ad.add j) = some u) (h1c : ∀ u ∈ news, u.oneCell' = true)
    (b1 : n + m ≤ maxLen) (b2 : (n + m) * bytes ≤ 140737488355328) (hbase : base ≤ w.heap.size)
    (hK : ∀ v' w', w'.ownsRow base e size v' (n + m) (xs ++ news) → w.grownBy w' v.ownBlock → K (a.put o.dst v') w') :
    if Region.wanted o (yielded ops a.tmps) = true then Oper.wp P o a w K Q else E := by
  have hw : Region.wanted o (yielded ops a.tmps) = true := by simp [Region.wanted, hg]
  rw [if_pos hw]
  obtain ⟨v', w', hrun, r1, r2, _⟩ := run_append_own (P := P) w base t o.type e i z size bytes h1 h2 h3 h4 h5 h6 h7 v n xs hown ad m c news hn hc h1c b1 b2 hbase
  unfold Oper.wp
  simp [execOp, hop, resolve, invoke, builtin, hs, hx, hrun, Result.andThen]
  exact hK v' w' r1 r2

theorem freeF_hit {S : List Int} {y : Int × Int} {k : Nat} (hk : k < S.length) (hfree : S.getD (stepOf S.length y k) 0 < 0) (hall : ∀ i, i < k → ¬ S.getD (stepOf S.length y i) 0 < 0) : freeF S y = some (stepOf S.length y k) := by
  rw [freeF, List.find?_eq_some_iff_getElem]
  refine ⟨by simpa using hfree, k, by simpa using hk, by simp, fun j hj => ?_⟩
  simpa using hall j hj
theorem freeF_none {S : List Int} {y : Int × Int} (hall : ∀ i, i < S.length → ¬ S.getD (stepOf S.length y i) 0 < 0) : freeF S y = none := by
  rw [freeF, List.find?_eq_none]
  intro x hx
  obtain ⟨i, hi, rfl⟩ := List.mem_map.1 hx
  simpa using hall i (by simpa using hi)
theorem stepOf_lt {n : Nat} (y : Int × Int) (i : Nat) (hn : 0 < n) : stepOf n y i < n := by
  unfold stepOf
  have h1 := Int.emod_nonneg (y.1 + i * y.2) (show (n : Int) ≠ 0 by omega)
  have h2 := Int.emod_lt_of_pos (y.1 + i * y.2) (show (0 : Int) < n by omega)
  omega
/-- slots, as entries -/
def slotE (S : List Int) : List EI := S.map fun o => (0, o)
theorem slotE_len (S : List Int) : (slotE S).length = S.length := by simp [slotE]
def freeI : Option Nat → Int
  | some k => k
  | none => -1
def RFree (w : World) (x : Option Nat) (e : Ending) (w' : World) : Prop := e = .returned (.int .i64 (freeI x)) ∧ Bel w w'

set_option maxRecDepth 100000 in
set_option maxHeartbeats 800000 in
theorem firstFree_is (S : List Int) (v : Value) (y : Int × Int) (w : World) (hP : EIAt w v (slotE S)) (hB : S.length ≤ 300) (hy1 : 0 ≤ y.1) (hy2 : y.1 ≤ 300) (hy3 : 0 ≤ y.2) (hy4 : y.2 ≤ 300) :
    Calls Tryz.prog 99 #[v, .agg #[.int .i64 y.1, .int .i64 y.2]] w (RFree w (freeF S y)) := by
  obtain ⟨ao, cap, rfl, hc⟩ := hP.open
  rw [slotE_len]
  obtain ⟨X, hX⟩ : ∃ X, X = freeF S y := ⟨_, rfl⟩
  have HX := Hid.mk hX
  rw [← hX]
  clear hX
  obtain ⟨off, sk⟩ := y
  simp only at hy1 hy2 hy3 hy4 ⊢
  go_enter Tryz.func99, Tryz.ntmps99
  go_wp2
  obtain ⟨wm, hwm⟩ : ∃ wm, wm = w.alloc (.cells #[.int .i64 off, .int .i64 sk] 147) := ⟨_, rfl⟩
  have m0 : wm.cell? ⟨w.heap.size, 0, none⟩ = some (.int .i64 off) := by rw [hwm]; simp
  have m1 : wm.cell? ⟨w.heap.size, 1, none⟩ = some (.int .i64 sk) := by rw [hwm]; simp
  have hwb : Bel w wm := by rw [hwm]; exact (Bel.refl w).step_alloc _
  rw [← hwm]
  clear hwm
  go_loopg [9] S.length (fun r n wr => wm = wr ∧ ∃ k : Nat, r = S.length - k ∧ k ≤ S.length ∧ n = .int .i64 k ∧ ∀ i, i < k → ¬ S.getD (stepOf S.length (off, sk) i) 0 < 0)
  case atStart => exact ⟨rfl, 0, by omega, by omega, rfl, fun j h => by omega⟩
  case round =>
    obtain ⟨rfl, k, hr, hk, rfl, hall⟩ := hrel
    have HA := Hid.mk hall
    clear hall
    by_cases hlt : k < S.length
    · have hk1 : 0 ≤ (k : Int) * sk := Int.mul_nonneg (by omega) hy3
      have hk2 : (k : Int) * sk ≤ 300 * 300 := Int.mul_le_mul (by omega) hy4 hy3 (by omega)
      have hjl := stepOf_lt (off, sk) k (show 0 < S.length by omega)
      have hj : (off + (k : Int) * sk) % (S.length : Int) = ((stepOf S.length (off, sk) k : Nat) : Int) := by
        have := Int.emod_nonneg (off + (k : Int) * sk) (show (S.length : Int) ≠ 0 by omega)
        exact (Int.toNat_of_nonneg this).symm
      obtain ⟨g, rfl, c0, c1⟩ := hc (stepOf S.length (off, sk) k) (by rw [slotE_len]; exact hjl)
      have c1' := hwb.cell c1
      have hsv : (slotE S)[stepOf S.length (off, sk) k]'(by rw [slotE_len]; exact hjl) = (0, S.getD (stepOf S.length (off, sk) k) 0) := by
        simp [slotE, List.getD_eq_getElem?_getD, hjl]
      rw [hsv] at c1'
      simp only at c1'
      clear hc c0 c1 hsv
      by_cases hf : S.getD (stepOf S.length (off, sk) k) 0 < 0
      · have hfin : Hid (freeI X = ((stepOf S.length (off, sk) k : Nat) : Int)) := by
          show freeI X = _
          rw [HX.out, freeF_hit hlt hf HA.out]; rfl
        generalize S.getD (stepOf S.length (off, sk) k) 0 = sv at *
        generalize stepOf S.length (off, sk) k = j at *
        have hnz : ((S.length : Int) == 0) = false := by rw [beq_eq_false_iff_ne]; omega
        go_wp2
        go_ret
        exact ⟨ret_int hfin.out.symm, hwb⟩
      · have hstep : Hid (∀ i, i < k + 1 → ¬ S.getD (stepOf S.length (off, sk) i) 0 < 0) := fun i hi => by
          by_cases he : i = k
          · subst he; exact hf
          · exact HA.out i (by omega)
        generalize S.getD (stepOf S.length (off, sk) k) 0 = sv at *
        generalize stepOf S.length (off, sk) k = j at *
        have hnz : ((S.length : Int) == 0) = false := by rw [beq_eq_false_iff_ne]; omega
        go_wp2
        go_roundg (S.length - (k + 1))
        case measure => omega
        case rel => exact ⟨rfl, k + 1, rfl, by omega, by go_num, hstep.out⟩
    · have hfin : Hid (freeI X = -1) := by
        show freeI X = -1
        rw [HX.out, freeF_none (fun i hi => HA.out i (by omega))]; rfl
      clear hc
      go_wp2
      go_ret
      exact ⟨ret_int hfin.out.symm, hwb⟩

end Go.Proofs.YtgfildmmcbjpnabGreat

namespace Go.Proofs.YtgfildmmcbjpnabGreat
open Go.RowKit

/-- ways, as cells -/
def wcells (l : List (Int × Int)) : List Value := l.flatMap fun b => [.int .i64 b.1, .int .i64 b.2]
theorem wcells_snoc (L : List (Int × Int)) (b : Int × Int) : wcells (L ++ [b]) = wcells L ++ [.int .i64 b.1, .int .i64 b.2] := by simp [wcells]
theorem wcells_get (l : List (Int × Int)) (j : Nat) (h : j < l.length) : (wcells l)[j * 2]? = some (.int .i64 l[j].1) ∧ (wcells l)[j * 2 + 1]? = some (.int .i64 l[j].2) := by
  induction l generalizing j with
  | nil => simp at h
  | cons b l ih =>
    cases j with
    | zero => simp [wcells]
    | succ j =>
      obtain ⟨h1, h2⟩ := ih j (by simpa using h)
      have e1 : (j + 1) * 2 = j * 2 + 1 + 1 := by omega
      rw [e1]
      simp only [wcells, List.flatMap_cons, List.cons_append, List.nil_append, List.getElem?_cons_succ] at h1 h2 ⊢
      exact ⟨h1, h2⟩
def OwnW (base : Nat) (w : World) (v : Value) (B : List (Int × Int)) : Prop := w.ownsRow base 147 2 v B.length (wcells B)
theorem OwnW.snoc {base : Nat} {w : World} {v : Value} {L : List (Int × Int)} {b : Int × Int} {n : Nat} (h : w.ownsRow base 147 2 v n (wcells L ++ [.int .i64 b.1, .int .i64 b.2])) (hn : n = L.length + 1) : OwnW base w v (L ++ [b]) := by
  unfold OwnW
  rw [wcells_snoc, List.length_append]
  subst hn
  exact h
def RWays (w : World) (L : List (Int × Int)) (e : Ending) (w' : World) : Prop := ∃ v, e = .returned v ∧ Bel w w' ∧ OwnW w.heap.size w' v L
theorem ints_nil (w : World) : IntsAt w (.slice none 0 0) [] := Or.inl ⟨rfl, rfl, rfl⟩

set_option maxRecDepth 100000 in
set_option maxHeartbeats 600000 in
theorem ways_is (c : Cfg) (B : List BK) (v : Value) (w : World) (hP : PoolAt w v B) (hB : PoolOK B) (hc : c.OK) :
    Calls Tryz.prog 97 #[.agg c.cells, v] w (RWays w (B.map (wayOf c))) := by
  obtain ⟨i0, hi, hz0, hz1, hz2⟩ := info_parts Tryz.infoWay
  obtain ⟨h8, hall⟩ := hB
  obtain ⟨hs1, hs2, hk16⟩ : 3 ≤ c.slots ∧ c.slots ≤ 211 ∧ c.key.size = 16 := ⟨hc.2.2.1, hc.2.2.2.1, hc.2.2.2.2.2.2.2.2.2.1⟩
  obtain ⟨ao, cap, rfl, hcell⟩ := hP.open
  have hW : ∀ k (h : k < B.length), (B.take (k + 1)).map (wayOf c) = (B.take k).map (wayOf c) ++ [wayOf c B[k]] := fun k h => by rw [List.take_succ_eq_append_getElem h, List.map_append]; rfl
  have hF : ∀ b : BK, wayOf c b = (restF (hsh c.key 111 [] b.1) c.slots, restF (hsh c.key 115 [] b.1) (c.slots - 1) + 1) := fun _ => rfl
  have HE : Hid ((B.take B.length).map (wayOf c) = B.map (wayOf c)) := by rw [List.take_length]; rfl
  generalize wayOf c = wy at *
  obtain ⟨alg, slots, points, probes, key, formats⟩ := c
  simp only [Cfg.cells] at *
  clear hc
  go_enter Tryz.func97, Tryz.ntmps97
  go_wp2_with (first | (at_make; refine wpList_make_own _ rfl _ _ 142 rfl (w.heap.size + 1) 147 i0 (.agg #[.int .i64 0, .int .i64 0]) 2 Tryz.underlying142 hi hz0 hz1 _ _ _ B.length rfl rfl ?b1 ?b2 ?b3 ?b4 ?_))
  case b1 => rfl
  case b2 => rw [hz2]; omega
  case b3 => unfold maxLen; omega
  case b4 => simp
  intro w1 hown1 hgrow1
  obtain ⟨wm, hwm⟩ : ∃ wm, wm = w.alloc (.cells #[.int .i64 alg, .int .i64 slots, .int .i64 points, .int .i64 probes, .string key, .int .i64 formats] 30) := ⟨_, rfl⟩
  have hb1 : Bel wm w1 := by rw [hwm]; exact (Bel.refl _).grown hgrow1 (fun g hg => by cases hg)
  have hown : OwnW (w.heap.size + 1) w1 (.slice (some ⟨w.heap.size + 1, 0, none⟩) 0 B.length) [] := hown1
  have m1 : wm.cell? ⟨w.heap.size, 1, none⟩ = some (.int .i64 slots) := by rw [hwm]; simp
  have m4 : wm.cell? ⟨w.heap.size, 4, none⟩ = some (.string key) := by rw [hwm]; simp
  have hwb : Bel w wm := by rw [hwm]; exact (Bel.refl w).step_alloc _
  have hsz : wm.heap.size = w.heap.size + 1 := by rw [hwm]; simp
  clear hgrow1 hown1 hwm
  generalize (Value.slice (some ⟨w.heap.size + 1, 0, none⟩) 0 B.length) = v1 at *
  go_wp2
  go_loopg [5, 15] B.length (fun r vL n wr => Bel wm wr ∧ ∃ (k : Nat), r = B.length - k ∧ k ≤ B.length ∧ n = .int .i64 k ∧ OwnW (w.heap.size + 1) wr vL ((B.take k).map wy))
  case atStart => exact ⟨hb1, 0, by omega, by omega, rfl, by simpa using hown⟩
  case round =>
    obtain ⟨hb, k, hr, hk, rfl, hL⟩ := hrel
    have hwr := hb.size
    have hwl : w.heap.size < wr.heap.size := by omega
    have hLl : ((B.take k).map wy).length ≤ 8 := by simp; omega
    have HO := Hid.mk hL
    have n1 := hb.cell m1
    have n4 := hb.cell m4
    clear hb1 hown hL
    by_cases hlt : k < B.length
    · obtain ⟨g, rfl, c0, c1⟩ := hcell k hlt
      have c0' := (hwb.trans hb).cell c0
      have c1' := (hwb.trans hb).cell c1
      have HS := Hid.mk (hW k hlt)
      have hid := (hall _ (List.getElem_mem hlt)).2.1
      rw [hF] at HS
      clear hcell c0 c1 hW hF
      generalize B[k] = bk at *
      obtain ⟨idk, wk⟩ := bk
      simp only at c0' c1' HS hid
      have hO := fun wx => hash_is key 111 [] (.slice none 0 0) idk wx (ints_nil wx) (by decide) (by omega) (by omega)
      have hZ := fun wx => hash_is key 115 [] (.slice none 0 0) idk wx (ints_nil wx) (by decide) (by omega) (by omega)
      have rO := hsh_range key 111 [] idk
      have rZ := hsh_range key 115 [] idk
      generalize hsh key 111 [] idk = x1 at *
      generalize hsh key 115 [] idk = x2 at *
      generalize (B.take k).map wy = L at *
      obtain ⟨rO1, rO2⟩ := rO
      obtain ⟨rZ1, rZ2⟩ := rZ
      go_wp2_with fail
      refine (hO _).mono ?_
      rintro e w2 ⟨rfl, hb2⟩
      have hbr : Bel wr w2 := Bel.trans (Bel.step_alloc (Bel.refl wr) _) hb2
      have b0 : w2.cell? ⟨wr.heap.size, 0, none⟩ = some (.string idk) := hb2.cell (by simp)
      have q1 := hbr.cell n1
      have q4 := hbr.cell n4
      clear hb2
      go_wp2_with fail
      refine (hZ _).mono ?_
      rintro e w3 ⟨rfl, hb3⟩
      have hbr3 : Bel wr w3 := hbr.trans hb3
      have s1 := hbr3.cell n1
      have hbm3 : Bel wm w3 := hb.trans hbr3
      have hO3 : Hid (OwnW (w.heap.size + 1) w3 u5 L) := World.ownsRow.kept HO.out (row := none) ⟨hbr3.below.os, hbr3.below.tape, hbr3.below.output, hbr3.size, fun k hk _ => hbr3.block k hk⟩ (by
        cases hv : u5.ownBlock
        · exact Or.inl rfl
        · exact Or.inr (by simp))
      have hw3 := hbm3.size
      clear hO hZ hb3 q1 q4 b0 n1 n4 hbr hbr3 HO
      go_wp2_with fail
      have y1 := restF_range x1 slots (by omega)
      have y2 := restF_range x2 (slots - 1) (by omega)
      obtain ⟨y11, y12⟩ := y1
      obtain ⟨y21, y22⟩ := y2
      have hR1 := fun wx => rest_is x1 slots wx (by omega) (by omega) (by omega) (by omega)
      have hR2 := fun wx => rest_is x2 (slots - 1) wx (by omega) (by omega) (by omega) (by omega)
      generalize restF x1 slots = r1 at *
      generalize restF x2 (slots - 1) = r2 at *
      have hwa : IntKind.i64.wrap (slots - 1) = slots - 1 := by rw [IntKind.wrap_i64]; omega
      have hwb2 : IntKind.i64.wrap (r2 + 1) = r2 + 1 := by rw [IntKind.wrap_i64]; omega
      go_region_held_law (fun w' => Bel wm w' ∧ w'.cell? ⟨w.heap.size, 1, none⟩ = some (.int .i64 slots)) ((exact ⟨by (repeat (first | exact Bel.refl _ | assumption | refine Bel.step_alloc ?_ _ | refine Bel.step_drew ?_ | refine Bel.step_drewN ?_ _ | refine Bel.step_set ?_ (by simp <;> omega) _ | refine Bel.trans ?_ (by assumption))), Bel.cell (a := wm) (by (repeat (first | exact Bel.refl _ | assumption | refine Bel.step_alloc ?_ _ | refine Bel.step_drew ?_ | refine Bel.step_drewN ?_ _ | refine Bel.step_set ?_ (by simp <;> omega) _ | refine Bel.trans ?_ (by assumption)))) m1⟩))
        ((first
          | (go_at_call_of 115 x1; refine (hR1 _).mono ?_; rintro e w4 ⟨rfl, rfl⟩)
          | (go_at_call_of 115 x2; refine (hR2 _).mono ?_; rintro e w4 ⟨rfl, rfl⟩)
          | (refine step_append_own rfl (.tmp 29) (.tmp 41) 142 rfl (w.heap.size + 1) 147 i0 (.agg #[.int .i64 0, .int .i64 0]) 2 16 Tryz.underlying142 hi hz0 hz1 hz2 rfl (by decide) u5 L.length (wcells L) (by simp [Act.eval]) (World.ownsRow.alloc hO3.out _) ⟨w3.heap.size, 0, none⟩ 1 1 [.int .i64 r1, .int .i64 (r2 + 1)] (by simp [Act.eval]) rfl (two_new _ _ _ _ _ rfl) (two_one rfl rfl) (by unfold maxLen; omega) (by omega) (by simp; omega) ?_
             intro v5 w5 hown5 hgrow5
             have hb5 : Bel wm w5 := by
               first
               | exact ((hbm3.step_drew).step_alloc _).grown hgrow5 (fun g hg => by have := (World.ownsRow.lt hO3.out g hg).1; omega)
               | exact ((hbm3.step_alloc _).step_drew).grown hgrow5 (fun g hg => by have := (World.ownsRow.lt hO3.out g hg).1; omega)
             have H5 := Hid.mk (OwnW.snoc (b := (r1, r2 + 1)) hown5 rfl)
             clear hown5 hgrow5)))
      all_goals
        go_wp2_with fail
        go_roundg (B.length - (k + 1))
        case measure => omega
        case rel => exact ⟨hb5, k + 1, rfl, by omega, by go_num, by rw [HS.out]; exact H5.out⟩
    · clear hcell
      go_wp2
      go_ret
      exact ⟨_, rfl, hwb.trans hb, by have := HO.out; rw [show k = B.length by omega, HE.out] at this; exact World.ownsRow.mono this (by omega)⟩

end Go.Proofs.YtgfildmmcbjpnabGreat
