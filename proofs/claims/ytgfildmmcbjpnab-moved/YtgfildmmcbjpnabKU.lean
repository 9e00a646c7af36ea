import Derived.Test.YtgfildmmcbjpnabKT
import Derived.Deep.QuietTactic
import Derived.BigQuiet
namespace Go.Proofs.Ytgfildmmcbjpnab
open Go.RowKit

/-- what 'latest' keeps from round to round: j frames of its own, all empty -/
def LInv (p : Nat) (L : List Value) (w : World) (j : Nat) (wr : World) : Prop := But [p] w wr ∧ ∃ vf xs, WAt p (L.set 18 vf) wr ∧ wr.ownsRow w.heap.size 9 1 vf j xs ∧ ∀ x ∈ xs, x = .string ByteArray.empty
theorem LInv.later {p : Nat} {L : List Value} {w : World} {j : Nat} {wr wr' : World} (h : LInv p L w j wr) (b : Bel wr wr') : LInv p L w j wr' := by
  obtain ⟨h1, vf, xs, h2, h3, h4⟩ := h
  exact ⟨h1.step b, vf, xs, h2.later b, own_later h3 b, h4⟩
theorem LInv.next {p : Nat} {L : List Value} {w : World} {j : Nat} {wr w' : World} {e : Ending} {vf : Value} {xs : List Value} (hb : But [p] w wr) (hW : WAt p (L.set 18 vf) wr) (hr : wr.ownsRow w.heap.size 9 1 vf j xs) (hx : ∀ x ∈ xs, x = .string ByteArray.empty) (hp : p < w.heap.size)
    (h : RKeep w.heap.size p j vf xs wr e w') : LInv p L w (j + 1) w' := by
  obtain ⟨-, g, cap, w1, hbt, rfl, hown, hg⟩ := h
  have hlt : ∀ k, vf.ownBlock = some k → w.heap.size ≤ k := fun k hk => (World.ownsRow.lt hr k hk).1
  have hpn : p ∉ vf.ownBlock.toList := fun hm => by
    have := hlt p (by simpa using hm)
    omega
  have hgp : p ≠ g := by
    rcases hg with h1 | h1
    · have := hlt g h1; omega
    · have := hb.size; omega
  have hb1 : But [p] w w1 := But.mk (hbt.os.trans hb.os) (hbt.tape.trans hb.tape) (hbt.output.trans hb.output) (Nat.le_trans hb.size hbt.size) (fun k hk hkp => by
    rw [hbt.block k (Nat.lt_of_lt_of_le hk hb.size) (fun hm => by have := hlt k (by simpa using hm); omega)]
    exact hb.block k hk hkp)
  have hW1 := (hW.but hbt hpn).set 18 (sl g (j + 1) cap)
  rw [List.set_set] at hW1
  refine ⟨hb1.set (by simp) _, _, _, hW1, own_but hown ((But.refl [p] w1).set (by simp) _) (fun k hk hm => ?_), ?_⟩
  · simp [sl, Value.ownBlock] at hk hm
    omega
  · intro x hx1
    rcases List.mem_append.1 hx1 with h1 | h1
    · exact hx x h1
    · simpa using h1

theorem LInv.cells {p : Nat} {L : List Value} {w : World} {j : Nat} {wr : World} (h : LInv p L w j wr) (hL : 18 < L.length) (hj : 0 < j) : ∃ g cap, wr.cell? ⟨p, 18, none⟩ = some (.slice (some ⟨g, 0, none⟩) j cap) ∧ ∀ i, i < j → wr.cell? ⟨g, i, none⟩ = some (.string ByteArray.empty) := by
  obtain ⟨-, vf, xs, hW, hr, hx⟩ := h
  obtain ⟨g, cap, hv, -, -⟩ := World.ownsRow.form hr hj
  subst hv
  refine ⟨g, cap, hW.1 18 _ (List.getElem?_set_self hL), fun i hi => ?_⟩
  have hxl : xs.length = j := by simpa using hr.1
  have hc := World.ownsRow.cellAt hr i (by omega)
  rw [List.getElem?_eq_getElem (by omega)] at hc
  rw [hc, hx _ (List.getElem_mem _)]
theorem LInv.other {p : Nat} {L : List Value} {w : World} {j : Nat} {wr : World} (h : LInv p L w j wr) {o : Nat} {u : Value} (ho : o ≠ 18) (hu : L[o]? = some u) : wr.cell? ⟨p, o, none⟩ = some u := by
  obtain ⟨-, vf, xs, hW, -, -⟩ := h
  exact hW.1 o u (by rw [List.getElem?_set_ne (fun e => ho e.symm)]; exact hu)
theorem wrap64_range (x : Int) : I64 (wrap64 x) := by unfold I64 wrap64; omega

def ROld (w : World) (e : Ending) (w' : World) : Prop := e = .returned (.tuple #[]) ∧ Bel w w'

set_option maxRecDepth 100000 in
set_option maxHeartbeats 1000000 in
theorem oldE_is (p q g n cap : Nat) (d b : Int) (w : World) (c7 : w.cell? ⟨p, 7, none⟩ = some (.pointer (some ⟨q, 0, none⟩))) (c18 : w.cell? ⟨p, 18, none⟩ = some (.slice (some ⟨g, 0, none⟩) n cap)) (hn : 0 < n) (hn2 : n ≤ 100)
    (hx : ∀ j, j < n → w.cell? ⟨g, j, none⟩ = some (.string ByteArray.empty)) (hb : I64 b) :
    Calls Try.prog 39 #[.pointer (some ⟨p, 0, none⟩), .int .i64 d, .int .i64 b] w (ROld w) := by
  have hpk := fun wx => pick_is (b.tdiv 2) n wx (half_range hb) (by omega) (by omega)
  obtain ⟨h1, h2⟩ := pickF_range (b.tdiv 2) n (by omega)
  obtain ⟨m, hm⟩ := Int.eq_ofNat_of_zero_le h1
  rw [hm] at hpk h2
  have hxm := hx m (by omega)
  have hml : m < n := by omega
  have hne : ((n : Int) == 0) = false := by rw [beq_eq_false_iff_ne]; omega
  clear h1 hm hx h2
  unfold I64 at hb
  go_enter Try.func39, Try.ntmps39
  go_wp2_with fail
  go_quiet ((go_at_call 32; refine Calls.quiet_of_same ((hpk _).mono fun e w2 h => ⟨h.1, h.2.symm⟩)))
  go_wp2_with fail
  · refine (serve_is _ _ _).mono ?_
    rintro e w2 ⟨rfl, rfl⟩
    go_wp2
    (try simp only [Exit.inBlock, Exit.then]); refine bodyPost_ret (results_none rfl _ _ _) rfl ?_
    exact ⟨rfl, by (repeat (first | exact Bel.refl _ | assumption | refine Bel.step_alloc ?_ _ | refine Bel.step_drew ?_ | refine Bel.step_drewN ?_ _ | refine Bel.step_set ?_ (by simp <;> omega) _ | refine Bel.trans ?_ (by assumption)))⟩
  · refine (receive_is _ _ _ _).mono ?_
    rintro e w2 ⟨rfl, rfl⟩
    go_wp2
    go_end0
    exact ⟨rfl, by (repeat (first | exact Bel.refl _ | assumption | refine Bel.step_alloc ?_ _ | refine Bel.step_drew ?_ | refine Bel.step_drewN ?_ _ | refine Bel.step_set ?_ (by simp <;> omega) _ | refine Bel.trans ?_ (by assumption)))⟩

def RLat (p : Nat) (L : List Value) (w : World) (e : Ending) (w' : World) : Prop := (∃ ok, e = .returned (.bool ok)) ∧ LInv p L w 3 w'

set_option maxRecDepth 100000 in
set_option maxHeartbeats 1000000 in
theorem latest_is (p q gs cs : Nat) (L : List Value) (b fo f g : Int) (w : World) (hW : WAt p L w) (hL : 18 < L.length) (h7 : L[7]? = some (.pointer (some ⟨q, 0, none⟩))) (h13 : L[13]? = some (.int .i64 fo)) (h16 : L[16]? = some (.slice (some ⟨gs, 0, none⟩) 1 cs)) (h18 : L[18]? = some (.slice none 0 0))
    (cf : w.cell? ⟨gs, 0, none⟩ = some (.int .i64 f)) (hb : I64 b) (hgn : ∀ wx, But [p] w wx → Calls Try.prog 50 #[.pointer (some ⟨q, 0, none⟩)] wx fun e w' => e = .returned (.int .i64 g) ∧ wx = w') :
    Calls Try.prog 42 #[.pointer (some ⟨p, 0, none⟩), .int .i64 0, .int .i64 b] w (RLat p L w) := by
  have hplt := hW.lt (by omega)
  have c7 := hW.1 7 _ h7
  have c13 := hW.1 13 _ h13
  have c16 := hW.1 16 _ h16
  have hpk := fun wx => pick_is b 3 wx hb (by omega) (by omega)
  generalize pickF b 3 = m3 at hpk
  have hL0 : L.set 18 (.slice none 0 0) = L := by
    refine List.ext_getElem? fun i => ?_
    by_cases hi : i = 18
    · subst hi; rw [List.getElem?_set_self hL, h18]
    · rw [List.getElem?_set_ne (fun e => hi e.symm)]
  have HI0 : Hid (LInv p L w 0 w) := ⟨But.refl _ _, .slice none 0 0, [], by rw [hL0]; exact hW, World.ownsRow_nil _ _ _ _, fun x hx => by cases hx⟩
  have HH : Hid ((18 < L.length) ∧ L[7]? = some (.pointer (some ⟨q, 0, none⟩)) ∧ I64 b) := ⟨hL, h7, hb⟩
  have HG := Hid.mk hgn
  clear hW h7 h13 h16 h18 hL0 hb hgn hL
  go_enter Try.func42, Try.ntmps42
  go_wp2_with fail
  go_quiet (fail)
  go_wp2_with fail
  refine (held_is _ _ _).mono ?_
  rintro e w2 ⟨rfl, rfl⟩
  go_wp2_with fail
  refine (image_is _ _ _).mono ?_
  rintro e w2 ⟨rfl, rfl⟩
  go_wp2_with fail
  refine (image_is _ _ _).mono ?_
  rintro e w2 ⟨rfl, rfl⟩
  go_wp2_with fail
  refine (most_is _ _ _).mono ?_
  rintro e w2 ⟨rfl, rfl⟩
  go_wp2
  go_loopg [15] 3 (fun r nk wr => ∃ j : Nat, nk = .int .i64 (j : Int) ∧ j ≤ 3 ∧ r = 3 - j ∧ LInv p L w j wr)
  case atStart => exact ⟨0, rfl, by omega, rfl, HI0.out.later (by (repeat (first | exact Bel.refl _ | assumption | refine Bel.step_alloc ?_ _ | refine Bel.step_drew ?_ | refine Bel.step_drewN ?_ _ | refine Bel.step_set ?_ (by simp <;> omega) _ | refine Bel.trans ?_ (by assumption))))⟩
  case round =>
    obtain ⟨j, rfl, hj, rfl, hinv⟩ := hrel
    have c7r := hinv.other (o := 7) (by decide) HH.out.2.1
    by_cases hj3 : j < 3
    · obtain ⟨hbt, vf, xs, hWr, hrow, hx⟩ := hinv
      have hrd := kround_is w.heap.size p q j 0 0 vf xs wr c7r (hWr.1 18 _ (List.getElem?_set_self HH.out.1)) (hWr.2 18 (by rw [List.length_set]; exact HH.out.1)) hrow (by omega) hbt.size (fun e => by have := (World.ownsRow.lt hrow p e).1; omega)
      have hnx := fun e w' (h : RKeep w.heap.size p j vf xs wr e w') => LInv.next hbt hWr hrow hx hplt h
      have hj1 : decide ((j : Int) < 3) = true := decide_eq_true (by omega)
      clear hbt hWr hrow hx
      go_wp2_with fail
      refine hrd.mono ?_
      intro e w2 hr
      have hi2 := hnx e w2 hr
      obtain rfl : e = .returned (.tuple #[]) := hr.1
      have c7s := hi2.other (o := 7) (by decide) HH.out.2.1
      have HI2 := Hid.mk hi2
      clear hrd hnx hr hi2 c7r
      go_wp2_with fail
      refine (hpk _).mono ?_
      rintro e w3 ⟨rfl, rfl⟩
      by_cases hm : 0 < m3
      · have hm1 : decide (m3 > 0) = true := decide_eq_true hm
        by_cases hj2 : j < 2
        · have hj4 : decide ((j : Int) < 2) = true := decide_eq_true (by omega)
          obtain ⟨g1, cap1, c18, hxs⟩ := HI2.out.cells HH.out.1 (by omega)
          have hol := fun b' (hb' : I64 b') => oldE_is p q g1 (j + 1) cap1 0 b' w2 c7s c18 (by omega) (by omega) hxs hb'
          clear hxs
          go_wp2_with fail
          refine (hol _ (wrap64_range _)).mono ?_
          rintro e w4 ⟨rfl, hb4⟩
          have HI4 := Hid.mk (HI2.out.later hb4)
          go_wp2
          go_roundg (3 - (j + 1))
          case measure => omega
          case rel => exact ⟨j + 1, by go_num, by omega, rfl, HI4.out⟩
        · have hj4 : decide ((j : Int) < 2) = false := decide_eq_false (by omega)
          go_wp2
          go_roundg (3 - (j + 1))
          case measure => omega
          case rel => exact ⟨j + 1, by go_num, by omega, rfl, HI2.out⟩
      · have hm1 : decide (m3 > 0) = false := decide_eq_false hm
        go_wp2
        go_roundg (3 - (j + 1))
        case measure => omega
        case rel => exact ⟨j + 1, by go_num, by omega, rfl, HI2.out⟩
    · obtain rfl : j = 3 := by omega
      have HI3 := Hid.mk hinv
      have hgn := HG.out wr hinv.1
      clear hinv
      go_wp2_with fail
      refine (held_is _ _ _).mono ?_
      rintro e w2 ⟨rfl, rfl⟩
      go_wp2_with fail
      · go_ret
        exact ⟨⟨_, rfl⟩, HI3.out⟩
      · refine hgn.mono ?_
        rintro e w2 ⟨rfl, rfl⟩
        go_wp2
        all_goals go_ret
        all_goals exact ⟨⟨_, rfl⟩, HI3.out⟩

end Go.Proofs.Ytgfildmmcbjpnab
