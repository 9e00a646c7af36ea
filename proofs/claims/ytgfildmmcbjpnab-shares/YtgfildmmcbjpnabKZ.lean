import Derived.Test.YtgfildmmcbjpnabKY
namespace Go.Proofs.Ytgfildmmcbjpnab
open Go.RowKit

theorem and_held {held part : Int} (hh : held = 16 ∨ held = 32 ∨ held = 64) (hp : FS part) : bits BinOp.and IntKind.i64 held part = 0 := by
  rcases hp with (⟨_, h⟩ | ⟨_, h⟩) | hp
  · exact absurd shAll h
  · exact absurd mvAll h
  · rcases hh with rfl | rfl | rfl <;> rcases hp with rfl | rfl | rfl | rfl | rfl <;> decide

theorem cfg0_ok (x : ByteArray) (hx : x.size = 16) : Cfg.OK ⟨1, 13, 2, 3, x, 3⟩ := by
  refine ⟨by simp, by simp, by simp, by simp, ?_, by simp, by simp, by simp, by simp, hx, by simp, by simp⟩
  intro d h1 h2
  have hd : d < 13 := by simp only at h2; omega
  rcases (show d = 2 ∨ d = 3 ∨ d = 4 ∨ d = 5 ∨ d = 6 ∨ d = 7 ∨ d = 8 ∨ d = 9 ∨ d = 10 ∨ d = 11 ∨ d = 12 by omega) with rfl | rfl | rfl | rfl | rfl | rfl | rfl | rfl | rfl | rfl | rfl <;> simp

theorem WAt.new (w : World) (cs : Array Value) (t : TypeId) (hc : cs.size ≤ 100) : WAt w.heap.size cs.toList (w.alloc (.cells cs t)) := by
  have h := World.ownsRow_lit (base := w.heap.size) (e := t) w cs cs.size (Nat.le_refl _) (by unfold maxLen; omega) (Nat.mul_one _).symm
  refine ⟨fun o u hu => ?_, fun o ho => World.ownsRow.frozenAt h o⟩
  have hl := (List.getElem?_eq_some_iff.1 hu).1
  exact (World.ownsRow.cellAt h o (by simpa using hl)).trans hu
theorem box_is (w : World) (x : ByteArray) (t : TypeId) : WAt w.heap.size (wl0 0 ⟨1, 13, 2, 3, x, 3⟩ [.pointer none, .int .i64 0, .int .i64 0, .int .i64 0, .int .i64 0, .string ⟨#[]⟩, .int .i64 0, .slice none 0 0, .slice none 0 0, .slice none 0 0, .slice none 0 0, .slice none 0 0, .string ⟨#[]⟩])
    (w.alloc (.cells #[.int .i64 0, .int .i64 1, .int .i64 13, .int .i64 2, .int .i64 3, .string x, .int .i64 3, .pointer none, .int .i64 0, .int .i64 0, .int .i64 0, .int .i64 0, .string ⟨#[]⟩, .int .i64 0, .slice none 0 0, .slice none 0 0, .slice none 0 0, .slice none 0 0, .slice none 0 0, .string ⟨#[]⟩] t)) :=
  WAt.new w #[.int .i64 0, .int .i64 1, .int .i64 13, .int .i64 2, .int .i64 3, .string x, .int .i64 3, .pointer none, .int .i64 0, .int .i64 0, .int .i64 0, .int .i64 0, .string ⟨#[]⟩, .int .i64 0, .slice none 0 0, .slice none 0 0, .slice none 0 0, .slice none 0 0, .slice none 0 0, .string ⟨#[]⟩] t (by simp)

def RUpTo (w : World) (e : Ending) (w' : World) : Prop := e = .returned (.int .i64 (-1)) ∧ Bel w w'

set_option maxRecDepth 100000 in
set_option maxHeartbeats 1000000 in
theorem upto_is (a : Option Addr) (len cap : Nat) (held : Int) (w : World) (h : IsOps w a len) (hl : len ≤ 65536) (hh : held = 16 ∨ held = 32 ∨ held = 64) :
    Calls Try.prog 11 #[.slice a len cap, .int .i64 held] w (RUpTo w) := by
  have hfi := fun wx => fill_is ByteArray.empty 16 wx (by omega) (by omega)
  have HI := Hid.mk h
  have HA : Hid (∀ part, FS part → bits BinOp.and IntKind.i64 held part = 0) := fun part hp => and_held hh hp
  clear h hh
  go_enter Try.func11, Try.ntmps11
  go_wp2_with fail
  refine (hfi _).mono ?_
  rintro e w1 ⟨x, rfl, hb1, hx⟩
  clear hfi
  go_wp2_with fail
  refine (kbegin_is w w1.heap.size 0 0 ⟨1, 13, 2, 3, x, 3⟩ _ _ _ _ _ _ _ _ _ _ _ _ _ _ (box_is w1 x _) (cfg0_ok x hx) (hb1.step_alloc _) hb1.size).mono ?_
  rintro e w2 ⟨rfl, k0, hk0⟩
  generalize w1.heap.size = p at hk0
  have HK0 := Hid.mk hk0
  clear hk0 hx hb1
  go_wp2
  go_loopg [7, 8] len (fun r nok ni wr => ∃ j : Nat, nok = .bool true ∧ ni = .int .i64 (j : Int) ∧ j ≤ len ∧ r = len - j ∧ ∃ k, KInv w p j k wr)
  case atStart => exact ⟨0, rfl, rfl, by omega, by omega, k0, HK0.out⟩
  case round =>
    obtain ⟨j, rfl, rfl, hj, rfl, k, hk⟩ := hrel
    by_cases hjl : j < len
    · obtain ⟨kd, xa, xb, xc, S, ⟨ab, ao, rfl, q0, q1, q2, q3, q4⟩, -, ia, ib, -, hS⟩ := HI.out.2 j hjl
      have hbel : Bel w wr := hk.2.2.2.1
      have r0 := hbel.cell q0
      have r1 := hbel.cell q1
      have r2 := hbel.cell q2
      have r3 := hbel.cell q3
      have r4 := hbel.cell q4
      have hst := step_all w p j k kd xa xb xc S wr hk (by omega) ia ib (Nat.le_trans hS (by decide))
      have hj1 : decide ((j : Int) < (len : Int)) = true := decide_eq_true (by omega)
      clear hk q0 q1 q2 q3 q4 hS ia ib
      unfold opV at hst
      go_wp2_with fail
      refine hst.mono ?_
      intro e w3 hr
      clear hst
      rcases hr with ⟨rfl, k2, hk2⟩ | ⟨rfl, hb3, part, hF, hcell⟩
      · have HK2 := Hid.mk hk2
        clear hk2
        go_wp2
        go_roundg (len - (j + 1))
        case measure => omega
        case rel => exact ⟨j + 1, rfl, by go_num, by omega, rfl, k2, HK2.out⟩
      · have hand := HA.out part hF
        clear hF
        go_wp2
        go_ret
        exact ⟨rfl, hb3⟩
    · have hj1 : decide ((j : Int) < (len : Int)) = false := decide_eq_false (by omega)
      have HB : Hid (Bel w wr) := hk.2.2.2.1
      clear hk
      go_wp2
      go_ret
      exact ⟨rfl, HB.out⟩

end Go.Proofs.Ytgfildmmcbjpnab

namespace Go.Proofs.Ytgfildmmcbjpnab
open Go.RowKit

theorem and_14 {held : Int} (hh : held = 16 ∨ held = 32 ∨ held = 64) : bits BinOp.and IntKind.i64 held 14 = 0 := by
  rcases hh with rfl | rfl | rfl <;> decide

set_option maxRecDepth 100000 in
set_option maxHeartbeats 400000 in
theorem plays_is (a : Option Addr) (len cap : Nat) (held : Int) (w : World) (h : IsOps w a len) (hh : held = 16 ∨ held = 32 ∨ held = 64) :
    Calls Try.prog 7 #[.slice a len cap, .int .i64 held] w (RBool w fun x => x = true) := by
  have hsm := small_is a len cap w h
  have hup := fun wx (b : Bel w wx) (hl : len ≤ 65536) => upto_is a len cap held wx ⟨h.1, fun i hi => by
    obtain ⟨kd, x, y, z, S, ⟨bb, o, e, q0, q1, q2, q3, q4⟩, r⟩ := h.2 i hi
    exact ⟨kd, x, y, z, S, ⟨bb, o, e, b.cell q0, b.cell q1, b.cell q2, b.cell q3, b.cell q4⟩, r⟩⟩ hl hh
  have h14 := and_14 hh
  clear h hh
  go_enter Try.func7, Try.ntmps7
  go_wp2_with fail
  refine hsm.mono ?_
  rintro e w1 ⟨x, rfl, rfl, hx⟩
  clear hsm
  cases x
  · clear hup
    go_wp2
    go_ret
    exact ⟨_, rfl, Bel.refl _, rfl⟩
  · have hl := hx rfl
    clear hx
    go_wp2_with fail
    refine (alive_is _).mono ?_
    rintro e w2 ⟨y, rfl, hb2, rfl⟩
    have hup2 := hup w2 hb2 hl
    clear hup
    go_wp2_with fail
    refine hup2.mono ?_
    rintro e w3 ⟨rfl, hb3⟩
    have hb := hb2.trans hb3
    clear hup2
    go_wp2
    go_ret
    exact ⟨_, rfl, hb, rfl⟩

theorem lawSame_is (a : Option Addr) (len cap : Nat) (w : World) (h : IsOps w a len) :
    Calls Try.prog 6 #[.slice a len cap] w (RBool w fun x => x = true) := by
  have hpl := plays_is a len cap 64 w h (by omega)
  clear h
  go_enter Try.func6, Try.ntmps6
  go_wp2_with fail
  refine hpl.mono ?_
  rintro e w1 ⟨x, rfl, hb, rfl⟩
  go_wp2
  go_ret
  exact ⟨_, rfl, hb, rfl⟩
theorem lawShares_is (a : Option Addr) (len cap : Nat) (w : World) (h : IsOps w a len) :
    Calls Try.prog 4 #[.slice a len cap] w (RBool w fun x => x = true) := by
  have hpl := plays_is a len cap 32 w h (by omega)
  clear h
  go_enter Try.func4, Try.ntmps4
  go_wp2_with fail
  refine hpl.mono ?_
  rintro e w1 ⟨x, rfl, hb, rfl⟩
  go_wp2
  go_ret
  exact ⟨_, rfl, hb, rfl⟩
theorem lawMoved_is (a : Option Addr) (len cap : Nat) (w : World) (h : IsOps w a len) :
    Calls Try.prog 5 #[.slice a len cap] w (RBool w fun x => x = true) := by
  have hpl := plays_is a len cap 16 w h (by omega)
  clear h
  go_enter Try.func5, Try.ntmps5
  go_wp2_with fail
  refine hpl.mono ?_
  rintro e w1 ⟨x, rfl, hb, rfl⟩
  go_wp2
  go_ret
  exact ⟨_, rfl, hb, rfl⟩

end Go.Proofs.Ytgfildmmcbjpnab
