import Derived.Test.YtgfildmmcbjpnabKX
import Derived.Test.YtgfildmmcbjpnabRows
import Derived.WalkKit
import Derived.ProofKit
import Derived.OpenShut
import Derived.ChangeOld
import Derived.Below
import Derived.Deep.Slices
import Derived.SizedLaws
namespace Go.Proofs.Ytgfildmmcbjpnab
open Go.ChangeShapes Go.WideShapes Go.ChangeAt Go.RowKit Go.Deep

/-- step i of a script -/
def OpAt (w : World) (a : Option Addr) (i : Nat) (kd x y z : Int) (S : ByteArray) : Prop :=
  (∃ b o, a = some ⟨b, o, none⟩ ∧ w.cell? ⟨b, o + i * 5, none⟩ = some (.int .i64 kd) ∧ w.cell? ⟨b, o + i * 5 + 1, none⟩ = some (.int .i64 x) ∧ w.cell? ⟨b, o + i * 5 + 2, none⟩ = some (.int .i64 y) ∧ w.cell? ⟨b, o + i * 5 + 3, none⟩ = some (.int .i64 z) ∧ w.cell? ⟨b, o + i * 5 + 4, none⟩ = some (.string S)) ∧
  I64 kd ∧ I64 x ∧ I64 y ∧ I64 z ∧ S.size ≤ 140737488355328
def IsOps (w : World) (a : Option Addr) (len : Nat) : Prop := len ≤ maxLen ∧ ∀ i, i < len → ∃ kd x y z S, OpAt w a i kd x y z S

theorem wf_i64 {n : Int} (h : (Lit.int .i64 n).wf = true) : I64 n := by
  simp only [Lit.wf, Bool.and_eq_true, decide_eq_true_eq] at h
  have h1 : IntKind.i64.min = -9223372036854775808 := by decide
  have h2 : IntKind.i64.max = 9223372036854775807 := by decide
  unfold I64
  omega

theorem wAll_mem {H : Type} {P : Program} {e : TypeId} : ∀ {l : List (DataW H)} {d : DataW H}, d ∈ l → ∀ n ∈ d.weights P e, n ∈ DataW.weightsAll P e l
  | [], d, h, _, _ => by cases h
  | x :: l, d, h, n, hn => by
    rw [DataW.weightsAll, List.mem_append]
    rcases List.mem_cons.1 h with rfl | h
    · exact Or.inl hn
    · exact Or.inr (wAll_mem h n hn)

set_option maxRecDepth 100000 in
theorem open_ops {H : Type} {enc : TypeId × Value → H} {W : World} {spare : Nat → Bool} {held : Bool} {fuel : Nat} {cs : List Value} {x : DataW H × List MemPlace} (h : DataW.trod enc Try.prog W 0 spare held fuel 22 cs = some x)
    (hsz : ∀ n ∈ x.1.weights Try.prog 22, n ≤ reachBytes) : ∃ a len cap, cs = [.slice a len cap] ∧ IsOps W a len := by
  rcases open_slice Try.underlying22 h with ⟨rfl, _⟩ | ⟨a, len, cap, m, n, D, Pl, rfl, _, hl, hm, hmm, hxe, hall⟩
  · exact ⟨none, 0, 0, rfl, Nat.zero_le _, fun i hi => by omega⟩
  · refine ⟨some a, len, cap, rfl, Nat.le_trans hl hm, fun i hi => ?_⟩
    obtain ⟨cs', hc, hd⟩ := hall i (by subst hmm; split <;> omega)
    obtain ⟨xs, k, _, hx, hlen, hxl, hf⟩ := DataW.trod_struct Try.underlying28 hd
    have h5 : Try.prog.cellsOf 28 = 5 := by kernel_rfl
    have hi1 : Try.prog.cellsOf 3 = 1 := by kernel_rfl
    have hs1 : Try.prog.cellsOf 9 = 1 := by kernel_rfl
    rw [h5] at hc hlen
    obtain ⟨_, _, hcell⟩ := World.cells?_some hc
    match cs', hlen, xs, hxl with
    | [c0, c1, c2, c3, c4], _, [y0, y1, y2, y3, y4], _ =>
      have g0 : DataW.trod enc Try.prog W 0 spare held k 3 (([c0, c1, c2, c3, c4].drop 0).take (Try.prog.cellsOf 3)) = some y0 := hf 0 _ rfl
      rw [hi1] at g0
      have g1 : DataW.trod enc Try.prog W 0 spare held k 3 (([c0, c1, c2, c3, c4].drop 1).take (Try.prog.cellsOf 3)) = some y1 := hf 1 _ rfl
      rw [hi1] at g1
      have g2 : DataW.trod enc Try.prog W 0 spare held k 3 (([c0, c1, c2, c3, c4].drop 2).take (Try.prog.cellsOf 3)) = some y2 := hf 2 _ rfl
      rw [hi1] at g2
      have g3 : DataW.trod enc Try.prog W 0 spare held k 3 (([c0, c1, c2, c3, c4].drop 3).take (Try.prog.cellsOf 3)) = some y3 := hf 3 _ rfl
      rw [hi1] at g3
      have g4 : DataW.trod enc Try.prog W 0 spare held k 9 (([c0, c1, c2, c3, c4].drop 4).take (Try.prog.cellsOf 9)) = some y4 := hf 4 _ rfl
      rw [hs1] at g4
      obtain ⟨n0, e0, _, w0⟩ := DataW.trod_int Try.underlying3 g0
      obtain ⟨n1, e1, _, w1⟩ := DataW.trod_int Try.underlying3 g1
      obtain ⟨n2, e2, _, w2⟩ := DataW.trod_int Try.underlying3 g2
      obtain ⟨n3, e3, _, w3⟩ := DataW.trod_int Try.underlying3 g3
      obtain ⟨n4, e4, e5, w4⟩ := DataW.trod_string Try.underlying9 g4
      simp only [List.drop_zero, List.drop_succ_cons, List.take_succ_cons, List.take_zero, List.cons.injEq, and_true] at e0 e1 e2 e3 e4
      subst e0 e1 e2 e3 e4 e5
      have hwt : n4.data.toList.length ≤ reachBytes := by
        refine hsz _ ?_
        rw [hxe]
        simp only [DataW.weights, Try.underlying22, List.mem_cons, List.mem_append]
        refine Or.inr (Or.inl (wAll_mem (d := D i) (List.mem_map.2 ⟨i, List.mem_range.2 hi, rfl⟩) _ ?_))
        have hD : D i = _ := (congrArg Prod.fst hx : _)
        rw [hD]
        simp [DataW.weights, DataW.weightsEach, Try.underlying28]
      have hwt2 : n4.size ≤ 140737488355328 := by
        have h1 : n4.size = n4.data.toList.length := rfl
        have h2 : reachBytes < 2 ^ 47 := reachBytes_lt
        omega
      obtain ⟨b, o, spot⟩ := a
      have q0 := hcell 0 (by omega)
      have hspot : spot = none := by
        obtain ⟨cs0, hc0, _⟩ := hall 0 (by subst hmm; split <;> omega)
        rw [h5] at hc0
        obtain ⟨_, hl0, hcell0⟩ := World.cells?_some hc0
        have r0 := hcell0 0 (by omega)
        rw [List.getElem?_eq_getElem (by omega)] at r0
        simpa [Addr.add] using World.cell?_spot r0
      subst hspot
      have q1 := hcell 1 (by omega)
      have q2 := hcell 2 (by omega)
      have q3 := hcell 3 (by omega)
      have q4 := hcell 4 (by omega)
      have hadd : ∀ j k, ((⟨b, o, none⟩ : Addr).add j).add k = ⟨b, o + j + k, none⟩ := fun j k => by unfold Addr.add; split <;> split <;> simp_all
      rw [hadd] at q0 q1 q2 q3 q4
      exact ⟨n0, n1, n2, n3, n4, ⟨b, o, rfl, q0, q1, q2, q3, q4⟩, wf_i64 w0, wf_i64 w1, wf_i64 w2, wf_i64 w3, hwt2⟩

end Go.Proofs.Ytgfildmmcbjpnab

namespace Go.Proofs.Ytgfildmmcbjpnab
open Go.RowKit

def RSmall (len : Nat) (w : World) (e : Ending) (w' : World) : Prop := ∃ x, e = .returned (.bool x) ∧ w = w' ∧ (x = true → len ≤ 65536)

set_option maxRecDepth 100000 in
set_option maxHeartbeats 400000 in
theorem small_is (a : Option Addr) (len cap : Nat) (w : World) (h : IsOps w a len) : Calls Try.prog 8 #[.slice a len cap] w (RSmall len w) := by
  by_cases hl : 65536 < len
  · have hd : decide ((len : Int) > 65536) = true := decide_eq_true (by omega)
    go_enter Try.func8, Try.ntmps8
    go_wp2
    go_ret
    exact ⟨false, rfl, rfl, by simp⟩
  · have hd : decide ((len : Int) > 65536) = false := decide_eq_false (by omega)
    have HI := Hid.mk h
    have hl2 : len ≤ 65536 := by omega
    clear h hl
    go_enter Try.func8, Try.ntmps8
    go_wp2
    go_loopg [3, 4] len (fun r nn ni wr => ∃ k s : Nat, nn = .int .i64 (s : Int) ∧ ni = .int .i64 (k : Int) ∧ k ≤ len ∧ s ≤ 65536 ∧ r = len - k ∧ wr = w)
    case atStart => exact ⟨0, len, rfl, rfl, by omega, by omega, by omega, rfl⟩
    case round =>
      obtain ⟨k, s, rfl, rfl, hk, hs, hr, rfl⟩ := hrel
      by_cases hkl : k < len
      · obtain ⟨kd, x, y, z, S, ⟨b, o, rfl, -, -, -, -, c4⟩, -, -, -, -, hS⟩ := HI.out.2 k hkl
        have hk1 : decide ((k : Int) < (len : Int)) = true := decide_eq_true (by omega)
        have hwr : wrap64 ((s : Int) + (S.size : Int)) = ((s + S.size : Nat) : Int) := by unfold wrap64; omega
        have hwr2 : IntKind.i64.wrap ((s : Int) + (S.size : Int)) = ((s + S.size : Nat) : Int) := by rw [IntKind.wrap_i64]; omega
        by_cases hgt : 65536 < s + S.size
        · have hg1 : decide (((s + S.size : Nat) : Int) > 65536) = true := decide_eq_true (by omega)
          go_wp2
          go_ret
          exact ⟨false, rfl, rfl, by simp⟩
        · have hg1 : decide (((s + S.size : Nat) : Int) > 65536) = false := decide_eq_false (by omega)
          go_wp2
          go_roundg (len - (k + 1))
          case measure => omega
          case rel => exact ⟨k + 1, s + S.size, by go_num, by go_num, by omega, by omega, rfl, rfl⟩
      · have hk1 : decide ((k : Int) < (len : Int)) = false := decide_eq_false (by omega)
        go_wp2
        go_ret
        exact ⟨true, rfl, rfl, fun _ => hl2⟩

end Go.Proofs.Ytgfildmmcbjpnab
