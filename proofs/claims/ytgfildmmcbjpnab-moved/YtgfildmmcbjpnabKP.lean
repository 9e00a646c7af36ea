import Derived.Test.YtgfildmmcbjpnabKO
import Derived.Lib.LazyBuf
namespace Go.Proofs.Ytgfildmmcbjpnab
open Go.RowKit

/-- the document's first example -/
def cfgA : Cfg := ⟨1, 7, 1, 1, ⟨#[48, 49, 50, 51, 52, 53, 54, 55, 56, 57, 97, 98, 99, 100, 101, 102]⟩, 3⟩
def nA : ByteArray := ⟨#[97]⟩
def nB : ByteArray := ⟨#[98]⟩
theorem cfgA_ok : cfgA.OK := by
  refine ⟨by decide, by decide, by decide, by decide, ?_, by decide, by decide, by decide, by decide, by decide, by decide, by decide⟩
  intro d h1 h2
  have hd : d < 7 := by simp only [cfgA] at h2; omega
  rcases (show d = 2 ∨ d = 3 ∨ d = 4 ∨ d = 5 ∨ d = 6 by omega) with rfl | rfl | rfl | rfl | rfl <;> decide
theorem alive_mag : maglevF cfgA [(nA, 1), (nB, 1)] = [0, 1, 0, 0, 0, 1, 1] := by decide +kernel
theorem alive_mk : mkF cfgA [(nA, 1), (nB, 1)] = [(0, 0), (0, 1), (0, 0), (0, 0), (0, 0), (0, 1), (0, 1)] := by
  rw [mkF, if_neg (by decide), if_pos (show cfgA.alg = 1 from rfl), alive_mag]; rfl
theorem alive_names : namesF [(nA, 1), (nB, 1)] (mkF cfgA [(nA, 1), (nB, 1)]) = [nA, nB, nA, nA, nA, nB, nB] := by rw [alive_mk]; rfl
theorem alive_add1 : addE [] nB 1 = 0 ∧ addB [] nB 1 = [(nB, 1)] := ⟨by decide +kernel, rfl⟩
theorem alive_add2 : addE [(nB, 1)] nA 1 = 0 ∧ addB [(nB, 1)] nA 1 = [(nA, 1), (nB, 1)] := by
  have he : addE [(nB, 1)] nA 1 = 0 := by decide +kernel
  refine ⟨he, ?_⟩
  unfold addB
  rw [if_pos he]
  have hl : less nA nB = true := by decide +kernel
  simp [ins, hl]

set_option maxRecDepth 100000 in
set_option maxHeartbeats 1600000 in
theorem alive_is (w : World) : Calls Try.prog 9 #[] w (RBool w fun x => x = true) := by
  have hnw := fun wx => new_is cfgA wx cfgA_ok
  rw [show cfgA.cells = #[.int .i64 1, .int .i64 7, .int .i64 1, .int .i64 1, .string ⟨#[48, 49, 50, 51, 52, 53, 54, 55, 56, 57, 97, 98, 99, 100, 101, 102]⟩, .int .i64 3] from rfl] at hnw
  go_enter Try.func9, Try.ntmps9
  go_wp2_with fail
  refine (hnw _).mono ?_
  rintro e w1 ⟨q, rfl, hb1, hq1, hq2, hS1⟩
  have hS1 := hS1 [q] (by simp)
  have hb01 : Bel w w1 := (Bel.step_alloc (Bel.refl w) _).trans hb1
  have hqw : w.heap.size ≤ q := by simp at hq1; omega
  have ha1 := add_is [q] q cfgA [] 0 nB 1 w1 hS1 (by simpa using hq2) cfgA_ok Good.nil (by omega) (by omega)
  rw [alive_add1.1, alive_add1.2] at ha1
  simp only [if_true, nB] at ha1
  clear hnw
  go_wp2_with fail
  refine ha1.mono ?_
  rintro e w2 ⟨rfl, hbt2, hS2⟩
  have hG1 : Good [(nB, (1 : Int))] := by have := Good.nil.add nB 1; rwa [alive_add1.2] at this
  have ha2 := add_is [q] q cfgA [(nB, 1)] (0 + 1) nA 1 w2 hS2 (by simpa using hS2.lt) cfgA_ok hG1 (by omega) (by omega)
  rw [alive_add2.1, alive_add2.2] at ha2
  simp only [if_true] at ha2
  rw [show nA = ⟨#[97]⟩ from rfl] at ha2
  clear ha1
  go_wp2_with fail
  refine ha2.mono ?_
  rintro e w3 ⟨rfl, hbt3, hS3⟩
  have hG2 : Good [(nA, (1 : Int)), (nB, 1)] := by have := hG1.add nA 1; rwa [alive_add2.2] at this
  have hsl := slots_is [q] q cfgA [(nA, 1), (nB, 1)] (0 + 1 + 1) w3 hS3 (mkF_len cfgA _ cfgA_ok hG2.1)
  rw [alive_names] at hsl
  have hb03 : Bel w w3 := But.belTo (But.belTo hb01 hbt2 (by simpa using hqw)) hbt3 (by simpa using hqw)
  clear ha2 hS1 hS2 hS3 hG1 hG2 hbt2 hbt3
  go_wp2_with fail
  refine hsl.mono ?_
  rintro e w4 ⟨vL, rfl, hb4, hO, -⟩
  obtain ⟨g, cap, hv, hg1, hg2⟩ := World.ownsRow.form hO (by simp)
  subst hv
  have hcl := fun j u (hj : ([nA, nB, nA, nA, nA, nB, nB].map Value.string)[j]? = some u) => World.ownsRow.cells hO (g := g) rfl j u hj
  have hadd : ∀ j, (⟨g, 0, none⟩ : Addr).add j = ⟨g, j, none⟩ := fun j => by unfold Addr.add; split <;> simp_all
  have y0 := hcl 0 _ rfl
  have y1 := hcl 1 _ rfl
  have y2 := hcl 2 _ rfl
  have y3 := hcl 3 _ rfl
  have y4 := hcl 4 _ rfl
  have y5 := hcl 5 _ rfl
  have y6 := hcl 6 _ rfl
  rw [hadd] at y0 y1 y2 y3 y4 y5 y6
  simp only [nA, nB] at y0 y1 y2 y3 y4 y5 y6
  clear hcl hadd hsl hO
  go_wp2
  refine wp_loop_rounds 8 ?_
  rw [rounds_succ]
  go_wp2
  rw [rounds_succ]
  go_wp2
  rw [rounds_succ]
  go_wp2
  rw [rounds_succ]
  go_wp2
  rw [rounds_succ]
  go_wp2
  rw [rounds_succ]
  go_wp2
  rw [rounds_succ]
  go_wp2
  rw [rounds_succ]
  go_wp2
  go_ret
  exact ⟨_, rfl, hb03.trans hb4, by decide +kernel⟩

end Go.Proofs.Ytgfildmmcbjpnab

namespace Go.Proofs.Ytgfildmmcbjpnab
open Go.RowKit

theorem run_copy_str {P : Program} (w : World) (dT sT ty elem : TypeId) (b o dLen dCap : Nat) (t : ByteArray)
    (hu : P.underlying dT = some (.slice elem)) (hz : ∀ w, (Go.sizeOf elem).run P w = .ok 1 w)
    (hc : ∀ j, j < dLen → (w.cell? ⟨b, o + j, none⟩).isSome = true) (hf : ∀ j, j < dLen → w.frozen? ⟨b, o + j, none⟩ = false) :
    (Builtin.copy_ #[dT, sT] ty #[.slice (some ⟨b, o, none⟩) dLen dCap, .string t]).run P w = .ok (goInt (Nat.min t.size dLen)) (w.setCells b o ((t.data.toList.map fun x => Value.int .u8 (x.toNat : Int)).take (Nat.min t.size dLen))) := by
  have hl : ((t.data.toList.map fun x => Value.int .u8 (x.toNat : Int)).take (Nat.min t.size dLen)).length = Nat.min t.size dLen := by
    rw [List.length_take, List.length_map, ← Lib.size_eq]
    exact Nat.min_eq_left (Nat.min_le_left _ _)
  have hle : Nat.min t.size dLen ≤ dLen := Nat.min_le_right _ _
  have hst := run_storeCells_cells (P := P) b o ((t.data.toList.map fun x => Value.int .u8 (x.toNat : Int)).take (Nat.min t.size dLen)) 0 w (by rw [hl]; intro j hj; simpa using hc j (by omega)) (by rw [hl]; intro j hj; simpa using hf j (by omega)) (by
    intro v hv
    obtain ⟨x, _, rfl⟩ := List.mem_map.1 (List.mem_of_mem_take hv)
    rfl)
  simp [Builtin.copy_, run_underlying hu, Builtin.lenOf, Builtin.firstCells, hz]
  rw [hst]
  rfl
theorem own_setCells {base g n cap : Nat} {e : TypeId} : ∀ (vs : List Value) (o : Nat) (w : World) (xs : List Value), w.ownsRow base e 1 (.slice (some ⟨g, 0, none⟩) n cap) n xs → o + vs.length ≤ xs.length → (w.setCells g o vs).ownsRow base e 1 (.slice (some ⟨g, 0, none⟩) n cap) n (xs.take o ++ vs ++ xs.drop (o + vs.length)) ∧ w.grownBy (w.setCells g o vs) (some g)
  | [], o, w, xs, h, _ => ⟨by show w.ownsRow _ _ _ _ _ _; simpa using h, World.grownBy.refl w _⟩
  | v :: r, o, w, xs, h, hl => by
    have hl2 : o < xs.length := by simp only [List.length_cons] at hl; omega
    have hs := World.ownsRow.stored h o v
    have ih := own_setCells r (o + 1) (w.setCell ⟨g, o, none⟩ v) (xs.set o v) hs.1 (by simp only [List.length_cons, List.length_set] at hl ⊢; omega)
    have e1 : (xs.set o v).take (o + 1) = xs.take o ++ [v] := by
      rw [List.take_succ_eq_append_getElem (by rw [List.length_set]; exact hl2), List.take_set_of_le (Nat.le_refl o), List.getElem_set_self]
    have e2 : (xs.set o v).drop (o + 1 + r.length) = xs.drop (o + 1 + r.length) := List.drop_set_of_lt (by omega)
    rw [e1, e2] at ih
    refine ⟨?_, ⟨ih.2.os.trans hs.2.os, ih.2.tape.trans hs.2.tape, ih.2.output.trans hs.2.output, Nat.le_trans hs.2.size ih.2.size, fun k hk hne => (ih.2.block k (Nat.lt_of_lt_of_le hk hs.2.size) hne).trans (hs.2.block k hk hne)⟩⟩
    have := ih.1
    rw [show o + (v :: r).length = o + 1 + r.length by simp only [List.length_cons]; omega]
    show ((w.setCell ⟨g, o, none⟩ v).setCells g (o + 1) r).ownsRow _ _ _ _ _ _
    simpa using this

def RSized (w : World) (n : Nat) (e : Ending) (w' : World) : Prop := ∃ x : ByteArray, e = .returned (.string x) ∧ Bel w w' ∧ x.size = n

set_option maxRecDepth 100000 in
set_option maxHeartbeats 400000 in
theorem fill_is (t : ByteArray) (n : Nat) (w : World) (hn : 0 < n) (hn2 : n ≤ 65536) :
    Calls Try.prog 21 #[.string t, .int .i64 n] w (RSized w n) := by
  obtain ⟨i0, hi, hz0, hz1, hz2⟩ := info_parts Try.infoByte
  have hsz : ∀ wx : World, (Go.sizeOf 5).run Try.prog wx = .ok 1 wx := fun wx => by kernel_rfl
  go_enter Try.func21, Try.ntmps21
  go_wp2_with (first | (at_make; refine wpList_make_full _ rfl _ _ 66 rfl w.heap.size 5 i0 (.int .u8 0) 1 Try.underlying66 hi hz0 hz1 _ _ _ _ n rfl rfl rfl rfl ?b2 ?b3 ?b4 ?_))
  case b2 => first | omega | (rw [hz2]; omega)
  case b3 => unfold maxLen; omega
  case b4 => exact Nat.le_refl _
  intro w1 hown1 hgrow1
  have hb1 : Bel w w1 := (Bel.refl _).grown hgrow1 (fun g hg => by cases hg)
  have hcs : (madeCells #[Value.int .u8 0] n).toList = (List.replicate n (0 : UInt8)).map byteV := by
    rw [toList_madeCells_one, List.map_replicate]; rfl
  have hown : w1.ownsRow w.heap.size 5 1 (.slice (some ⟨w.heap.size, 0, none⟩) n n) n ((List.replicate n (0 : UInt8)).map byteV) := by
    rw [← hcs]; exact hown1
  have hc : ∀ j, j < n → (w1.cell? ⟨w.heap.size, 0 + j, none⟩).isSome = true := fun j hj => by
    rw [Nat.zero_add, World.ownsRow.cellAt hown j (by omega)]; simp [hj]
  have hf : ∀ j, j < n → w1.frozen? ⟨w.heap.size, 0 + j, none⟩ = false := fun j hj => by rw [Nat.zero_add]; exact World.ownsRow.frozenAt hown j
  obtain ⟨cs, hcs2⟩ : ∃ cs, cs = (t.data.toList.map fun x => Value.int .u8 (x.toNat : Int)).take (Nat.min t.size n) := ⟨_, rfl⟩
  have hl : cs.length ≤ n := by rw [hcs2, List.length_take]; exact Nat.le_trans (Nat.min_le_left _ _) (Nat.min_le_right _ _)
  have h2 := own_setCells cs 0 w1 _ hown (by simp; omega)
  have hlist : (((List.replicate n (0 : UInt8)).map byteV).take 0 ++ cs ++ ((List.replicate n (0 : UInt8)).map byteV).drop (0 + cs.length)) = ((t.data.toList.take (Nat.min t.size n)) ++ List.replicate (n - cs.length) (0 : UInt8)).map byteV := by
    rw [hcs2, ← List.map_take, List.map_append, List.map_replicate, List.map_replicate]
    simp
    rfl
  rw [hlist] at h2
  obtain ⟨bl, hbl⟩ : ∃ bl : List UInt8, bl = (t.data.toList.take (Nat.min t.size n)) ++ List.replicate (n - cs.length) (0 : UInt8) := ⟨_, rfl⟩
  have hbll : bl.length = n := by
    have := h2.1.1
    rw [← hbl] at this
    simpa using this
  rw [← hbl] at h2
  have hb2 : Bel w (w1.setCells w.heap.size 0 cs) := hb1.grown h2.2 (fun g hg => by cases hg; exact Nat.le_refl _)
  have hcv := conv_head (l := bl) (by rw [hbll]; exact h2.1) (by omega)
  have hrun := run_copy_str (P := Try.prog) w1 66 9 3 5 w.heap.size 0 n n t Try.underlying66 hsz hc hf
  rw [← hcs2] at hrun
  clear hgrow1 hown1 hown hlist h2 hbl hcs2 hc hf hcs
  go_wp2
  go_ret
  exact ⟨_, rfl, hb2, by simpa [ByteArray.size] using hbll⟩

end Go.Proofs.Ytgfildmmcbjpnab
