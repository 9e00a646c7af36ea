import Derived.Test.YtgfildmmcbjpnabGreatLAB
import Derived.Test.YtgfildmmcbjpnabGreatLAK
import Derived.Test.YtgfildmmcbjpnabGreatLAW
import Derived.Test.YtgfildmmcbjpnabGreatLBG
import Derived.Deep.QuietTactic
import Derived.BigQuiet
namespace Go.Proofs.YtgfildmmcbjpnabGreat
open Go.RowKit

theorem slice_toE (wx : World) (ao : Option Addr) (L cap k : Nat) (hk : k ≤ cap) :
    (Instr.slice 82 (.slice ao L cap) none (some (.int .i64 k)) none).run Tryz.prog wx = .ok (.slice ao k cap) wx := by
  rw [run_slice_h (P := Tryz.prog) wx 82 ao L cap (by kernel_rfl) .i64 _ (by omega) (by omega)]
  have hs : (sizeOf (Tryz.prog.elem 82)).run Tryz.prog wx = .ok 3 wx := by kernel_rfl
  rw [hs]
  simp only [Result.andThen, sliced, Int.toNat_natCast, Nat.zero_mul, map_add0, ite_self, Nat.sub_zero]
def cutN (ao : Option Addr) (L cap k : Nat) : Value := .slice (if cap = k then ao else ao.map (·.add (k * 3))) (L - k) (cap - k)
theorem slice_fromE (wx : World) (ao : Option Addr) (L cap k : Nat) (hk : k ≤ L) :
    (Instr.slice 82 (.slice ao L cap) (some (.int .i64 k)) none none).run Tryz.prog wx = .ok (cutN ao L cap k) wx := by
  rw [run_slice_any (P := Tryz.prog) wx 82 ao L cap (by kernel_rfl)]
  have hs : (sizeOf (Tryz.prog.elem 82)).run Tryz.prog wx = .ok 3 wx := by kernel_rfl
  have hb : (Instr.sliceBounds true L cap (some (.int .i64 k)) none none).run Tryz.prog wx = .ok (k, L, cap) wx := by
    simp [Instr.sliceBounds, run_sliceBound, go_sem, hk]
  rw [hb]
  simp only [Result.andThen, hs, sliced, cutN]
theorem ecells_take (B : List EN) (k : Nat) : ecells (B.take k) = (ecells B).take (k * 3) := by
  induction B generalizing k with
  | nil => simp [ecells]
  | cons b B ih =>
    cases k with
    | zero => simp [ecells]
    | succ k =>
      have e : (k + 1) * 3 = k * 3 + 1 + 1 + 1 := by omega
      have := ih k
      simp only [ecells, List.take_succ_cons, List.flatMap_cons, List.cons_append, List.nil_append, e] at this ⊢
      rw [this]
theorem ecells_drop (B : List EN) (k : Nat) : ecells (B.drop k) = (ecells B).drop (k * 3) := by
  induction B generalizing k with
  | nil => simp [ecells]
  | cons b B ih =>
    cases k with
    | zero => simp
    | succ k =>
      have e : (k + 1) * 3 = k * 3 + 1 + 1 + 1 := by omega
      have := ih k
      simp only [ecells, List.drop_succ_cons, List.flatMap_cons, List.cons_append, List.nil_append, e] at this ⊢
      rw [this]
theorem ecells_one (B : List EN) : ∀ u ∈ ecells B, u.oneCell' = true := by
  intro u hu
  simp only [ecells, List.mem_flatMap, List.mem_cons, List.not_mem_nil, or_false] at hu
  obtain ⟨b, _, rfl | rfl | rfl⟩ := hu <;> rfl
theorem ecells_app (A B : List EN) : ecells (A ++ B) = ecells A ++ ecells B := by simp [ecells]
theorem srcE_to {w : World} {ao : Option Addr} {cap k : Nat} {B : List EN} (h : EntsAt w (.slice ao B.length cap) B) (hk : k ≤ B.length) : SrcAt w (.slice ao k cap) k (ecells (B.take k)) := by
  rcases h with ⟨h1, h2, h3⟩ | ⟨g, cap', hv, hn, hg, hc⟩
  · simp only [Value.slice.injEq] at h1
    obtain ⟨rfl, h4, rfl⟩ := h1
    have : k = 0 := by omega
    subst this
    exact Or.inl ⟨rfl, rfl, by simp [ecells]⟩
  · simp only [Value.slice.injEq] at hv
    obtain ⟨rfl, -, rfl⟩ := hv
    refine Or.inr ⟨_, _, rfl, fun j u hu => ?_⟩
    have hadd : (⟨g, 0, none⟩ : Addr).add j = ⟨g, j, none⟩ := by unfold Addr.add; split <;> simp_all
    rw [hadd]
    refine hc j u ?_
    rw [ecells_take, List.getElem?_take] at hu
    split at hu
    · exact hu
    · cases hu
theorem srcE_from {w : World} {ao : Option Addr} {cap k : Nat} {B : List EN} (h : EntsAt w (.slice ao B.length cap) B) (hk : k ≤ B.length) : SrcAt w (cutN ao B.length cap k) (B.length - k) (ecells (B.drop k)) := by
  rcases h with ⟨h1, h2, h3⟩ | ⟨g, cap', hv, hn, hg, hc⟩
  · simp only [Value.slice.injEq] at h1
    obtain ⟨rfl, h4, rfl⟩ := h1
    have hB0 : B = [] := List.eq_nil_of_length_eq_zero h2
    subst hB0
    have : k = 0 := by simpa using hk
    subst this
    exact Or.inl ⟨by simp [cutN], by simp, by simp [ecells]⟩
  · simp only [Value.slice.injEq] at hv
    obtain ⟨rfl, -, rfl⟩ := hv
    by_cases hck : cap = k
    · have hkl : k = B.length := by omega
      refine Or.inr ⟨⟨g, 0, none⟩, cap - k, by rw [cutN, if_pos hck], fun j u hu => ?_⟩
      rw [hkl] at hu
      simp [ecells] at hu
    · refine Or.inr ⟨(⟨g, 0, none⟩ : Addr).add (k * 3), cap - k, by rw [cutN, if_neg hck]; rfl, fun j u hu => ?_⟩
      have hadd : ((⟨g, 0, none⟩ : Addr).add (k * 3)).add j = ⟨g, k * 3 + j, none⟩ := by
        unfold Addr.add
        split <;> split <;> simp_all
      rw [hadd]
      refine hc _ u ?_
      rw [ecells_drop, List.getElem?_drop] at hu
      exact hu
/-- append of what lies somewhere, or of nothing, to a row of one's own, as a step of a region that draws -/
theorem step_append_src {P : Program} {ops : Array Oper} {o : Oper} {a : Act} {w : World} {K : Act → World → Prop} {Q : Exit → Act → World → Prop} {E : Prop}
    (hg : o.guard = none) (s x : Operand) (t : TypeId) (hop : o.op = Op.call { callee := Callee.builtin Builtin.append, args := #[s, x], argTypes := #[t, t] })
    (base : Nat) (e : TypeId) (i : TypeInfo) (z : Value) (size bytes : Nat) (h1 : P.underlying t = some (.slice e)) (h2 : P.info? e = some i) (h3 : i.zero = some z) (h4 : i.size = size) (h5 : i.bytes = bytes) (h6 : z.cells.size = size) (h7 : 0 < size)
    (v : Value) (n : Nat) (xs : List Value) (hs : a.eval s = v) (hown : w.ownsRow base e size v n xs)
    (xv : Value) (m : Nat) (news : List Value) (hx : a.eval x = xv) (hsrc : SrcAt w xv m news) (hn : news.length = m * size) (h1c : ∀ u ∈ news, u.oneCell' = true)
    (b1 : n + m ≤ maxLen) (b2 : (n + m) * bytes ≤ 140737488355328) (hbase : base ≤ w.heap.size)
    (hK : ∀ v' w', w'.ownsRow base e size v' (n + m) (xs ++ news) → w.grownBy w' v.ownBlock → K (a.put o.dst v') w') :
    if Region.wanted o (yielded ops a.tmps) = true then Oper.wp P o a w K Q else E := by
  rcases hsrc with ⟨rfl, rfl, rfl⟩ | ⟨ad, c, rfl, hc⟩
  · have hw : Region.wanted o (yielded ops a.tmps) = true := by simp [Region.wanted, hg]
    rw [if_pos hw]
    have hrun := run_append_owned_none (P := P) (w := w) base t o.type e i size h1 h2 v n xs hown
    unfold Oper.wp
    simp [execOp, hop, resolve, invoke, builtin, hs, hx, hrun, Result.andThen]
    exact hK v w (by simpa using hown) (World.grownBy.refl w _)
  · exact step_append_own hg s x t hop base e i z size bytes h1 h2 h3 h4 h5 h6 h7 v n xs hs hown ad m c news hx hn hc h1c b1 b2 hbase hK
theorem ents_slice {w : World} {base : Nat} {v : Value} {L : List EN} (h : w.ownsRow base 131 3 v L.length (ecells L)) : ∃ ao cap, v = .slice ao L.length cap ∧ L.length ≤ cap ∧ EntsAt w (.slice ao L.length cap) L := by
  have h1 : EntsAt w v L := RowAt.of_owns h
  rcases h1.form with ⟨rfl, rfl⟩ | ⟨g, cap, rfl, hc, _⟩
  · exact ⟨none, 0, rfl, by simp, h1⟩
  · exact ⟨_, cap, rfl, hc, h1⟩

end Go.Proofs.YtgfildmmcbjpnabGreat

namespace Go.Proofs.YtgfildmmcbjpnabGreat
open Go.RowKit

def RApply (w : World) (e : Ending) (w' : World) : Prop := ∃ (v : Value) (err : Int), e = .returned (.tuple #[v, .int .i64 err]) ∧ Bel w w' ∧
  (err = 0 → ∃ (q : Nat) (c : Cfg) (gen : Int) (B : List BK) (E : List EN), v = .pointer (some ⟨q, 0, none⟩) ∧ StateN w.heap.size w' q c gen B E ∧ StateOK c gen B E ∧ ∀ x ∈ E, W32 x.2.1 ∧ W32 x.2.2)
theorem RApply.no {w w' : World} (h : Bel w w') (err : Int) (he : err ≠ 0) : RApply w (.returned (.tuple #[.pointer none, .int .i64 err])) w' := ⟨_, _, rfl, h, fun e => absurd e he⟩

set_option maxRecDepth 100000 in
set_option maxHeartbeats 8000000 in
theorem apply_any (s : ByteArray) (qa : Nat) (ca : Cfg) (ga : Int) (BA : List BK) (EA : List EN) (w : World) (hs : s.size ≤ 1099511627776) (hA : StateAt w qa ca ga BA EA) (hAo : StateOK ca ga BA EA) (hAI : ∀ x ∈ EA, W32 x.2.1 ∧ W32 x.2.2) (hEAl : EA.length ≤ 65535) :
    Calls Tryz.prog 48 #[.string s, .pointer (some ⟨qa, 0, none⟩)] w (RApply w) := by
  obtain ⟨i0, hi, hz0, hz1, hz2⟩ := info_parts Tryz.infoEN
  have HA := Hid.mk hA
  have HAo := Hid.mk hAo
  have HAI := Hid.mk hAI
  clear hA hAo hAI
  go_enter Tryz.func48, Tryz.ntmps48
  go_wp2_with fail
  refine (unsealed_any s _ hs).mono ?_
  rintro e w1 ⟨a, ok, rfl, hb1, ha, -⟩
  cases ok
  · go_wp2
    go_ret2
    exact RApply.no hb1 _ (by decide)
  · go_upto_region 5 with fail
    have hT0 : TextAt (w1.alloc (.cells #[.string a, .bool false] 118)) w1.heap.size a false := ⟨by simp, by simp, by simp, by simp⟩
    have hW0 : Bel w (w1.alloc (.cells #[.string a, .bool false] 118)) := hb1.step_alloc _
    have hpt0 : w.heap.size ≤ w1.heap.size := hb1.size
    have hptl : w1.heap.size < (w1.alloc (.cells #[.string a, .bool false] 118)).heap.size := by simp
    generalize w1.heap.size = pt at *
    generalize w1.alloc (.cells #[.string a, .bool false] 118) = W0 at *
    clear hb1
    go_wp2_with fail
    refine (take_any pt 2 a false _ (by decide) (by decide) (by unfold maxLen; omega) hT0).mono ?_
    rintro e W1 ⟨v1, s1, sh1, rfl, hu1, hT1, h, rfl, g1, -, -, -⟩
    have hW1 := hu1.bel hW0 hpt0
    go_wp2_with fail
    refine (tnumber_any pt 4 s1 sh1 _ (by decide) (by decide) (by unfold maxLen; omega) hT1).mono ?_
    rintro e W2 ⟨v2, s2, sh2, rfl, hu2, hT2, gen1, rfl, g2, -, -, -⟩
    have hW2 := hu2.bel hW1 hpt0
    go_wp2_with fail
    refine (tnumber_any pt 4 s2 sh2 _ (by decide) (by decide) (by unfold maxLen; omega) hT2).mono ?_
    rintro e W3 ⟨v3, s3, sh3, rfl, hu3, hT3, crc, rfl, g3, -, -, -⟩
    have hW3 := hu3.bel hW2 hpt0
    have hptl3 : pt < W3.heap.size := Nat.lt_of_lt_of_le hptl (Nat.le_trans hu1.size (Nat.le_trans hu2.size hu3.size))
    clear hu1 hu2 hu3 hT0 hT1 hT2 hW0 hW1 hW2 hptl
    obtain ⟨vBA, vEA, ⟨m0, m1, m2, m3, m4, m5⟩, -⟩ := HA.out.later hW3
    go_upto_region 9 with fail
    have hX2 : Blk (W3.alloc (.cells #[.int .i64 ca.alg, .int .i64 ca.slots, .int .i64 ca.points, .int .i64 ca.probes, .string ca.key, .int .i64 ca.formats, .int .i64 0, .slice none 0 0, .slice none 0 0] 84)) W3.heap.size [.int .i64 ca.alg, .int .i64 ca.slots, .int .i64 ca.points, .int .i64 ca.probes, .string ca.key, .int .i64 ca.formats, .int .i64 0, .slice none 0 0, .slice none 0 0] := Blk.alloc _ _ _
    have hT4 := hT3.later (Bel.step_alloc (Bel.refl _) (.cells #[.int .i64 ca.alg, .int .i64 ca.slots, .int .i64 ca.points, .int .i64 ca.probes, .string ca.key, .int .i64 ca.formats, .int .i64 0, .slice none 0 0, .slice none 0 0] 84))
    have hpx : w.heap.size ≤ W3.heap.size := hW3.size
    have hpxl : W3.heap.size < (W3.alloc (.cells #[.int .i64 ca.alg, .int .i64 ca.slots, .int .i64 ca.points, .int .i64 ca.probes, .string ca.key, .int .i64 ca.formats, .int .i64 0, .slice none 0 0, .slice none 0 0] 84)).heap.size := by simp
    have hW4 := hW3.step_alloc (.cells #[.int .i64 ca.alg, .int .i64 ca.slots, .int .i64 ca.points, .int .i64 ca.probes, .string ca.key, .int .i64 ca.formats, .int .i64 0, .slice none 0 0, .slice none 0 0] 84)
    have hne : W3.heap.size ≠ pt := by omega
    clear hT3 hW3 m0 m1 m2 m3 m4 m5
    generalize W3.heap.size = px at *
    generalize W3.alloc (.cells #[.int .i64 ca.alg, .int .i64 ca.slots, .int .i64 ca.points, .int .i64 ca.probes, .string ca.key, .int .i64 ca.formats, .int .i64 0, .slice none 0 0, .slice none 0 0] 84) = X0 at *
    go_wp2_with fail
    refine (tnumber_any pt 4 s3 sh3 _ (by decide) (by decide) (by unfold maxLen; omega) hT4).mono ?_
    rintro e X1 ⟨v, r1, q1, rfl, hu, hT', gen, rfl, z1, gen0, gen1', -⟩
    have gen2 : gen < 4294967296 := by simpa using gen1'
    clear gen1'
    have hX' := hX2.but hu hne
    have hc := (hX' 6 _ rfl).1
    have hf := (hX' 6 _ rfl).2
    have hW' := hu.bel hW4 hpt0
    have hlt' : px < X1.heap.size := Nat.lt_of_lt_of_le hpxl hu.size
    clear hX2 hT4 hW4 hu hpxl hptl3
    have hX : Blk (X1.setCell ⟨px, 6, none⟩ (.int .i64 gen)) px [.int .i64 ca.alg, .int .i64 ca.slots, .int .i64 ca.points, .int .i64 ca.probes, .string ca.key, .int .i64 ca.formats, .int .i64 gen, .slice none 0 0, .slice none 0 0] := hX'.set 6 _
    have hT : TextAt (X1.setCell ⟨px, 6, none⟩ (.int .i64 gen)) pt r1 q1 := hT'.other hne
    have hW : Bel w (X1.setCell ⟨px, 6, none⟩ (.int .i64 gen)) := hW'.step_set (p := ⟨px, 6, none⟩) hpx _
    have hlt : px < (X1.setCell ⟨px, 6, none⟩ (.int .i64 gen)).heap.size := by simpa using hlt'
    go_upto_region 10 with fail
    clear hX' hT' hW' hlt' hc hf
    generalize X1.setCell ⟨px, 6, none⟩ (.int .i64 gen) = Y1 at *
    have hl5' : pt < Y1.heap.size := World.block_lt_of_cell? _ _ hT.1
    go_wp2_with fail
    refine (tpool_any pt r1 q1 _ (by unfold maxLen; omega) hT hl5').mono ?_
    rintro e Z1 ⟨vB, L, okb, s7, sh7, rfl, hu, hT6, hs7, hPB, hL8, hblk, hokb⟩
    have hX6 := hX.but hu hne
    have hW6 := hu.bel hW hpt0
    have hBp : ∀ g, vB.ownBlock = some g → g ≠ pt := fun g hg => by have := hblk g hg; omega
    have HNB : Hid (∀ g, vB.ownBlock = some g → w.heap.size ≤ g) := fun g hg => Nat.le_trans hW.size (hblk g hg)
    have hl6 : px < Z1.heap.size := Nat.lt_of_lt_of_le hlt hu.size
    have hc7 := (hX6 7 _ rfl).1
    have hf7 := (hX6 7 _ rfl).2
    clear hX hT hW hu hblk hlt hl5'
    have hX7 : Blk (Z1.setCell ⟨px, 7, none⟩ vB) px [.int .i64 ca.alg, .int .i64 ca.slots, .int .i64 ca.points, .int .i64 ca.probes, .string ca.key, .int .i64 ca.formats, .int .i64 gen, vB, .slice none 0 0] := hX6.set 7 _
    have hT7 : TextAt (Z1.setCell ⟨px, 7, none⟩ vB) pt s7 sh7 := hT6.other hne
    have hW7 : Bel w (Z1.setCell ⟨px, 7, none⟩ vB) := hW6.step_set (p := ⟨px, 7, none⟩) hpx _
    have hl7 : px < (Z1.setCell ⟨px, 7, none⟩ vB).heap.size := by simpa using hl6
    have hPB7 : PoolAt (Z1.setCell ⟨px, 7, none⟩ vB) vB L := hPB.set_x (hX6 0 _ rfl).1
    obtain ⟨aoB, capB, hvB⟩ : ∃ ao cap, vB = .slice ao L.length cap := by
      obtain ⟨ao, cap, hv, _⟩ := hPB.open
      exact ⟨ao, cap, hv⟩
    subst hvB
    go_upto_region 12 with fail
    clear hX6 hT6 hW6 hl6 hc7 hf7 hPB
    generalize Z1.setCell ⟨px, 7, none⟩ (.slice aoB L.length capB) = Z2 at *
    cases okb
    · go_wp2
      go_ret2
      exact RApply.no hW7 _ (by decide)
    obtain ⟨rfl, hPO⟩ := hokb rfl
    have HPO := Hid.mk hPO
    clear hokb hPO
    go_wp2_with fail
    refine (tnumber_any pt 2 s7 false _ (by decide) (by decide) (by unfold maxLen; omega) hT7).mono ?_
    rintro e V1 ⟨v, r2, q2, rfl, hu, hT8, nn, rfl, zz0, nn0, nn1, -⟩
    have nn2 : nn < 65536 := by simpa using nn1
    clear nn1
    replace hX7 := hX7.but hu hne
    replace hPB7 := hPB7.but hu hBp
    replace hW7 := hu.bel hW7 hpt0
    replace hl7 : px < V1.heap.size := Nat.lt_of_lt_of_le hl7 hu.size
    clear hT7 hu
    have hT7 := hT8
    clear hT8
    go_wp2_with fail
    refine (tnumber_any pt 2 r2 q2 _ (by decide) (by decide) (by unfold maxLen; omega) hT7).mono ?_
    rintro e V2 ⟨v, r3, q3, rfl, hu, hT8, mm, rfl, zz1, mm0, mm1, -⟩
    have mm2 : mm < 65536 := by simpa using mm1
    clear mm1
    replace hX7 := hX7.but hu hne
    replace hPB7 := hPB7.but hu hBp
    replace hW7 := hu.bel hW7 hpt0
    replace hl7 : px < V2.heap.size := Nat.lt_of_lt_of_le hl7 hu.size
    clear hT7 hu
    have hT7 := hT8
    clear hT8
    go_wp2_with fail
    refine (tnumber_any pt 2 r3 q3 _ (by decide) (by decide) (by unfold maxLen; omega) hT7).mono ?_
    rintro e V3 ⟨v, r4, q4, rfl, hu, hT8, kk, rfl, zz2, kk0, kk1, -⟩
    have kk2 : kk < 65536 := by simpa using kk1
    clear kk1
    replace hX7 := hX7.but hu hne
    replace hPB7 := hPB7.but hu hBp
    replace hW7 := hu.bel hW7 hpt0
    replace hl7 : px < V3.heap.size := Nat.lt_of_lt_of_le hl7 hu.size
    clear hT7 hu
    have hT7 := hT8
    clear hT8
    obtain ⟨n, rfl⟩ := Int.eq_ofNat_of_zero_le nn0
    obtain ⟨m, rfl⟩ := Int.eq_ofNat_of_zero_le mm0
    obtain ⟨k, rfl⟩ := Int.eq_ofNat_of_zero_le kk0
    have n3 : n ≤ 65535 := by omega
    have m3 : m ≤ 65535 := by omega
    have k3 : k ≤ 65535 := by omega
    clear nn0 nn2 mm0 mm2 kk0 kk2
    have hptd := pointed_any qa ca ga BA EA V3 (HA.out.later hW7)
    go_wp2_with fail
    refine hptd.mono ?_
    rintro e V4 ⟨pb, rfl, hb4, hpb⟩
    have HPB := Hid.mk hpb
    replace hX7 := hX7.later hb4
    replace hPB7 := hPB7.later hb4
    replace hT7 := hT7.later hb4
    replace hW7 := hW7.trans hb4
    replace hl7 : px < V4.heap.size := Nat.lt_of_lt_of_le hl7 hb4.size
    clear hptd hpb hb4
    obtain ⟨t0, t1, -, -⟩ := id hT7
    cases q4
    rotate_left
    · go_wp2
      go_ret2
      exact RApply.no hW7 _ (by decide)
    cases hCH : (h.toList == [67, 80])
    · go_wp2
      go_ret2
      exact RApply.no hW7 _ (by decide)
    have hl7' : pt < V4.heap.size := World.block_lt_of_cell? _ _ t0
    go_upto_if 87 with fail
    go_cut [19] (fun u wc => V4 = wc ∧ ∃ sz : Nat, sz ≤ 9 ∧ u = .int .i64 (sz : Int))
    case first =>
      cases pb
      · go_wp2_with fail
        go_meet
        case rel => exact ⟨rfl, 2, by decide, rfl⟩
      · go_wp2_with fail
        go_meet
        case rel => exact ⟨rfl, 9, by decide, rfl⟩
    case rest =>
      obtain ⟨rfl, sz, hsz, rfl⟩ := hcut
      have hr4 : r4.size ≤ 1099511627776 := by omega
      have hks : wrap64 ((k : Int) * (sz : Int)) = ((k * sz : Nat) : Int) := by
        have : k * sz ≤ 65535 * 9 := Nat.mul_le_mul k3 hsz
        rw [← Int.natCast_mul]
        unfold wrap64
        omega
      by_cases hrs : r4.size = k * sz
      rotate_left
      · have hrb : ((r4.size : Int) != ((k * sz : Nat) : Int)) = true := by rw [bne_iff_ne]; omega
        generalize k * sz = ks at *
        go_wp2
        go_ret2
        exact RApply.no hW7 _ (by decide)
      have hrb : ((r4.size : Int) != ((k * sz : Nat) : Int)) = false := by rw [bne_eq_false_iff_eq]; omega
      clear hrs
      generalize k * sz = ks at *
      go_wp2_with fail
      refine (plains_any pt k pb _ L r4 false _ (by unfold maxLen; omega) hT7 hl7' k3 hPB7 hL8 hBp).mono ?_
      rintro e V5 ⟨vE, E2, ok2, s9, sh9, rfl, hu, -, -, hE2, hE2l, hgood⟩
      have hX8 := hX7.but hu hne
      have hPB8 := hPB7.but hu hBp
      have hW8 := hu.bel hW7 hpt0
      have HNE : Hid (∀ g, vE.ownBlock = some g → w.heap.size ≤ g) := fun g hg => Nat.le_trans hW7.size (hE2.2 g hg)
      have hE := hE2.1
      have HG := Hid.mk hgood
      clear hX7 hPB7 hW7 hT7 hl7' hl7 t0 t1 hu hE2 hgood hks hrb hCH
      have himg := image_any qa ca ga BA EA 1 V5 (HA.out.later hW8) HAo.out ⟨by decide, by decide⟩ (fun x hx => ⟨(HAI.out x hx).1.i64, (HAI.out x hx).2.i64⟩)
      go_wp2_with fail
      refine himg.mono ?_
      rintro e V6 ⟨im, rfl, hb6, him1, him2⟩
      clear himg
      have hsm := fun wx => sum_any (im.extract 0 (im.size - 4)) wx (by unfold maxLen; simp; omega)
      go_wp2_with fail
      refine (hsm _).mono ?_
      rintro e V7 ⟨d, rfl, hb7, -, -⟩
      have hb67 := hb6.trans hb7
      have hX9 := hX8.later hb67
      have hPB9 := hPB8.later hb67
      have hE9 := hE.later hb67
      have hW9 := hW8.trans hb67
      obtain ⟨vBA, vEA, ⟨m0, m1, m2, m3', m4, m5⟩, m6, m7, m8, -, hpEA⟩ := HA.out.later hW9
      clear hX8 hPB8 hE hW8 hb6 hb7 hb67 hsm him1 him2
      obtain ⟨aoE, capE, rfl, hcapE⟩ : ∃ ao cap, vEA = .slice ao EA.length cap ∧ EA.length ≤ cap := by
        rcases hpEA.form with ⟨rfl, rfl⟩ | ⟨g, cap, rfl, hc, _⟩
        · exact ⟨none, 0, rfl, by simp⟩
        · exact ⟨_, cap, rfl, hc⟩
      have HEA : Hid (EA.length ≤ 65535) := hEAl
      obtain ⟨aoM, capM, rfl⟩ : ∃ ao cap, vE = .slice ao E2.length cap := by
        rcases hE9.form with ⟨rfl, rfl⟩ | ⟨g, cap, rfl, _⟩
        · exact ⟨none, 0, rfl⟩
        · exact ⟨_, cap, rfl⟩
      cases eg : (gen1 != ga)
      rotate_left
      · go_wp2
        go_ret2
        exact RApply.no hW9 _ (by decide)
      cases ed : (crc != d)
      rotate_left
      · go_wp2
        go_ret2
        exact RApply.no hW9 _ (by decide)
      cases ok2
      · go_wp2
        go_ret2
        exact RApply.no hW9 _ (by decide)
      by_cases hle : EA.length < n + m
      · have hleb : decide ((n : Int) + (m : Int) > (EA.length : Int)) = true := decide_eq_true (by omega)
        clear hle
        go_wp2
        go_ret2
        exact RApply.no hW9 _ (by decide)
      have hleb : decide ((n : Int) + (m : Int) > (EA.length : Int)) = false := decide_eq_false (by omega)
      have HLE := Hid.mk hle
      go_upto_region 34 with fail
      clear eg ed hle hleb
      have hnE : n ≤ EA.length := by have := HLE.out; omega
      have hmE : m ≤ EA.length := by have := HLE.out; omega
      have hEl := HEA.out
      have hsl := fun wx => slice_toE wx aoE EA.length capE n (by omega)
      go_wp2_with (first | (at_builtin; refine wpList_append_src _ rfl _ _ 82 rfl V7.heap.size 131 i0 (.agg #[.string ByteArray.empty, .int .i64 0, .int .i64 0]) 3 32 Tryz.underlying82 hi hz0 hz1 hz2 rfl (by decide) _ 0 [] rfl ?o1 _ n (ecells (EA.take n)) rfl ?o2 ?c1 ?c2 ?c3 ?c4 ?c5 ?_))
      case o1 => exact World.ownsRow_nil _ _ _ _
      case o2 => exact srcE_to hpEA hnE
      case c1 => rw [ecells_len]; simp; omega
      case c2 => exact ecells_one _
      case c3 => unfold maxLen; omega
      case c4 => omega
      case c5 => exact Nat.le_refl _
      intro v8 V8 hown8 hgrow8
      have hb8 : Bel V7 V8 := (Bel.refl _).grown hgrow8 (fun g hg => by cases hg)
      have hown8p : V8.ownsRow V7.heap.size 131 3 v8 n (ecells (EA.take n)) := by simpa using hown8
      have HO8 := Hid.mk hown8p
      have n8 := hb8.cell m8
      have hE10 := hE9.later hb8
      have hpE8 := hpEA.later hb8
      have hs8 := hb8.size
      have HPE := Hid.mk hpEA
      clear hown8 hown8p hgrow8 hsl m0 m1 m2 m3' m4 m5 m6 m7 hE9 hpEA
      go_wp2_with (first | (at_builtin; refine wpList_append_src _ rfl _ _ 82 rfl V7.heap.size 131 i0 (.agg #[.string ByteArray.empty, .int .i64 0, .int .i64 0]) 3 32 Tryz.underlying82 hi hz0 hz1 hz2 rfl (by decide) v8 n (ecells (EA.take n)) rfl HO8.out _ E2.length (ecells (E2.take E2.length)) rfl ?o2 ?c1 ?c2 ?c3 ?c4 ?c5 ?_))
      case o2 => exact srcE_to hE10 (Nat.le_refl _)
      case c1 => rw [ecells_len]; simp
      case c2 => exact ecells_one _
      case c3 => unfold maxLen; omega
      case c4 => omega
      case c5 => exact hs8
      intro v9 V9 hown9 hgrow9
      have hb9 : Bel V7 V9 := hb8.grown hgrow9 (fun g hg => (World.ownsRow.lt HO8.out g hg).1)
      have HO9 := Hid.mk hown9
      clear hown9 hgrow9 n8 hE10 hpE8 hb8
      obtain ⟨em, hem⟩ : ∃ em : Nat, em = EA.length - m := ⟨_, rfl⟩
      have hwm : IntKind.i64.wrap ((EA.length : Int) - (m : Int)) = (em : Int) := by rw [IntKind.wrap_i64, hem]; omega
      have heml : em ≤ EA.length := by omega
      have HEM := Hid.mk hem
      have hsf := fun wx => slice_fromE wx aoE EA.length capE em heml
      have hs9 := hb9.size
      clear hem
      generalize hcv : cutN aoE EA.length capE em = cv at *
      have HCV := Hid.mk hcv
      clear hcv
      have hqal : qa < V9.heap.size := World.block_lt_of_cell? _ _ (hb9.cell m8)
      go_upto_region 36 with fail
      go_region_held_law (fun w' => Bel V7 w' ∧ w'.cell? ⟨qa, 8, none⟩ = some (.slice aoE EA.length capE)) ((exact ⟨by (repeat (first | exact Bel.refl _ | assumption | refine Bel.step_alloc ?_ _ | refine Bel.step_drew ?_ | refine Bel.step_drewN ?_ _ | refine Bel.step_set ?_ (by simp <;> omega) _ | refine Bel.trans ?_ (by assumption))), Bel.cell (a := V7) (by (repeat (first | exact Bel.refl _ | assumption | refine Bel.step_alloc ?_ _ | refine Bel.step_drew ?_ | refine Bel.step_drewN ?_ _ | refine Bel.step_set ?_ (by simp <;> omega) _ | refine Bel.trans ?_ (by assumption)))) m8⟩))
        ((refine step_append_src rfl (.tmp 144) (.tmp 156) 82 rfl V7.heap.size 131 i0 (.agg #[.string ByteArray.empty, .int .i64 0, .int .i64 0]) 3 32 Tryz.underlying82 hi hz0 hz1 hz2 rfl (by decide) v9 (n + E2.length) (ecells (EA.take n) ++ ecells E2) (by simp [Act.eval]) (owns_later HO9.out (by (repeat (first | exact Bel.refl _ | assumption | refine Bel.step_alloc ?_ _ | refine Bel.step_drew ?_ | refine Bel.step_drewN ?_ _ | refine Bel.step_set ?_ (by simp <;> omega) _ | refine Bel.trans ?_ (by assumption))))) cv (EA.length - em) (ecells (EA.drop em)) (by simp [Act.eval]) (HCV.out ▸ srcE_from (EntsAt.later HPE.out (by (repeat (first | exact Bel.refl _ | assumption | refine Bel.step_alloc ?_ _ | refine Bel.step_drew ?_ | refine Bel.step_drewN ?_ _ | refine Bel.step_set ?_ (by simp <;> omega) _ | refine Bel.trans ?_ (by assumption))))) heml) (by rw [ecells_len, List.length_drop]) (ecells_one _) (by unfold maxLen; omega) (by omega) (by simp; omega) ?_
          intro v10 V10 hown10 hgrow10
          have hb10 : Bel V7 V10 := by
            first
            | exact hb9.grown hgrow10 (fun g hg => (World.ownsRow.lt HO9.out g hg).1)
            | exact (hb9.step_drew).grown hgrow10 (fun g hg => (World.ownsRow.lt HO9.out g hg).1)
          have H10 := Hid.mk hown10
          clear hown10 hgrow10))
      all_goals
        obtain ⟨E3, hE3⟩ : ∃ E3, E3 = EA.take n ++ E2 ++ EA.drop em := ⟨_, rfl⟩
        have hl3' : E3.length = n + E2.length + (EA.length - em) := by rw [hE3]; simp; omega
        have HE3 : Hid (V10.ownsRow V7.heap.size 131 3 v10 E3.length (ecells E3)) := by
          have h1 := H10.out
          show V10.ownsRow _ _ _ _ _ _
          rw [hl3', hE3, ecells_app, ecells_app]
          simpa using h1
        have HG3 : Hid (∀ x ∈ E3, W32 x.2.1 ∧ W32 x.2.2) := by
          intro x hx
          rw [hE3] at hx
          rcases List.mem_append.1 hx with h | h
          · rcases List.mem_append.1 h with h | h
            · exact HAI.out x (List.mem_of_mem_take h)
            · exact (HG.out x h).2
          · exact HAI.out x (List.mem_of_mem_drop h)
        have hl3 : E3.length ≤ 140000 := by have := HLE.out; have := HEM.out; omega
        obtain ⟨ao3, cap3, rfl, -, hE3a⟩ := ents_slice HE3.out
        have hPB10 := hPB9.later hb10
        have hX10 := hX9.later hb10
        have hW10 := hW9.trans hb10
        have HNE3 : Hid (∀ g, (Value.slice ao3 E3.length cap3).ownBlock = some g → w.heap.size ≤ g) := fun g hg => Nat.le_trans hW9.size (World.ownsRow.lt HE3.out g hg).1
        clear H10 hE3 hl3' hPB9 hX9 hW9 hb9 hb10 hwm hsf m8 HPE HCV HO8 HO9
        go_wp2
        go_loopg [25] E3.length (fun r vq wr => Bel V10 wr ∧ ∃ t : Nat, t ≤ E3.length ∧ r = E3.length - t ∧ vq = .int .i64 t ∧ ∀ j (h : j < E3.length), j < t → ∃ b ∈ L, b.1 = E3[j].1)
        case atStart => exact ⟨Bel.refl _, 0, by omega, by omega, rfl, fun j _ h => by omega⟩
        case round =>
          obtain ⟨hbr, t, ht, hrt, rfl, hin⟩ := hrel
          have HIN := Hid.mk hin
          clear hin
          by_cases htl : t < E3.length
          · have htb : decide ((t : Int) < (E3.length : Int)) = true := decide_eq_true (by omega)
            rcases hE3a.form with ⟨-, hnil⟩ | ⟨g3, cap', hv, -, -, hcs⟩
            · rw [hnil] at htl; simp at htl
            simp only [Value.slice.injEq, true_and] at hv
            obtain ⟨rfl, rfl⟩ := hv
            have e0 := hbr.cell (hcs t htl).1
            have HNX : Hid ((∃ y ∈ L, y.1 = E3[t].1) → ∀ j (h : j < E3.length), j < t + 1 → ∃ b ∈ L, b.1 = E3[j].1) := fun hy j h1 h2 => by
              by_cases hj : j = t
              · subst hj; exact hy
              · exact HIN.out j h1 (by omega)
            clear hcs
            generalize E3[t].1 = idt at *
            go_wp2
            generalize wr = wo at *
            go_loopg [26, 27] L.length (fun r vi vo wx => Bel wo wx ∧ ∃ (u : Nat) (b : Bool), u ≤ L.length ∧ r = L.length - u ∧ vo = .int .i64 u ∧ vi = .bool b ∧ (b = true → ∃ y ∈ L, y.1 = idt))
            case atStart => exact ⟨Bel.refl _, 0, false, by omega, by omega, rfl, rfl, fun h => by cases h⟩
            case round =>
              obtain ⟨hbo, u, b, hu, hru, rfl, rfl, hby⟩ := hrel
              have HBY := Hid.mk hby
              clear hby
              by_cases hul : u < L.length
              · have hub : decide ((u : Int) < (L.length : Int)) = true := decide_eq_true (by omega)
                have e0' := hbo.cell e0
                cases b
                · rcases hPB10.form with ⟨-, hnil⟩ | ⟨gB, capB', hv, -, -, hcB⟩
                  · rw [hnil] at hul; simp at hul
                  simp only [Value.slice.injEq, true_and] at hv
                  obtain ⟨rfl, rfl⟩ := hv
                  have b0 := hbo.cell (hbr.cell (hcB u hul).1)
                  have HEQ : Hid ((L[u].1.toList == idt.toList) = true ↔ L[u].1 = idt) := str_eq
                  have HM : Hid (L[u].1 = idt → ∃ y ∈ L, y.1 = idt) := fun e => ⟨L[u], List.getElem_mem hul, e⟩
                  clear hcB
                  generalize L[u].1 = lu at *
                  cases heq : (lu.toList == idt.toList)
                  · go_wp2_with fail
                    go_quiet (fail)
                    go_wp2
                    go_roundg (L.length - (u + 1))
                    case measure => omega
                    case rel => exact ⟨hbo.trans (by (repeat (first | exact Bel.refl _ | assumption | refine Bel.step_alloc ?_ _ | refine Bel.step_drew ?_ | refine Bel.step_drewN ?_ _ | refine Bel.step_set ?_ (by simp <;> omega) _ | refine Bel.trans ?_ (by assumption)))), u + 1, false, by omega, rfl, by go_num, rfl, fun h => by cases h⟩
                  · have HY := Hid.mk (HM.out (HEQ.out.1 heq))
                    go_wp2_with fail
                    go_quiet (fail)
                    go_wp2
                    go_roundg (L.length - (u + 1))
                    case measure => omega
                    case rel => exact ⟨hbo.trans (by (repeat (first | exact Bel.refl _ | assumption | refine Bel.step_alloc ?_ _ | refine Bel.step_drew ?_ | refine Bel.step_drewN ?_ _ | refine Bel.step_set ?_ (by simp <;> omega) _ | refine Bel.trans ?_ (by assumption)))), u + 1, true, by omega, rfl, by go_num, rfl, fun _ => HY.out⟩
                · go_wp2_with fail
                  go_quiet (fail)
                  go_wp2
                  go_roundg (L.length - (u + 1))
                  case measure => omega
                  case rel => exact ⟨hbo.trans (by (repeat (first | exact Bel.refl _ | assumption | refine Bel.step_alloc ?_ _ | refine Bel.step_drew ?_ | refine Bel.step_drewN ?_ _ | refine Bel.step_set ?_ (by simp <;> omega) _ | refine Bel.trans ?_ (by assumption)))), u + 1, true, by omega, rfl, by go_num, rfl, fun _ => HBY.out (by simp)⟩
              · have hub : decide ((u : Int) < (L.length : Int)) = false := decide_eq_false (by omega)
                have hbB := hW10.trans (hbr.trans hbo)
                cases b
                · go_wp2
                  go_ret2
                  exact RApply.no hbB _ (by decide)
                · have hb3 := hbr.trans hbo
                  go_wp2
                  go_roundg (E3.length - (t + 1))
                  case measure => omega
                  case rel => exact ⟨hb3, t + 1, by omega, rfl, by go_num, HNX.out (HBY.out (by simp))⟩
          · have htb : decide ((t : Int) < (E3.length : Int)) = false := decide_eq_false (by omega)
            have HALL : Hid (∀ x ∈ E3, ∃ b ∈ L, b.1 = x.1) := fun x hx => by
              obtain ⟨j, hj, rfl⟩ := List.mem_iff_getElem.1 hx
              exact HIN.out j hj (by omega)
            have hX := hX10.later hbr
            have c8 := (hX 8 _ rfl).1
            have f8 := (hX 8 _ rfl).2
            have hXs := hX.set 8 (.slice ao3 E3.length cap3)
            have hPs : PoolAt (wr.setCell ⟨px, 8, none⟩ (.slice ao3 E3.length cap3)) (.slice aoB L.length capB) L := (hPB10.later hbr).set_x (hX 0 _ rfl).1
            have hEs : EntsAt (wr.setCell ⟨px, 8, none⟩ (.slice ao3 E3.length cap3)) (.slice ao3 E3.length cap3) E3 := (hE3a.later hbr).set_x (hX 0 _ rfl).1
            have hSt : StateAt (wr.setCell ⟨px, 8, none⟩ (.slice ao3 E3.length cap3)) px ca gen L E3 := StateAt.of_blk hXs hPs hEs
            have HStN : Hid (StateN w.heap.size (wr.setCell ⟨px, 8, none⟩ (.slice ao3 E3.length cap3)) px ca gen L E3) := StateN.of_blk hXs hPs hEs hpx HNB.out HNE3.out
            have hWs : Bel w (wr.setCell ⟨px, 8, none⟩ (.slice ao3 E3.length cap3)) := (hW10.trans hbr).step_set (p := ⟨px, 8, none⟩) hpx _
            have hfit : ca.Fit := by
              obtain ⟨a1, a2, a3, a4, -, a6, a7, a8, a9, a10, a11, a12⟩ := HAo.out.1
              exact ⟨⟨by omega, by omega⟩, ⟨by omega, by omega⟩, ⟨by omega, by omega⟩, ⟨by omega, by omega⟩, ⟨by omega, by omega⟩, by rw [a10]; unfold maxLen; omega⟩
            have hwl := whole_any px ca gen L E3 _ hSt hfit HPO.out hl3
            clear hX hXs hPs hEs hSt hX10 hPB10 hE3a hW10 hbr
            go_wp2_with fail
            refine hwl.mono ?_
            rintro e W9 ⟨okw, rfl, hbw, hwh⟩
            have hWw := hWs.trans hbw
            have HSN := Hid.mk (HStN.out.later hbw)
            clear hwl
            cases okw
            · go_wp2
              go_ret2
              exact RApply.no hWw _ (by decide)
            · have HWH := Hid.mk (hwh rfl)
              clear hwh
              go_wp2
              go_ret2
              obtain ⟨hOK, hg1, hg2, hsl⟩ := HWH.out
              exact ⟨_, _, rfl, hWw, fun _ => ⟨px, ca, gen, L, E3, rfl, HSN.out, ⟨hOK, ⟨by omega, by omega⟩, HPO.out, hl3, HALL.out, hsl⟩, HG3.out⟩⟩

end Go.Proofs.YtgfildmmcbjpnabGreat
