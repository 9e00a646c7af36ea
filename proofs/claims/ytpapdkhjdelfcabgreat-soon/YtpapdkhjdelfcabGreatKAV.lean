import Derived.Test.YtpapdkhjdelfcabGreatKAT
import Derived.Test.YtpapdkhjdelfcabGreatKAU
namespace Go.Proofs.YtpapdkhjdelfcabGreat
open Go.RowKit

abbrev Img := Nat × Nat × Cfg × List BK × List EI
/-- to read and go on -/
def stage {α β : Type} (P : List Bool → Option (α × List Bool)) (k : α → Option (List Bool) → Option β) (o : Option (List Bool)) : Option β := (o.bind P).bind fun y => k y.1 (some y.2)
theorem stage_none {α β : Type} (P : List Bool → Option (α × List Bool)) (k : α → Option (List Bool) → Option β) : stage P k none = none := rfl
theorem stage_eq {α β : Type} {P : List Bool → Option (α × List Bool)} {k : α → Option (List Bool) → Option β} {o o' : Option (List Bool)} {a : α} (h : o.bind P = o'.map (Prod.mk a)) (hk : k a none = none) : stage P k o = k a o' := by
  unfold stage
  rw [h]
  cases o' with
  | none => exact hk.symm
  | some X => rfl
open Classical in
/-- what an image says, step by step -/
noncomputable def imgEnd (f g : Nat) (c : Cfg) (B : List BK) (E : List EI) (o : Option (List Bool)) : Option Img := if endP o = true ∧ RightG g c B E then some (f, g, c, B, E) else none
noncomputable def imgE (f g : Nat) (c : Cfg) (B : List BK) (n : Nat) : Option (List Bool) → Option Img := stage (manyP (oneEn (wpF c.alg) (woF f c.alg B.length)) n) fun E => imgEnd f g c B E
noncomputable def imgN (f g : Nat) (c : Cfg) (B : List BK) : Option (List Bool) → Option Img := stage (numP 16) fun n => imgE f g c B n
open Classical in
noncomputable def imgB (f g : Nat) (c : Cfg) : Option (List Bool) → Option Img := stage bksX fun B o => if Good B then imgN f g c B o else none
open Classical in
noncomputable def imgH : Option (List Bool) → Option Img := stage headX fun h o => if (1 ≤ h.1 ∧ h.1 ≤ 2) ∧ h.2.2.TOK then imgB h.1 h.2.1 h.2.2 o else none
noncomputable def imgT : Option (List Bool) → Option Img := stage (textP 2) fun t o => if t = [67, 72] then imgH o else none
noncomputable def imageP (l : List UInt8) : Option Img := (openB l).bind fun b => imgT (some (bytesBits b))
theorem imgEnd_none (f g : Nat) (c : Cfg) (B : List BK) (E : List EI) : imgEnd f g c B E none = none := by unfold imgEnd endP; exact if_neg (fun h => by cases h.1)
theorem imgT_step {o o' : Option (List Bool)} {t : List UInt8} (h : o.bind (textP 2) = o'.map (Prod.mk t)) : imgT o = if t = [67, 72] then imgH o' else none := stage_eq h (by split <;> rfl)
open Classical in
theorem imgH_step {o o' : Option (List Bool)} {f g : Nat} {c : Cfg} (h : o.bind headX = o'.map (Prod.mk (f, g, c))) : imgH o = if (1 ≤ f ∧ f ≤ 2) ∧ c.TOK then imgB f g c o' else none := stage_eq h (by split <;> rfl)
open Classical in
theorem imgB_step {o o' : Option (List Bool)} {f g : Nat} {c : Cfg} {B : List BK} (h : o.bind bksX = o'.map (Prod.mk B)) : imgB f g c o = if Good B then imgN f g c B o' else none := stage_eq h (by split <;> rfl)
theorem imgN_step {o o' : Option (List Bool)} {f g n : Nat} {c : Cfg} {B : List BK} (h : o.bind (numP 16) = o'.map (Prod.mk n)) : imgN f g c B o = imgE f g c B n o' := stage_eq h rfl
theorem imgE_step {o o' : Option (List Bool)} {f g n : Nat} {c : Cfg} {B : List BK} {E : List EI} (h : o.bind (manyP (oneEn (wpF c.alg) (woF f c.alg B.length)) n) = o'.map (Prod.mk E)) : imgE f g c B n o = imgEnd f g c B E o' := stage_eq h (imgEnd_none ..)
def imgNo : Value := .tuple #[.agg #[.int .i64 0, .int .i64 0, .int .i64 0, .int .i64 0, .int .i64 0, .int .i64 0, .string ⟨#[]⟩, .int .i64 0, .slice none 0 0, .slice none 0 0], .bool false]
def RImg (w : World) (o : Option Img) (e : Ending) (w' : World) : Prop := Bel w w' ∧ match o with
  | none => e = .returned imgNo
  | some (f, g, c, B, E) => ∃ vP vE, e = .returned (.tuple #[imgV f g c vP vE, .bool true]) ∧ OwnB w.heap.size w' vP B ∧ OwnE w.heap.size w' vE E
theorem Bel.sets10 {w V : World} {r : Nat} (h : Bel w V) (hr : w.heap.size ≤ r) (u0 u1 u2 u3 u4 u5 u6 u7 u8 u9 : Value) : Bel w ((((((((((V.setCell ⟨r, 0, none⟩ u0).setCell ⟨r, 1, none⟩ u1).setCell ⟨r, 2, none⟩ u2).setCell ⟨r, 3, none⟩ u3).setCell ⟨r, 4, none⟩ u4).setCell ⟨r, 5, none⟩ u5).setCell ⟨r, 6, none⟩ u6).setCell ⟨r, 7, none⟩ u7).setCell ⟨r, 8, none⟩ u8).setCell ⟨r, 9, none⟩ u9) :=
  ((((h.sets6 hr u0 u1 u2 u3 u4 u5).step_set (p := ⟨r, 6, none⟩) hr _).step_set (p := ⟨r, 7, none⟩) hr _).step_set (p := ⟨r, 8, none⟩) hr _).step_set (p := ⟨r, 9, none⟩) hr _

set_option maxRecDepth 100000 in
set_option maxHeartbeats 2000000 in
theorem readi_is (t : ByteArray) (w : World) (ht : t.size ≤ 1099511627776) :
    Calls Tryz.prog 154 #[.string t] w (RImg w (imageP t.data.toList)) := by
  have HR := Hid.mk (BoxC.new w 173 #[.int .i64 0, .int .i64 0, .int .i64 0, .int .i64 0, .int .i64 0, .int .i64 0, .string ⟨#[]⟩, .int .i64 0, .slice none 0 0, .slice none 0 0])
  cases hO : openB t.data.toList with
  | none =>
    have hno : Hid (imageP t.data.toList = none) := by show _ = _; simp [imageP, hO]
    have H0 := fun wx => opened_is t wx ht
    rw [hO] at H0
    unfold ROpen openV at H0
    go_enter Tryz.func154, Tryz.ntmps154
    go_wp2_with fail
    refine (H0 _).mono ?_
    rintro e w1 ⟨rfl, hb1⟩
    have R1 := HR.out.bel hb1
    have r0 := R1.cell 0 rfl
    have s0 := R1.free 0
    have r1 := R1.cell 1 rfl
    have s1 := R1.free 1
    have r2 := R1.cell 2 rfl
    have s2 := R1.free 2
    have r3 := R1.cell 3 rfl
    have s3 := R1.free 3
    have r4 := R1.cell 4 rfl
    have s4 := R1.free 4
    have r5 := R1.cell 5 rfl
    have s5 := R1.free 5
    have r6 := R1.cell 6 rfl
    have s6 := R1.free 6
    have r7 := R1.cell 7 rfl
    have s7 := R1.free 7
    have r8 := R1.cell 8 rfl
    have s8 := R1.free 8
    have r9 := R1.cell 9 rfl
    have s9 := R1.free 9
    have HB1 : Hid (Bel w w1) := ((Bel.refl w).step_alloc _).trans hb1
    clear R1 HR hb1 H0
    go_wp2
    rw [hno.out]
    exact bodyPost_ret (v := imgNo) (by simp [imgNo, results, Tryz.results154, go_sem, r0, r1, r2, r3, r4, r5, r6, r7, r8, r9]) rfl ⟨HB1.out.sets10 (Nat.le_refl _) _ _ _ _ _ _ _ _ _ _, rfl⟩
  | some b =>
    have hI0 : Hid (imageP t.data.toList = imgT (some (bytesBits b))) := by show _ = _; simp [imageP, hO]
    have H0 := fun wx => opened_is t wx ht
    rw [hO] at H0
    unfold ROpen openV at H0
    go_enter Tryz.func154, Tryz.ntmps154
    go_wp2_with fail
    refine (H0 _).mono ?_
    rintro e w1 ⟨rfl, hb1⟩
    go_wp2_with fail
    refine (read_is _ _).mono ?_
    rintro e w2 ⟨rfl, hb2⟩
    obtain ⟨W0, hW0⟩ : ∃ W0, W0 = w.alloc (.cells #[.int .i64 0, .int .i64 0, .int .i64 0, .int .i64 0, .int .i64 0, .int .i64 0, .string ⟨#[]⟩, .int .i64 0, .slice none 0 0, .slice none 0 0] 173) := ⟨_, rfl⟩
    rw [← hW0] at HR hb1
    have hS0 := Rs.new w2 b 151
    have hB0 : But [w2.heap.size] W0 (w2.alloc (.cells #[.string (txt b), .int .u64 0, .bool false] 151)) := But.of_bel ((hb1.trans hb2).step_alloc _)
    have H1 := Hid.mk (rtext_p w2.heap.size _ 2 _ hS0 (by omega))
    have hp0 : W0.heap.size ≤ w2.heap.size := (hb1.trans hb2).size
    have hrp : Hid (w.heap.size < W0.heap.size) := by show _ < _; rw [hW0]; simp
    have hw0 : Hid (Bel w W0) := by show Bel w W0; rw [hW0]; exact (Bel.refl w).step_alloc _
    have HB0 := Hid.mk hB0
    have HR0 := HR
    clear hb1 hb2 H0 hS0 hB0 hW0 HR
    go_wp2_with fail
    refine H1.out.mono ?_
    rintro e w3 ⟨l, o1, rfl, hB3, hR3, hl3, hq1⟩
    have HB3 := Hid.mk (HB0.out.trans hB3)
    have HR3 := Hid.mk hR3
    have hI1 : Hid (imageP t.data.toList = if l = [67, 72] then imgH o1 else none) := hI0.out.trans (imgT_step hq1)
    have hte : ((txt l).toList == [67, 72]) = decide (l = [67, 72]) := txt_is l [67, 72]
    clear hB3 hR3 hl3 hq1 H1 HB0 hI0
    by_cases hl : l = [67, 72]
    rotate_left
    · have hte2 : ((txt l).toList == [67, 72]) = false := by rw [hte]; exact decide_eq_false hl
      clear hte
      have R := HR0.out.but (HB3.out) (by have := hrp.out; simp; omega)
      have HW := Hid.mk (But.belTo hw0.out (HB3.out) (fun j hj => by have := hrp.out; simp at hj; omega))
      have r0 := R.cell 0 rfl
      have s0 := R.free 0
      have r1 := R.cell 1 rfl
      have s1 := R.free 1
      have r2 := R.cell 2 rfl
      have s2 := R.free 2
      have r3 := R.cell 3 rfl
      have s3 := R.free 3
      have r4 := R.cell 4 rfl
      have s4 := R.free 4
      have r5 := R.cell 5 rfl
      have s5 := R.free 5
      have r6 := R.cell 6 rfl
      have s6 := R.free 6
      have r7 := R.cell 7 rfl
      have s7 := R.free 7
      have r8 := R.cell 8 rfl
      have s8 := R.free 8
      have r9 := R.cell 9 rfl
      have s9 := R.free 9
      have hfin : Hid (imageP t.data.toList = none) := by rw [if_neg hl] at hI1; exact hI1
      clear R hl HB3 HR3
      go_wp2
      rw [hfin.out]
      exact bodyPost_ret (v := imgNo) (by simp [imgNo, results, Tryz.results154, go_sem, r0, r1, r2, r3, r4, r5, r6, r7, r8, r9]) rfl ⟨HW.out.sets10 (Nat.le_refl _) _ _ _ _ _ _ _ _ _ _, rfl⟩
    rw [if_pos hl] at hI1
    have hte2 : ((txt l).toList == [67, 72]) = true := by rw [hte]; exact decide_eq_true hl
    have H4 := Hid.mk (takeh_is _ _ _ HR3.out)
    clear hte hl
    go_wp2_with fail
    refine H4.out.mono ?_
    rintro e w4 ⟨f, g, c, o2, rfl, hB4, hR4, hq2, hg, hf⟩
    have hI2 : Hid (imageP t.data.toList = imgH o1) := hI1
    replace hI2 := Hid.mk (hI2.out.trans (imgH_step hq2))
    clear hI1 hq2 H4
    have hfm := fun wx => format_is (f : Int) wx
    have htc := fun wx => tconfig_any c wx
    have HCF : Hid (c = ⟨c.alg, c.slots, c.points, c.probes, c.key, c.formats⟩) := rfl
    have hwd := fun n wx hn => widths_is (f : Int) c.alg n wx hn
    have hcr := fun B E vP vE wx h1 h2 h3 h4 h5 => cright_is g c vP vE B E wx h1 h2 h3 h4 h5
    unfold widV at hwd
    unfold imgV
    unfold tabV at hcr
    obtain ⟨alg, slots, points, probes, key, formats⟩ := c
    simp only [Cfg.cells] at *
    have HS := Hid.mk (St.new (tq := 173) (qc := #[.int .i64 (f : Int), .int .i64 (g : Int), .int .i64 alg, .int .i64 slots, .int .i64 points, .int .i64 probes, .string key, .int .i64 formats, .slice none 0 0, .slice none 0 0]) (HB3.out.trans hB4) hR4)
    clear hB4 hR4 HB3 HR3 HCF
    go_wp2_with fail
    refine (hfm _).mono ?_
    rintro e wx ⟨x, rfl, rfl, hx⟩
    have HX : Hid (x = true ↔ 1 ≤ f ∧ f ≤ 2) := ⟨fun h => by have := hx.1 h; unfold Within at this; omega, fun h => hx.2 (by unfold Within; omega)⟩
    clear hx hfm
    have hmb : w4.heap.size ≠ w2.heap.size := HS.out.2.2.2.2
    have hmb2 := HS.out.2.2.2.1
    cases x
    · have hq : Hid (¬ ((1 ≤ f ∧ f ≤ 2) ∧ Cfg.TOK ⟨alg, slots, points, probes, key, formats⟩)) := fun h => by have := HX.out.2 h.1; cases this
      have R := HR0.out.but (HS.out.1) (by have := hrp.out; simp; omega)
      have HW := Hid.mk (But.belTo hw0.out (HS.out.1) (fun j hj => by have := hrp.out; simp at hj; omega))
      have r0 := R.cell 0 rfl
      have s0 := R.free 0
      have r1 := R.cell 1 rfl
      have s1 := R.free 1
      have r2 := R.cell 2 rfl
      have s2 := R.free 2
      have r3 := R.cell 3 rfl
      have s3 := R.free 3
      have r4 := R.cell 4 rfl
      have s4 := R.free 4
      have r5 := R.cell 5 rfl
      have s5 := R.free 5
      have r6 := R.cell 6 rfl
      have s6 := R.free 6
      have r7 := R.cell 7 rfl
      have s7 := R.free 7
      have r8 := R.cell 8 rfl
      have s8 := R.free 8
      have r9 := R.cell 9 rfl
      have s9 := R.free 9
      have hfin : Hid (imageP t.data.toList = none) := by show _ = _; rw [hI2.out]; exact if_neg hq.out
      clear R HS
      go_wp2
      rw [hfin.out]
      exact bodyPost_ret (v := imgNo) (by simp [imgNo, results, Tryz.results154, go_sem, r0, r1, r2, r3, r4, r5, r6, r7, r8, r9]) rfl ⟨HW.out.sets10 (Nat.le_refl _) _ _ _ _ _ _ _ _ _ _, rfl⟩
    have HS1 := HS
    have B4 := HS.out.box
    have a0 := B4.cell 0 rfl
    have b0 := B4.free 0
    have a1 := B4.cell 1 rfl
    have b1 := B4.free 1
    have a2 := B4.cell 2 rfl
    have b2 := B4.free 2
    have a3 := B4.cell 3 rfl
    have b3 := B4.free 3
    have a4 := B4.cell 4 rfl
    have b4 := B4.free 4
    have a5 := B4.cell 5 rfl
    have b5 := B4.free 5
    have a6 := B4.cell 6 rfl
    have b6 := B4.free 6
    have a7 := B4.cell 7 rfl
    have b7 := B4.free 7
    have a8 := B4.cell 8 rfl
    have b8 := B4.free 8
    have a9 := B4.cell 9 rfl
    have b9 := B4.free 9
    clear B4
    go_wp2_with fail
    refine (htc _).mono ?_
    rintro e w5 ⟨x, rfl, hb5, hx⟩
    have HTK : Hid (x = true ↔ Cfg.TOK ⟨alg, slots, points, probes, key, formats⟩) := ⟨hx.1, hx.2⟩
    replace HS := Hid.mk (HS.out.bel hb5)
    clear hx htc hb5 HS1 a0 a1 a2 a3 a4 a5 a6 a7 a8 a9 b0 b1 b2 b3 b4 b5 b6 b7 b8 b9
    cases x
    · have hq : Hid (¬ ((1 ≤ f ∧ f ≤ 2) ∧ Cfg.TOK ⟨alg, slots, points, probes, key, formats⟩)) := fun h => by have := HTK.out.2 h.2; cases this
      have R := HR0.out.but (HS.out.1) (by have := hrp.out; simp; omega)
      have HW := Hid.mk (But.belTo hw0.out (HS.out.1) (fun j hj => by have := hrp.out; simp at hj; omega))
      have r0 := R.cell 0 rfl
      have s0 := R.free 0
      have r1 := R.cell 1 rfl
      have s1 := R.free 1
      have r2 := R.cell 2 rfl
      have s2 := R.free 2
      have r3 := R.cell 3 rfl
      have s3 := R.free 3
      have r4 := R.cell 4 rfl
      have s4 := R.free 4
      have r5 := R.cell 5 rfl
      have s5 := R.free 5
      have r6 := R.cell 6 rfl
      have s6 := R.free 6
      have r7 := R.cell 7 rfl
      have s7 := R.free 7
      have r8 := R.cell 8 rfl
      have s8 := R.free 8
      have r9 := R.cell 9 rfl
      have s9 := R.free 9
      have hfin : Hid (imageP t.data.toList = none) := by show _ = _; rw [hI2.out]; exact if_neg hq.out
      clear R HS
      go_wp2
      rw [hfin.out]
      exact bodyPost_ret (v := imgNo) (by simp [imgNo, results, Tryz.results154, go_sem, r0, r1, r2, r3, r4, r5, r6, r7, r8, r9]) rfl ⟨HW.out.sets10 (Nat.le_refl _) _ _ _ _ _ _ _ _ _ _, rfl⟩
    have HF12 : Hid (1 ≤ f ∧ f ≤ 2) := HX.out.1 (by simp)
    have HTOK : Hid (Cfg.TOK ⟨alg, slots, points, probes, key, formats⟩) := HTK.out.1 (by simp)
    have hI3 : Hid (imageP t.data.toList = imgB f g ⟨alg, slots, points, probes, key, formats⟩ o2) := by show _ = _; rw [hI2.out]; exact if_pos ⟨HF12.out, HTOK.out⟩
    have H6 := Hid.mk (takeb_is _ _ _ HS.out.rs)
    have hp5 := HS.out.rs.lt
    have hm5 := HS.out.box.lt
    clear HX HTK hI2
    go_wp2_with fail
    refine H6.out.mono ?_
    rintro e w6 ⟨B, o3, v, x, rfl, hB6, hR6, hq3, hgood, hown6⟩
    replace HS := Hid.mk (HS.out.read hB6 hR6)
    have hI4 := Hid.mk (hI3.out.trans (imgB_step hq3))
    have HGD := Hid.mk hgood
    have HOB := Hid.mk hown6
    clear hB6 hR6 hq3 hgood hown6 H6 hI3
    cases x
    · have hq : Hid (¬ Good B) := fun h => by have := HGD.out.2 h; cases this
      have R := HR0.out.but (HS.out.1) (by have := hrp.out; simp; omega)
      have HW := Hid.mk (But.belTo hw0.out (HS.out.1) (fun j hj => by have := hrp.out; simp at hj; omega))
      have r0 := R.cell 0 rfl
      have s0 := R.free 0
      have r1 := R.cell 1 rfl
      have s1 := R.free 1
      have r2 := R.cell 2 rfl
      have s2 := R.free 2
      have r3 := R.cell 3 rfl
      have s3 := R.free 3
      have r4 := R.cell 4 rfl
      have s4 := R.free 4
      have r5 := R.cell 5 rfl
      have s5 := R.free 5
      have r6 := R.cell 6 rfl
      have s6 := R.free 6
      have r7 := R.cell 7 rfl
      have s7 := R.free 7
      have r8 := R.cell 8 rfl
      have s8 := R.free 8
      have r9 := R.cell 9 rfl
      have s9 := R.free 9
      have hfin : Hid (imageP t.data.toList = none) := by show _ = _; rw [hI4.out]; exact if_neg hq.out
      clear R HS
      go_wp2
      rw [hfin.out]
      exact bodyPost_ret (v := imgNo) (by simp [imgNo, results, Tryz.results154, go_sem, r0, r1, r2, r3, r4, r5, r6, r7, r8, r9]) rfl ⟨HW.out.sets10 (Nat.le_refl _) _ _ _ _ _ _ _ _ _ _, rfl⟩
    have HG : Hid (Good B) := HGD.out.1 (by simp)
    replace HOB : Hid (OwnB w5.heap.size w6 v B) := HOB.out (by simp)
    have hI5 : Hid (imageP t.data.toList = imgN f g ⟨alg, slots, points, probes, key, formats⟩ B o3) := by show _ = _; rw [hI4.out]; exact if_pos HG.out
    have h8 := HG.out.1.1
    obtain ⟨aP, capP, rfl⟩ := own_sliceW HOB.out
    have y8 := HS.out.box.cell 8 rfl
    have z8 := HS.out.box.free 8
    replace HS := Hid.mk (HS.out.put 8 (.slice aP B.length capP) (qc' := #[.int .i64 (f : Int), .int .i64 (g : Int), .int .i64 alg, .int .i64 slots, .int .i64 points, .int .i64 probes, .string key, .int .i64 formats, .slice aP B.length capP, .slice none 0 0]) rfl)
    replace HOB := Hid.mk (ownsRow_setCell_below HOB.out (a := ⟨w4.heap.size, 8, none⟩) (by simp only; omega) (.slice aP B.length capP))
    have H7 := Hid.mk (rint_p _ _ 2 _ HS.out.rs (by omega))
    clear HGD hI4
    go_wp2_with fail
    refine H7.out.mono ?_
    rintro e w7 ⟨n, o4, rfl, hB7, hR7, hn7, hq4⟩
    have hn : n ≤ 65535 := by have : (2 : Nat) ^ (8 * 2) = 65536 := rfl; omega
    replace HS := Hid.mk (HS.out.read hB7 hR7)
    replace HOB := Hid.mk (own_but HOB.out hB7 hp5)
    have hI6 := Hid.mk (hI5.out.trans (imgN_step hq4))
    have B7 := HS.out.box
    have a0 := B7.cell 0 rfl
    have a2 := B7.cell 2 rfl
    clear B7 hB7 hR7 hn7 hq4 H7 hI5 y8 z8
    have hwd8 := fun wx => hwd B.length wx h8
    go_wp2_with fail
    refine (hwd8 _).mono ?_
    rintro e w8 ⟨rfl, hb8⟩
    replace HS := Hid.mk (HS.out.bel hb8)
    replace HOB := Hid.mk (own_laterW HOB.out hb8)
    have hm8 := HS.out.box.lt
    have hp8 := HS.out.rs.lt
    have H9 := Hid.mk (takee_is _ _ (wpF alg) (woF (f : Int) alg B.length) n _ HS.out.rs (wpF_le _) (woF_le _ _ _) hn)
    clear hb8 hwd hwd8 a0 a2
    have HWP : Hid (∃ x, x = wpF alg) := ⟨_, rfl⟩
    have hI7 : Hid (∀ (E : List EI) (o' : Option (List Bool)), o4.bind (manyP (oneEn (wpF alg) (woF (f : Int) alg B.length)) n) = o'.map (Prod.mk E) → imageP t.data.toList = imgEnd f g ⟨alg, slots, points, probes, key, formats⟩ B E o') := fun E o' h => hI6.out.trans (imgE_step h)
    clear hI6 HWP
    generalize wpF alg = wp at *
    generalize woF (f : Int) alg B.length = wo at *
    go_wp2_with fail
    refine H9.out.mono ?_
    rintro e w9 ⟨E, o5, vE, rfl, hB9, hR9, hq5, hOE, hEl, hEn⟩
    replace HS := Hid.mk (HS.out.read hB9 hR9)
    replace HOB := Hid.mk (own_but HOB.out hB9 hp5)
    obtain ⟨aE, capE, rfl⟩ := own_sliceW hOE
    have HOE := Hid.mk hOE
    have hI8 := Hid.mk (hI7.out E o5 hq5)
    have y9 := HS.out.box.cell 9 rfl
    have z9 := HS.out.box.free 9
    replace HS := Hid.mk (HS.out.put 9 (.slice aE E.length capE) (qc' := #[.int .i64 (f : Int), .int .i64 (g : Int), .int .i64 alg, .int .i64 slots, .int .i64 points, .int .i64 probes, .string key, .int .i64 formats, .slice aP B.length capP, .slice aE E.length capE]) rfl)
    replace HOB := Hid.mk (ownsRow_setCell_below HOB.out (a := ⟨w4.heap.size, 9, none⟩) (by simp only; omega) (.slice aE E.length capE))
    replace HOE := Hid.mk (ownsRow_setCell_below HOE.out (a := ⟨w4.heap.size, 9, none⟩) (by simp only; omega) (.slice aE E.length capE))
    have H10 := Hid.mk (rover_p _ _ _ HS.out.rs)
    clear hB9 hR9 hq5 hOE H9 hI7
    go_wp2_with fail
    refine H10.out.mono ?_
    rintro e w10 ⟨rfl, hb10⟩
    replace HS := Hid.mk (HS.out.bel hb10)
    replace HOB := Hid.mk (own_laterW HOB.out hb10)
    replace HOE := Hid.mk (own_laterW HOE.out hb10)
    clear hb10 H10 y9 z9
    cases hx : endP o5
    · have hq : Hid (¬ (endP o5 = true ∧ RightG g ⟨alg, slots, points, probes, key, formats⟩ B E)) := fun h => by rw [hx] at h; cases h.1
      have R := HR0.out.but (HS.out.1) (by have := hrp.out; simp; omega)
      have HW := Hid.mk (But.belTo hw0.out (HS.out.1) (fun j hj => by have := hrp.out; simp at hj; omega))
      have r0 := R.cell 0 rfl
      have s0 := R.free 0
      have r1 := R.cell 1 rfl
      have s1 := R.free 1
      have r2 := R.cell 2 rfl
      have s2 := R.free 2
      have r3 := R.cell 3 rfl
      have s3 := R.free 3
      have r4 := R.cell 4 rfl
      have s4 := R.free 4
      have r5 := R.cell 5 rfl
      have s5 := R.free 5
      have r6 := R.cell 6 rfl
      have s6 := R.free 6
      have r7 := R.cell 7 rfl
      have s7 := R.free 7
      have r8 := R.cell 8 rfl
      have s8 := R.free 8
      have r9 := R.cell 9 rfl
      have s9 := R.free 9
      have hfin : Hid (imageP t.data.toList = none) := by show _ = _; rw [hI8.out]; exact if_neg hq.out
      clear R HS
      go_wp2
      rw [hfin.out]
      exact bodyPost_ret (v := imgNo) (by simp [imgNo, results, Tryz.results154, go_sem, r0, r1, r2, r3, r4, r5, r6, r7, r8, r9]) rfl ⟨HW.out.sets10 (Nat.le_refl _) _ _ _ _ _ _ _ _ _ _, rfl⟩
    have B10 := HS.out.box
    have a0 := B10.cell 0 rfl
    have b0 := B10.free 0
    have a1 := B10.cell 1 rfl
    have b1 := B10.free 1
    have a2 := B10.cell 2 rfl
    have b2 := B10.free 2
    have a3 := B10.cell 3 rfl
    have b3 := B10.free 3
    have a4 := B10.cell 4 rfl
    have b4 := B10.free 4
    have a5 := B10.cell 5 rfl
    have b5 := B10.free 5
    have a6 := B10.cell 6 rfl
    have b6 := B10.free 6
    have a7 := B10.cell 7 rfl
    have b7 := B10.free 7
    have a8 := B10.cell 8 rfl
    have b8 := B10.free 8
    have a9 := B10.cell 9 rfl
    have b9 := B10.free 9
    clear B10
    have H11 := Hid.mk (hcr B E _ _ w10 (OwnB.pool HOB.out) (OwnE.ents HOE.out) HG.out.1 (by omega) HTOK.out)
    clear hcr
    go_wp2_with fail
    refine H11.out.mono ?_
    rintro e w11 ⟨x, rfl, hb11, hx11⟩
    replace HS := Hid.mk (HS.out.bel hb11)
    replace HOB := Hid.mk (own_laterW HOB.out hb11)
    replace HOE := Hid.mk (own_laterW HOE.out hb11)
    have HX11 := Hid.mk hx11
    clear hb11 hx11 H11 a0 a1 a2 a3 a4 a5 a6 a7 a8 a9 b0 b1 b2 b3 b4 b5 b6 b7 b8 b9
    cases x
    · have hq : Hid (¬ (endP o5 = true ∧ RightG g ⟨alg, slots, points, probes, key, formats⟩ B E)) := fun h => by have := HX11.out.2 h.2; cases this
      have R := HR0.out.but (HS.out.1) (by have := hrp.out; simp; omega)
      have HW := Hid.mk (But.belTo hw0.out (HS.out.1) (fun j hj => by have := hrp.out; simp at hj; omega))
      have r0 := R.cell 0 rfl
      have s0 := R.free 0
      have r1 := R.cell 1 rfl
      have s1 := R.free 1
      have r2 := R.cell 2 rfl
      have s2 := R.free 2
      have r3 := R.cell 3 rfl
      have s3 := R.free 3
      have r4 := R.cell 4 rfl
      have s4 := R.free 4
      have r5 := R.cell 5 rfl
      have s5 := R.free 5
      have r6 := R.cell 6 rfl
      have s6 := R.free 6
      have r7 := R.cell 7 rfl
      have s7 := R.free 7
      have r8 := R.cell 8 rfl
      have s8 := R.free 8
      have r9 := R.cell 9 rfl
      have s9 := R.free 9
      have hfin : Hid (imageP t.data.toList = none) := by show _ = _; rw [hI8.out]; exact if_neg hq.out
      clear R HS
      go_wp2
      rw [hfin.out]
      exact bodyPost_ret (v := imgNo) (by simp [imgNo, results, Tryz.results154, go_sem, r0, r1, r2, r3, r4, r5, r6, r7, r8, r9]) rfl ⟨HW.out.sets10 (Nat.le_refl _) _ _ _ _ _ _ _ _ _ _, rfl⟩
    have hfin : Hid (imageP t.data.toList = some (f, g, ⟨alg, slots, points, probes, key, formats⟩, B, E)) := by show _ = _; rw [hI8.out]; exact if_pos ⟨hx, HX11.out.1 (by simp)⟩
    have R := HR0.out.but HS.out.1 (by have := hrp.out; simp; omega)
    have HW := Hid.mk (But.belTo hw0.out HS.out.1 (fun j hj => by have := hrp.out; simp at hj; omega))
    have B11 := HS.out.box
    have r0 := R.cell 0 rfl
    have s0 := R.free 0
    have r1 := R.cell 1 rfl
    have s1 := R.free 1
    have r2 := R.cell 2 rfl
    have s2 := R.free 2
    have r3 := R.cell 3 rfl
    have s3 := R.free 3
    have r4 := R.cell 4 rfl
    have s4 := R.free 4
    have r5 := R.cell 5 rfl
    have s5 := R.free 5
    have r6 := R.cell 6 rfl
    have s6 := R.free 6
    have r7 := R.cell 7 rfl
    have s7 := R.free 7
    have r8 := R.cell 8 rfl
    have s8 := R.free 8
    have r9 := R.cell 9 rfl
    have s9 := R.free 9
    have a0 := B11.cell 0 rfl
    have b0 := B11.free 0
    have a1 := B11.cell 1 rfl
    have b1 := B11.free 1
    have a2 := B11.cell 2 rfl
    have b2 := B11.free 2
    have a3 := B11.cell 3 rfl
    have b3 := B11.free 3
    have a4 := B11.cell 4 rfl
    have b4 := B11.free 4
    have a5 := B11.cell 5 rfl
    have b5 := B11.free 5
    have a6 := B11.cell 6 rfl
    have b6 := B11.free 6
    have a7 := B11.cell 7 rfl
    have b7 := B11.free 7
    have a8 := B11.cell 8 rfl
    have b8 := B11.free 8
    have a9 := B11.cell 9 rfl
    have b9 := B11.free 9
    clear R B11 HS
    go_wp2
    rw [hfin.out]
    refine bodyPost_ret (v := .tuple #[imgV f g ⟨alg, slots, points, probes, key, formats⟩ (.slice aP B.length capP) (.slice aE E.length capE), .bool true]) (by simp [imgV, results, Tryz.results154, go_sem, r0, r1, r2, r3, r4, r5, r6, r7, r8, r9]) rfl ⟨HW.out.sets10 (Nat.le_refl _) _ _ _ _ _ _ _ _ _ _, _, _, rfl, ?_, ?_⟩
    · refine OwnB.mono (b := w5.heap.size) ?_ (by have := hrp.out; omega)
      iterate 10 (refine ownsRow_setCell_below ?_ (by have := hrp.out; simp only; omega) _)
      exact HOB.out
    · refine World.ownsRow.mono (base := w8.heap.size) ?_ (by have := hrp.out; omega)
      iterate 10 (refine ownsRow_setCell_below ?_ (by have := hrp.out; simp only; omega) _)
      exact HOE.out

end Go.Proofs.YtpapdkhjdelfcabGreat
