import Derived.Test.YtgfildmmcbjpnabKQ
namespace Go.Proofs.Ytgfildmmcbjpnab
open Go.RowKit

theorem join_is (v : Value) (f : Int) (w : World) : Calls Try.prog 15 #[v, .int .i64 f] w fun e w' => e = .returned (.tuple #[.int .i64 0, .int .i64 0]) ∧ w = w' := by
  go_enter Try.func15, Try.ntmps15
  go_wp2
  go_ret2
  exact ⟨rfl, rfl⟩

/-- the two rows of the dataplanes have come to be -/
theorem KInv.rows {W0 : World} {p s : Nat} {k : KI} {w wf : World} (h : KInv W0 p s k w) (b : But [p] w wf) {gs gh cs ch : Nat} {f : Int}
    (hW : WAt p (wl k.part k.c k.q k.on k.vb k.vw (sl gs 1 cs) (sl gh 1 ch) (.slice none 0 0) ByteArray.empty) wf) (hs : OwnI W0.heap.size wf (sl gs 1 cs) [f]) (hh : OwnI W0.heap.size wf (sl gh 1 ch) [0])
    (g1 : w.heap.size ≤ gh) (g2 : w.heap.size ≤ gs) (g3 : gh < wf.heap.size) (g4 : gs < wf.heap.size) (hne : gs ≠ gh) :
    KInv W0 p s { k with M := gs :: gh :: k.M, vs := sl gs 1 cs, vh := sl gh 1 ch } wf := by
  obtain ⟨hW0, ⟨hp1, hp2, hp3⟩, hM, hb, hS, hP, hG, hc, hon, hg, ⟨n, xs, ho, hn, hgw⟩, hpl⟩ := h
  have hS1 := (hS.cons (j := gh) (Or.inr g1)).cons (j := gs) (Or.inr g2)
  have hS2 := hS1.but b (by simpa using fun e => hp3 e.symm) (fun j hj => Or.inl (by simp at hj; subst hj; simp [hp1]))
  have bm : But (gs :: gh :: k.M) w wf := b.mono (fun j hj => Or.inl (by simp at hj; subst hj; simp [hp1]))
  rw [← mask_cons (j := gh) (Or.inr g1), ← mask_cons (j := gs) (Or.inr g2)] at hP
  have hP2 := hP.later bm
  have bs := b.size
  have lp := (hM _ hp1).2
  have lq := (hM _ hp2).2
  have w0 := hb.size
  refine ⟨hW, ⟨by simp [hp1], by simp [hp2], hp3⟩, ?_, But.belTo hb b (by intro j hj; simp at hj; subst hj; exact (hM _ hp1).1), hS2, hP2, hG, hc, hon, hg, ⟨n, xs, own_but ho b (fun g e => by simpa using (hgw g e).2.1), hn, fun g e => ⟨by simp [(hgw g e).1], (hgw g e).2⟩⟩,
    Or.inr ⟨gs, gh, cs, ch, f, rfl, rfl, hs, hh, by simp, by simp, by omega, by simp only; omega, by omega, by simp only; omega, hne, fun e => ?_, fun e => ?_⟩⟩
  · intro j hj
    simp only [List.mem_cons] at hj
    rcases hj with rfl | rfl | hj
    · omega
    · omega
    · have := hM j hj; omega
  · have := (hM _ (hgw _ e).1).2; omega
  · have := (hM _ (hgw _ e).1).2; omega

set_option maxRecDepth 100000 in
set_option maxHeartbeats 400000 in
theorem step_join1 (W0 : World) (p s : Nat) (k : KI) (a b c : Int) (S : ByteArray) (w : World) (h : KInv W0 p s k w) (hvs : k.vs = .slice none 0 0) (hvh : k.vh = .slice none 0 0) (ha : I64 a) :
    Calls Try.prog 23 #[.pointer (some ⟨p, 0, none⟩), opV 6 a b c S] w (RStep W0 p (s + 1) FS) := by
  have hpk := fun wx => pick_is a 3 wx ha (by omega) (by omega)
  obtain ⟨h1, h2⟩ := pickF_range a 3 (by omega)
  generalize pickF a 3 = f3 at *
  have c7 := h.1.1 7 _ rfl
  have c16 : w.cell? ⟨p, 16, none⟩ = some (.slice none 0 0) := by rw [← hvs]; exact h.1.1 16 _ rfl
  have c17 : w.cell? ⟨p, 17, none⟩ = some (.slice none 0 0) := by rw [← hvh]; exact h.1.1 17 _ rfl
  have f16 := h.1.2 16 (by rw [wl_len]; decide)
  have f17 := h.1.2 17 (by rw [wl_len]; decide)
  have hplt := h.1.lt (by rw [wl_len]; decide)
  have hw0 := h.2.2.2.1.size
  have HI := Hid.mk h
  clear h
  obtain ⟨i0, hi, hz0, hz1, hz2⟩ := info_parts Try.infoInt
  unfold opV
  go_enter Try.func23, Try.ntmps23
  go_wp2_with fail
  refine (hpk _).mono ?_
  rintro e w2 ⟨rfl, rfl⟩
  clear hpk
  go_wp2_with fail
  refine (join_is _ _ _).mono ?_
  rintro e w2 ⟨rfl, rfl⟩
  go_wp2_with (first | (at_builtin; refine wpList_append_lies _ rfl _ _ 49 rfl W0.heap.size 3 i0 (.int .i64 0) 1 8 Try.underlying49 hi hz0 hz1 hz2 rfl (by decide) _ 0 [] rfl ?p1a ⟨w.heap.size + 1, 0, none⟩ 1 1 [.int .i64 0] rfl rfl ?da1 ?da2 (by decide) ?da3 ?da4 ?da5 _ rfl ?_))
  case p1a => exact World.ownsRow_nil _ _ _ _
  try (case da1 => exact one_new _ _ _ _ (by simp))
  case da2 => first | rfl | (intro u hu; simp at hu; subst hu; rfl)
  case da3 => decide
  case da4 => omega
  case da5 => first | omega | (simp; omega)
  intro gh ch w3 hown3 hgrow3 hat3 hlt3
  have hgh : gh = w.heap.size + 2 := by
    rcases hat3 with h | h
    · simp [Value.ownBlock] at h
    · simp [h]
  subst hgh
  have hb3 : Bel w w3 := ((Bel.step_alloc (Bel.step_alloc (Bel.refl w) _) _)).grown hgrow3 (fun g hg => by simp [Value.ownBlock] at hg)
  have H3 := Hid.mk hown3
  have x7 := hb3.cell c7
  have x16 := hb3.cell c16
  have x17 := hb3.cell c17
  have y16 := hb3.frozen c16 f16
  have y17 := hb3.frozen c17 f17
  have x0 : w3.cell? ⟨w.heap.size, 0, none⟩ = some (.int .i64 6) := cell_grown hgrow3 (by simp) (by simp [Value.ownBlock])
  have hs3 := hb3.size
  have hlt3' : w.heap.size + 2 < w3.heap.size := by omega
  clear hown3 hgrow3 hat3 c7 c16 c17 f16 f17
  go_wp2_with (first | (at_builtin; refine wpList_append_lies _ rfl _ _ 49 rfl W0.heap.size 3 i0 (.int .i64 0) 1 8 Try.underlying49 hi hz0 hz1 hz2 rfl (by decide) _ 0 [] rfl ?p1b ⟨w3.heap.size, 0, none⟩ 1 1 [.int .i64 (1 + f3)] rfl rfl ?db1 ?db2 (by decide) ?db3 ?db4 ?db5 _ rfl ?_))
  case p1b => exact World.ownsRow_nil _ _ _ _
  try (case db1 => exact one_new _ _ _ _ (by simp))
  case db2 => first | rfl | (intro u hu; simp at hu; subst hu; rfl)
  case db3 => decide
  case db4 => omega
  case db5 => first | omega | (simp; omega)
  intro gs cs w5 hown5 hgrow5 hat5 hlt5
  have hgs : gs = w3.heap.size + 1 := by
    rcases hat5 with h | h
    · simp [Value.ownBlock] at h
    · exact h
  subst hgs
  have hb5 : Bel (w3.setCell ⟨p, 17, none⟩ (.slice (some ⟨w.heap.size + 2, 0, none⟩) 1 ch)) w5 := (Bel.step_alloc (Bel.refl _) _).grown hgrow5 (fun g hg => by simp [Value.ownBlock] at hg)
  have z17 := hb5.cell (set_same x17)
  have q16 : (w3.setCell ⟨p, 17, none⟩ (.slice (some ⟨w.heap.size + 2, 0, none⟩) 1 ch)).cell? ⟨p, 16, none⟩ = some (.slice none 0 0) := by rw [set_other (by simp)]; exact x16
  have z16 := hb5.cell q16
  have t16 := hb5.frozen q16 (by rw [frozen_set]; exact y16)
  have hs5 := hb5.size
  have hsz : (w3.setCell ⟨p, 17, none⟩ (.slice (some ⟨w.heap.size + 2, 0, none⟩) 1 ch)).heap.size = w3.heap.size := size_setCell _ _ _
  have hpb : ∀ (wx : World) (o : Nat) (u : Value), But [p] wx (wx.setCell ⟨p, o, none⟩ u) := fun wx o u => (But.refl _ _).set (by simp) _
  have HK : Hid (KInv W0 p (s + 1) { k with M := (w3.heap.size + 1) :: (w.heap.size + 2) :: k.M, vs := sl (w3.heap.size + 1) 1 cs, vh := sl (w.heap.size + 2) 1 ch } (w5.setCell ⟨p, 16, none⟩ (sl (w3.heap.size + 1) 1 cs))) := by
    refine ((HI.out.up (by omega : s ≤ s + 1)).rows (f := 1 + f3) ((((But.of_bel hb3).set (by simp) _).step hb5).set (by simp) _) ((((HI.out.1.later hb3).set 17 _).later hb5).set 16 _) ?_ ?_ (by omega) (by omega) (by rw [size_setCell]; omega) (by rw [size_setCell]; omega) (by omega))
    · exact own_but hown5 (hpb _ _ _) (fun g hg => by
        have : g = w3.heap.size + 1 := by simpa [sl, Value.ownBlock] using hg.symm
        simp; omega)
    · have hgn : ∀ g, (sl (w.heap.size + 2) 1 ch).ownBlock = some g → g ∉ [p] := fun g hg => by
        have : g = w.heap.size + 2 := by simpa [sl, Value.ownBlock] using hg.symm
        simp; omega
      exact own_but (own_later (own_but H3.out (hpb _ _ _) hgn) hb5) (hpb _ _ _) hgn
  clear hown5 hgrow5 hat5 hpb hb5 hsz hb3 H3
  go_wp2
  all_goals go_ret
  all_goals exact Or.inl ⟨rfl, _, HK.out⟩

end Go.Proofs.Ytgfildmmcbjpnab

namespace Go.Proofs.Ytgfildmmcbjpnab
open Go.RowKit

set_option maxRecDepth 100000 in
set_option maxHeartbeats 400000 in
theorem step_join2 (W0 : World) (p s : Nat) (k : KI) (a b c : Int) (S : ByteArray) (w : World) (h : KInv W0 p s k w) (gs gh cs ch : Nat) (f : Int) (hvs : k.vs = sl gs 1 cs) (hvh : k.vh = sl gh 1 ch)
    (hos : OwnI W0.heap.size w (sl gs 1 cs) [f]) (hoh : OwnI W0.heap.size w (sl gh 1 ch) [0]) (n1 : gs ≠ p) (n3 : gh ≠ p) (n5 : gs ≠ gh) (ha : I64 a) :
    Calls Try.prog 23 #[.pointer (some ⟨p, 0, none⟩), opV 6 a b c S] w (RStep W0 p (s + 1) FS) := by
  have hpk := fun wx => pick_is a 3 wx ha (by omega) (by omega)
  obtain ⟨h1, h2⟩ := pickF_range a 3 (by omega)
  generalize pickF a 3 = f3 at *
  have c7 := h.1.1 7 _ rfl
  have c16 : w.cell? ⟨p, 16, none⟩ = some (.slice (some ⟨gs, 0, none⟩) 1 cs) := (by rw [← hvs]; exact h.1.1 16 _ rfl : w.cell? ⟨p, 16, none⟩ = some (sl gs 1 cs))
  have c17 : w.cell? ⟨p, 17, none⟩ = some (.slice (some ⟨gh, 0, none⟩) 1 ch) := (by rw [← hvh]; exact h.1.1 17 _ rfl : w.cell? ⟨p, 17, none⟩ = some (sl gh 1 ch))
  have f16 := h.1.2 16 (by rw [wl_len]; decide)
  have f17 := h.1.2 17 (by rw [wl_len]; decide)
  have hplt := h.1.lt (by rw [wl_len]; decide)
  have hp0 := (h.2.2.1 p h.2.1.1).1
  have hB0 := h.2.2.2.1
  have hw0 := hB0.size
  have HW := Hid.mk h.1
  have hsl := World.ownsRow.lt hos gs rfl
  have hhl := World.ownsRow.lt hoh gh rfl
  have HS := Hid.mk hos
  have HH := Hid.mk hoh
  clear h hos hoh hvs hvh
  obtain ⟨i0, hi, hz0, hz1, hz2⟩ := info_parts Try.infoInt
  unfold opV
  go_enter Try.func23, Try.ntmps23
  go_wp2_with fail
  refine (hpk _).mono ?_
  rintro e w2 ⟨rfl, rfl⟩
  clear hpk
  go_wp2_with fail
  refine (join_is _ _ _).mono ?_
  rintro e w2 ⟨rfl, rfl⟩
  go_wp2_with (first | (at_builtin; refine wpList_append_lies _ rfl _ _ 49 rfl W0.heap.size 3 i0 (.int .i64 0) 1 8 Try.underlying49 hi hz0 hz1 hz2 rfl (by decide) _ 1 [.int .i64 0] rfl ?p1a ⟨w.heap.size + 1, 0, none⟩ 1 1 [.int .i64 0] rfl rfl ?da1 ?da2 (by decide) ?da3 ?da4 ?da5 _ rfl ?_))
  case p1a => exact World.ownsRow.alloc (World.ownsRow.alloc HH.out _) _
  try (case da1 => exact one_new _ _ _ _ (by simp))
  case da2 => first | rfl | (intro u hu; simp at hu; subst hu; rfl)
  case da3 => decide
  case da4 => omega
  case da5 => first | omega | (simp; omega)
  intro g3 c3 w3 hown3 hgrow3 hat3 hlt3
  have hba : Bel w ((w.alloc (.cells #[.int .i64 6, .int .i64 a, .int .i64 b, .int .i64 c, .string S] 28)).alloc (.cells #[.int .i64 0] 3)) := (Bel.step_alloc (Bel.step_alloc (Bel.refl w) _) _)
  have b3 : But [gh] w w3 := (But.of_bel hba).trans (grown_but hgrow3)
  have x7 := b3.cell c7 (by simpa using n3.symm)
  have x16 := b3.cell c16 (by simpa using n3.symm)
  have x17 := b3.cell c17 (by simpa using n3.symm)
  have y16 := b3.frozen c16 (by simpa using n3.symm) f16
  have y17 := b3.frozen c17 (by simpa using n3.symm) f17
  have x0 : w3.cell? ⟨w.heap.size, 0, none⟩ = some (.int .i64 6) := cell_grown hgrow3 (by simp) (by simp [Value.ownBlock]; omega)
  have hs3 := b3.size
  have hB3 : Bel W0 w3 := But.belTo hB0 b3 (by intro j hj; simp at hj; subst hj; exact hhl.1)
  have HW3 := Hid.mk (HW.out.but b3 (by simpa using n3.symm))
  have HS3 := Hid.mk (own_but HS.out b3 (fun g hg => by
    have : g = gs := by simpa [sl, Value.ownBlock] using hg.symm
    simp; omega))
  have hw03 := hB3.size
  clear hown3 hgrow3 hat3 c7 c16 c17 f16 f17 HS HH HW hba
  go_wp2_with (first | (at_builtin; refine wpList_append_lies _ rfl _ _ 49 rfl W0.heap.size 3 i0 (.int .i64 0) 1 8 Try.underlying49 hi hz0 hz1 hz2 rfl (by decide) _ 1 [.int .i64 f] rfl ?p1b ⟨w3.heap.size, 0, none⟩ 1 1 [.int .i64 (1 + f3)] rfl rfl ?db1 ?db2 (by decide) ?db3 ?db4 ?db5 _ rfl ?_))
  case p1b => exact World.ownsRow.alloc (own_but HS3.out (M := [p]) ((But.refl _ _).set (by simp) _) (fun g hg => by
    have : g = gs := by simpa [sl, Value.ownBlock] using hg.symm
    simp; omega)) _
  try (case db1 => exact one_new _ _ _ _ (by simp))
  case db2 => first | rfl | (intro u hu; simp at hu; subst hu; rfl)
  case db3 => decide
  case db4 => omega
  case db5 => first | omega | (simp; omega)
  intro g5 c5 w5 hown5 hgrow5 hat5 hlt5
  have b5 : But [gs] (w3.setCell ⟨p, 17, none⟩ (.slice (some ⟨g3, 0, none⟩) 2 c3)) w5 := (But.of_bel (Bel.step_alloc (Bel.refl _) _)).trans (grown_but hgrow5)
  have z17 := b5.cell (set_same x17) (by simpa using n1.symm)
  have q16 : (w3.setCell ⟨p, 17, none⟩ (.slice (some ⟨g3, 0, none⟩) 2 c3)).cell? ⟨p, 16, none⟩ = some (.slice (some ⟨gs, 0, none⟩) 1 cs) := by rw [set_other (by simp)]; exact x16
  have z16 := b5.cell q16 (by simpa using n1.symm)
  have t16 := b5.frozen q16 (by simpa using n1.symm) (by rw [frozen_set]; exact y16)
  have hB5 : Bel W0 w5 := But.belTo (Bel.step_set hB3 hp0 _) b5 (by intro j hj; simp at hj; subst hj; exact hsl.1)
  have hW6 := (((HW3.out.set 17 _).but b5 (by simpa using n1.symm)).set 16 (.slice (some ⟨g5, 0, none⟩) 2 c5))
  have hfa := fails_is p _ 1 _ hW6 (by simp [wl_len])
  have HW6 := Hid.mk hW6
  clear hown5 hgrow5 hat5 HW3 HS3 hW6
  go_wp2_with fail
  refine hfa.mono ?_
  rintro e w7 ⟨rfl, rfl⟩
  clear hfa
  go_wp2
  go_ret
  exact Or.inr ⟨rfl, (hB5.step_set hp0 _).step_set hp0 _, 1, Or.inr (by simp), set_same (HW6.out.1 0 _ rfl)⟩

end Go.Proofs.Ytgfildmmcbjpnab
