import Derived.Test.YtgfildmmcbjpnabKU
namespace Go.Proofs.Ytgfildmmcbjpnab
open Go.RowKit

set_option maxRecDepth 100000 in
set_option maxHeartbeats 1000000 in
theorem step_soon (W0 : World) (p s : Nat) (k : KI) (a b c : Int) (S : ByteArray) (w : World) (h : KInv W0 p s k w) (hs : s ≤ 65600) (gs cs gh ch : Nat) (f : Int) (hvs : k.vs = sl gs 1 cs) (hvh : k.vh = sl gh 1 ch)
    (hos : OwnI W0.heap.size w (sl gs 1 cs) [f]) (hoh : OwnI W0.heap.size w (sl gh 1 ch) [0]) (n3 : gh ≠ p) (ha : I64 a) (hb : I64 b) :
    Calls Try.prog 23 #[.pointer (some ⟨p, 0, none⟩), opV 11 a b c S] w (RStep W0 p (s + 1) FS) := by
  have hpk := fun wx => pick_is a 1 wx ha (by omega) (by omega)
  obtain ⟨h1, h2⟩ := pickF_range a 1 (by omega)
  have hp1 : pickF a 1 = 0 := by omega
  rw [hp1] at hpk
  obtain ⟨nw, xw, hrow, hnw, hgw⟩ := h.2.2.2.2.2.2.2.2.2.2.1
  obtain ⟨aw, capw, hvw⟩ := own_slice hrow
  obtain ⟨L, hL⟩ : ∃ L, L = wl k.part k.c k.q k.on k.vb k.vw k.vs k.vh (.slice none 0 0) ByteArray.empty := ⟨_, rfl⟩
  have hW : WAt p L w := by rw [hL]; exact h.1
  have hLl : L.length = 20 := by rw [hL, wl_len]
  have l0 : L[0]? = some (.int .i64 k.part) := by rw [hL]; rfl
  have l7 : L[7]? = some (.pointer (some ⟨k.q, 0, none⟩)) := by rw [hL]; rfl
  have l13 : L[13]? = some (.int .i64 k.on.formats) := by rw [hL]; rfl
  have l15 : L[15]? = some (.slice aw nw capw) := by rw [hL, ← hvw]; rfl
  have l16 : L[16]? = some (.slice (some ⟨gs, 0, none⟩) 1 cs) := by
    have e : L[16]? = some k.vs := by rw [hL]; rfl
    rw [e, hvs]; rfl
  have l17 : L[17]? = some (.slice (some ⟨gh, 0, none⟩) 1 ch) := by
    have e : L[17]? = some k.vh := by rw [hL]; rfl
    rw [e, hvh]; rfl
  have l18 : L[18]? = some (.slice none 0 0) := by rw [hL]; rfl
  have c17 := hW.1 17 _ l17
  obtain ⟨cg, fg⟩ := own_first hoh
  obtain ⟨cf, -⟩ := own_first hos
  have hpq : k.q ∉ [p] := by simpa using h.2.1.2.2.symm
  have hpM := h.2.1.1
  have hS := h.2.2.2.2.1
  have hla := fun wx (b' : Bel w wx) => latest_is p k.q gs cs L b k.on.formats f k.g wx (hW.later b') (by omega) l7 l13 l16 l18 (b'.cell cf) hb (fun wy bt => gen_is k.M k.q k.on k.B k.g wy ((hS.later b').but bt hpq (by intro j hj; simp at hj; subst hj; exact Or.inl hpM)))
  have hst := fun wx w2 (b' : Bel w wx) (hi : LInv p L wx 3 w2) => stands_is p k.q gh ch nw capw aw w2 (hi.other (by decide) l7) (hi.other (by decide) l15) (hi.other (by decide) l17) (hi.1.cell (b'.cell cg) (by simpa using n3)) (hi.1.frozen (b'.cell cg) (by simpa using n3) (b'.frozen cg fg)) (by omega) n3
  have hplt := hW.lt (by omega)
  have hp0 := (h.2.2.1 p hpM).1
  have hB0 := h.2.2.2.1
  have hhl := World.ownsRow.lt hoh gh rfl
  have HW : Hid (20 = L.length ∧ L[0]? = some (.int .i64 k.part)) := ⟨hLl.symm, l0⟩
  clear h hoh hos hvh hvs hrow hgw hp1 h1 h2 hL hW l0 l7 l13 l15 l16 l17 l18 hvw hLl hS hpM hpq cf
  unfold opV
  go_enter Try.func23, Try.ntmps23
  go_wp2_with fail
  go_region_held3 (fun w' => Bel w w' ∧ w'.cell? ⟨p, 17, none⟩ = some (.slice (some ⟨gh, 0, none⟩) 1 ch) ∧ w'.cell? ⟨w.heap.size, 1, none⟩ = some (.int .i64 a)) ((exact ⟨by (repeat (first | exact Bel.refl _ | assumption | refine Bel.step_alloc ?_ _ | refine Bel.step_drew ?_ | refine Bel.step_drewN ?_ _ | refine Bel.step_set ?_ (by simp <;> omega) _ | refine Bel.trans ?_ (by assumption))), Bel.cell (a := w) (by (repeat (first | exact Bel.refl _ | assumption | refine Bel.step_alloc ?_ _ | refine Bel.step_drew ?_ | refine Bel.step_drewN ?_ _ | refine Bel.step_set ?_ (by simp <;> omega) _ | refine Bel.trans ?_ (by assumption)))) c17, by simp⟩)) ((go_at_call 32; refine (hpk _).mono ?_; rintro e w2 ⟨rfl, rfl⟩))
  all_goals clear hpk
  go_wp2_with fail
  refine (hla _ (by (repeat (first | exact Bel.refl _ | assumption | refine Bel.step_alloc ?_ _ | refine Bel.step_drew ?_ | refine Bel.step_drewN ?_ _ | refine Bel.step_set ?_ (by simp <;> omega) _ | refine Bel.trans ?_ (by assumption))))).mono ?_
  rintro e w2 ⟨⟨ok, rfl⟩, hinv⟩
  have hst2 := hst _ w2 (by (repeat (first | exact Bel.refl _ | assumption | refine Bel.step_alloc ?_ _ | refine Bel.step_drew ?_ | refine Bel.step_drewN ?_ _ | refine Bel.step_set ?_ (by simp <;> omega) _ | refine Bel.trans ?_ (by assumption)))) hinv
  have hB2 : Bel W0 w2 := But.belTo (hB0.trans (by (repeat (first | exact Bel.refl _ | assumption | refine Bel.step_alloc ?_ _ | refine Bel.step_drew ?_ | refine Bel.step_drewN ?_ _ | refine Bel.step_set ?_ (by simp <;> omega) _ | refine Bel.trans ?_ (by assumption))))) hinv.1 (by intro j hj; simp at hj; subst hj; exact hp0)
  obtain ⟨-, vf, xs, hW2, -, -⟩ := hinv
  have hlen : 0 < (L.set 18 vf).length := by rw [List.length_set, ← HW.out.1]; decide
  have hf8 := fails_is p _ 8 w2 hW2 hlen
  have HW2 := Hid.mk hW2
  have H0 : Hid ((L.set 18 vf)[0]? = some (.int .i64 k.part)) := by
    show _ = _
    rw [List.getElem?_set_ne (by decide)]; exact HW.out.2
  clear hla hst hW2
  cases ok
  · go_wp2_with fail
    refine hf8.mono ?_
    rintro e w4 ⟨rfl, rfl⟩
    clear hf8 hst2
    go_wp2
    go_ret
    exact Or.inr ⟨rfl, hB2.step_set hp0 _, 8, Or.inr (by simp), set_same (HW2.out.1 0 _ H0.out)⟩
  · clear hf8
    go_wp2_with fail
    refine hst2.mono ?_
    rintro e w3 ⟨rfl, hb3⟩
    have hW3 := HW2.out.but hb3 (by simpa using n3.symm)
    have hB3 : Bel W0 w3 := But.belTo hB2 hb3 (by intro j hj; simp at hj; subst hj; exact hhl.1)
    have hfa := fails_is p _ 2 w3 hW3 hlen
    have HW3 := Hid.mk hW3
    clear hst2 hW3 hb3
    go_wp2_with fail
    refine hfa.mono ?_
    rintro e w4 ⟨rfl, rfl⟩
    clear hfa
    go_wp2
    go_ret
    exact Or.inr ⟨rfl, hB3.step_set hp0 _, 2, Or.inr (by simp), set_same (HW3.out.1 0 _ H0.out)⟩

theorem step_all (W0 : World) (p s : Nat) (k : KI) (kd a b c : Int) (S : ByteArray) (w : World) (h : KInv W0 p s k w) (hs : s ≤ 65600) (ha : I64 a) (hb : I64 b) (hS : S.size ≤ maxLen) :
    Calls Try.prog 23 #[.pointer (some ⟨p, 0, none⟩), opV kd a b c S] w (RStep W0 p (s + 1) FS) := by
  by_cases k1 : kd = 1
  · subst k1; exact step_num W0 p s k a b c S w h ha hb
  by_cases k2 : kd = 2
  · subst k2; exact step_key W0 p s k a b c S w h
  by_cases k3 : kd = 3
  · subst k3; exact step_new W0 p s k a b c S w h
  by_cases k4 : kd = 4
  · subst k4; exact step_delta W0 p s k a b c S w h hs ha hb hS
  by_cases k5 : kd = 5
  · subst k5; exact step_drop W0 p s k a b c S w h
  by_cases k12 : kd = 12
  · subst k12; exact step_same W0 p s k a b c S w h
  by_cases k13 : kd = 13
  · subst k13; exact step_bytes W0 p s k a b c S w h
  rcases h.2.2.2.2.2.2.2.2.2.2.2 with ⟨hvs, hvh⟩ | ⟨gs, gh, cs, ch, f, hvs, hvh, hos, hoh, -, -, n1, -, n3, -, n5, -⟩
  · by_cases k6 : kd = 6
    · subst k6; exact step_join1 W0 p s k a b c S w h hvs hvh ha
    · exact step_none W0 p s k kd a b c S w h hvh ⟨by omega, k12, k13⟩
  · by_cases k6 : kd = 6
    · subst k6; exact step_join2 W0 p s k a b c S w h gs gh cs ch f hvs hvh hos hoh n1 n3 n5 ha
    by_cases k7 : kd = 7
    · subst k7; exact step_round W0 p s k a b c S w h hs gh ch hvh hoh n3 ha
    by_cases k8 : kd = 8
    · subst k8; exact step_old W0 p s k a b c S w h hs gh ch hvh hoh n3 ha
    by_cases k9 : kd = 9
    · subst k9; exact step_burst W0 p s k a b c S w h hs gh ch hvh hoh n3 ha
    by_cases k10 : kd = 10
    · subst k10; exact step_restart W0 p s k a b c S w h hs gh ch hvh hoh n3 ha
    by_cases k11 : kd = 11
    · subst k11; exact step_soon W0 p s k a b c S w h hs gs cs gh ch f hvs hvh hos hoh n3 ha hb
    exact step_else W0 p s k kd a b c S w h hs gh ch hvh hoh n3 ha (by omega)

end Go.Proofs.Ytgfildmmcbjpnab
