import Derived.Test.YtgfildmmcbjpnabKK
namespace Go.Proofs.Ytgfildmmcbjpnab
open Go.RowKit

set_option maxRecDepth 100000 in
set_option maxHeartbeats 400000 in
theorem ktotal_is (B : List BK) (v : Value) (w : World) (hP : PoolAt w v B) (hB : PoolOK B) :
    Calls Try.prog 72 #[v] w fun e w' => e = .returned (.int .i64 (wSum B)) ∧ w = w' := by
  obtain ⟨h8, hall⟩ := hB
  obtain ⟨ao, cap, rfl, hc⟩ := hP.open
  obtain ⟨T, hT⟩ : ∃ T, T = wSum B := ⟨_, rfl⟩
  rw [← hT]
  have HT := Hid.mk hT
  clear hT
  go_enter Try.func72, Try.ntmps72
  go_wp2
  go_loopg [3, 4] B.length (fun r s n wr => w = wr ∧ ∃ k : Nat, r = B.length - k ∧ k ≤ B.length ∧ n = .int .i64 k ∧ s = .int .i64 (wSum (B.take k)))
  case atStart => exact ⟨rfl, 0, by omega, by omega, rfl, rfl⟩
  case round =>
    obtain ⟨rfl, k, hr, hk, rfl, rfl⟩ := hrel
    have hbd := wSum_bound B (fun b hb => (hall b hb).2.2) k
    have hk8 : k ≤ 8 := by omega
    by_cases hlt : k < B.length
    · obtain ⟨g, rfl, c0, c1⟩ := hc k hlt
      have HS : Hid (wSum (B.take (k + 1)) = wSum (B.take k) + B[k].2) := wSum_take B k hlt
      have hw := (hall _ (List.getElem_mem hlt)).2.2
      clear hc
      generalize B[k].1 = idk at *
      generalize B[k].2 = wk at *
      generalize wSum (B.take k) = sk at *
      obtain ⟨hw1, hw2⟩ := hw
      obtain ⟨hb1, hb2⟩ := hbd
      go_wp2
      go_roundg (B.length - (k + 1))
      case measure => omega
      case rel => exact ⟨rfl, k + 1, rfl, by omega, by go_num, by rw [HS.out]⟩
    · have HE : Hid (wSum (B.take k) = T) := by rw [List.take_of_length_le (by omega), HT.out]; rfl
      clear hc hbd
      go_wp2
      go_ret
      exact ⟨ret_int HE.out, rfl⟩

/-- how often a name is among the first k -/
def cntTo (L : List ByteArray) (id : ByteArray) : Nat → Nat
  | 0 => 0
  | k + 1 => cntTo L id k + if ((L[k]?).getD ByteArray.empty).toList == id.toList then 1 else 0
theorem cntTo_le (L : List ByteArray) (id : ByteArray) (k : Nat) : cntTo L id k ≤ k := by
  induction k with
  | zero => simp [cntTo]
  | succ k ih => rw [cntTo]; split <;> omega
/-- a backend's share -/
def ShareOK (B : List BK) (M : Nat) (L : List ByteArray) (b : BK) : Prop := (cntTo L b.1 M : Int) = M * b.2 / wSum B ∨ ((cntTo L b.1 M : Int) = M * b.2 / wSum B + 1 ∧ 0 < M * b.2 % wSum B)
def SharedOK (B : List BK) (M : Nat) (L : List ByteArray) : Prop := wSum B = 0 ∨ (L.length = M ∧ ∀ b ∈ B, ShareOK B M L b)

set_option maxRecDepth 100000 in
set_option maxHeartbeats 400000 in
theorem shared_is (p : Nat) (Lw : List Value) (M : List Nat) (q : Nat) (on : Cfg) (B : List BK) (g : Int) (vb : Value) (m : Nat) (w : World) (hW : WAt p Lw w) (h7 : Lw[7]? = some (.pointer (some ⟨q, 0, none⟩))) (h9 : Lw[9]? = some (.int .i64 (m : Int))) (h14 : Lw[14]? = some vb)
    (hS : SvcAt M q on B g w) (hP : PoolAt w vb B) (hB : PoolOK B) (hE : (mkF on B).length ≤ 65536) (hm : m ≤ 300) :
    Calls Try.prog 55 #[.pointer (some ⟨p, 0, none⟩)] w (RBool w (IsB (SharedOK B m (namesF B (mkF on B))))) := by
  have hsl := slots_is M q on B g w hS hE
  have htt := fun wx (h : Bel w wx) => ktotal_is B vb wx (hP.later h) hB
  have hL0 : wSum B = 0 → namesF B (mkF on B) = [] := fun h => by rw [mkF, if_pos (by omega)]; rfl
  have c7 := hW.1 7 _ h7
  have c9 := hW.1 9 _ h9
  have c14 := hW.1 14 _ h14
  obtain ⟨h8, hall⟩ := hB
  have hT2 := wSum_bound B (fun b hb => (hall b hb).2.2) B.length
  rw [List.take_length] at hT2
  obtain ⟨ao, cap, rfl, hc⟩ := hP.open
  generalize namesF B (mkF on B) = L at *
  clear hS hE
  obtain ⟨Pr, hPr⟩ : ∃ Pr : Prop, Pr = SharedOK B m L := ⟨_, rfl⟩
  rw [← hPr]
  unfold SharedOK ShareOK at hPr
  obtain ⟨T, hT⟩ : ∃ T, T = wSum B := ⟨_, rfl⟩
  rw [← hT] at htt hL0 hT2 hPr
  have HPr := Hid.mk hPr
  clear hPr
  clear hT hW
  obtain ⟨hT2a, hT2b⟩ := hT2
  go_enter Try.func55, Try.ntmps55
  go_wp2_with fail
  refine hsl.mono ?_
  rintro e w1 ⟨vL, rfl, hb1, hO, hnil⟩
  have k9 := hb1.cell c9
  have k14 := hb1.cell c14
  obtain ⟨aL, capL, rfl⟩ := own_slice hO
  go_wp2_with fail
  refine (htt _ hb1).mono ?_
  rintro e w2 ⟨rfl, rfl⟩
  clear htt hsl
  by_cases hT0 : T = 0
  · subst hT0
    have hLn := hL0 rfl
    subst hLn
    have hv := hnil rfl
    simp only [Value.slice.injEq] at hv
    obtain ⟨rfl, -, rfl⟩ := hv
    clear hc hO hnil hL0
    have hnq : ∀ wx : World, (binOp .eql 36 (.slice none 0 0) (.slice none 0 0)).run Try.prog wx = .ok (.bool true) wx := fun wx => by kernel_rfl
    go_wp2
    go_ret
    exact ⟨_, rfl, hb1, ⟨fun _ => HPr.out ▸ Or.inl (by trivial), fun _ => rfl⟩⟩
  · have hT0b : (T == 0) = false := by rw [beq_eq_false_iff_ne]; exact hT0
    by_cases hlen : L.length = m
    rotate_left
    · have hlb : ((L.length : Int) != (m : Int)) = true := by rw [bne_iff_ne]; omega
      clear hc hO hnil hL0
      go_wp2
      go_ret
      exact ⟨_, rfl, hb1, ⟨fun h => (by cases h), fun h => (by rw [HPr.out] at h; exact h.elim (fun h => absurd h hT0) (fun h => absurd h.1 hlen))⟩⟩
    subst hlen
    have HO := Hid.mk hO
    have hcl : ∀ j (hj : j < L.length), ∃ gl, aL = some ⟨gl, 0, none⟩ ∧ w1.cell? ⟨gl, j, none⟩ = some (.string L[j]) := by
      intro j hj
      rcases hO.2 with ⟨_, h0⟩ | ⟨gl, cl, cur, hv, _⟩
      · omega
      · simp only [Value.slice.injEq] at hv
        have := World.ownsRow.cells hO (g := gl) (by rw [hv.1]; rfl) j (.string L[j]) (by simp [hj])
        rw [show (⟨gl, 0, none⟩ : Addr).add j = ⟨gl, j, none⟩ by unfold Addr.add; split <;> simp_all] at this
        exact ⟨gl, hv.1, this⟩
    clear hO hnil hL0 HO
    go_wp2
    go_loopg [6] B.length (fun r n wr => Bel w1 wr ∧ ∃ i : Nat, r = B.length - i ∧ i ≤ B.length ∧ n = .int .i64 i ∧ ∀ j (hj : j < B.length), j < i → ((cntTo L B[j].1 L.length : Int) = L.length * B[j].2 / T ∨ ((cntTo L B[j].1 L.length : Int) = L.length * B[j].2 / T + 1 ∧ 0 < L.length * B[j].2 % T)))
    case atStart => exact ⟨Bel.refl _, 0, by omega, by omega, rfl, fun j _ h => by omega⟩
    case round =>
      obtain ⟨hb, i, hr, hi, rfl, hall2⟩ := hrel
      have HA := Hid.mk hall2
      have n14 := hb.cell k14
      have n9 := hb.cell k9
      clear hall2
      by_cases hlt : i < B.length
      · obtain ⟨g, rfl, c0, c1⟩ := hc i hlt
        have c0' := (hb1.trans hb).cell c0
        have c1' := (hb1.trans hb).cell c1
        obtain ⟨-, -, hw1, hw2⟩ := hall _ (List.getElem_mem hlt)
        have hstep : Hid (((cntTo L B[i].1 L.length : Int) = L.length * B[i].2 / T ∨ ((cntTo L B[i].1 L.length : Int) = L.length * B[i].2 / T + 1 ∧ 0 < L.length * B[i].2 % T)) → ∀ j (hj : j < B.length), j < i + 1 → ((cntTo L B[j].1 L.length : Int) = L.length * B[j].2 / T ∨ ((cntTo L B[j].1 L.length : Int) = L.length * B[j].2 / T + 1 ∧ 0 < L.length * B[j].2 % T))) := fun h j hj hji => by
          by_cases he : j = i
          · subst he; exact h
          · exact HA.out j hj (by omega)
        have hno : Hid (¬ ((cntTo L B[i].1 L.length : Int) = L.length * B[i].2 / T ∨ ((cntTo L B[i].1 L.length : Int) = L.length * B[i].2 / T + 1 ∧ 0 < L.length * B[i].2 % T)) → ¬ Pr) := fun h hp => by
          rw [HPr.out] at hp
          exact hp.elim (fun h => absurd h hT0) (fun hp => h (hp.2 _ (List.getElem_mem hlt)))
        have c0b := hb1.cell c0
        have c1b := hb1.cell c1
        clear hc c0 c1 HA HPr
        generalize B[i] = bi at *
        obtain ⟨idi, wi⟩ := bi
        simp only at c0' c1' c0b c1b hw1 hw2 hstep hno
        have hm1 : 0 ≤ (L.length : Int) * wi := Int.mul_nonneg (by omega) hw1
        have hm2 : (L.length : Int) * wi ≤ 300 * 6 := Int.mul_le_mul (by omega) hw2 hw1 (by omega)
        have hd1 : 0 ≤ (L.length : Int) * wi / T := Int.ediv_nonneg hm1 (by omega)
        have hd2 : (L.length : Int) * wi / T ≤ (L.length : Int) * wi := Int.ediv_le_self _ hm1
        go_wp2
        go_loopg [7, 8] L.length (fun r vn vk wr => Bel w1 wr ∧ ∃ k : Nat, r = L.length - k ∧ k ≤ L.length ∧ vk = .int .i64 k ∧ vn = .int .i64 (cntTo L idi k : Int))
        case atStart => exact ⟨hb, 0, by omega, by omega, rfl, rfl⟩
        case round =>
          obtain ⟨hbk, k, hrk, hk, rfl, rfl⟩ := hrel
          have hcle := cntTo_le L idi k
          have o14 := hbk.cell k14
          have o9 := hbk.cell k9
          have e0 := hbk.cell c0b
          have e1 := hbk.cell c1b
          by_cases hkl : k < L.length
          · obtain ⟨gl, rfl, x0⟩ := hcl k hkl
            have x0' := hbk.cell x0
            have hd : decide ((k : Int) < (L.length : Int)) = true := decide_eq_true (by omega)
            have HC : Hid (cntTo L idi (k + 1) = cntTo L idi k + if L[k].toList == idi.toList then 1 else 0) := by
              show cntTo L idi (k + 1) = _
              rw [cntTo, List.getElem?_eq_getElem hkl]; rfl
            generalize L[k] = lk at *
            generalize cntTo L idi k = ck at *
            clear hcl x0
            cases heq : lk.toList == idi.toList
            · rw [heq] at HC
              go_wp2_with fail
              go_quiet (fail)
              go_wp2
              go_roundg (L.length - (k + 1))
              case measure => omega
              case rel => exact ⟨by (repeat (first | exact Bel.refl _ | assumption | refine Bel.step_alloc ?_ _ | refine Bel.step_drew ?_ | refine Bel.step_drewN ?_ _ | refine Bel.step_set ?_ (by simp <;> omega) _ | refine Bel.trans ?_ (by assumption))), k + 1, rfl, by omega, by go_num, by rw [HC.out]; simp⟩
            · rw [heq] at HC
              go_wp2_with fail
              go_quiet (fail)
              go_wp2
              go_roundg (L.length - (k + 1))
              case measure => omega
              case rel => exact ⟨by (repeat (first | exact Bel.refl _ | assumption | refine Bel.step_alloc ?_ _ | refine Bel.step_drew ?_ | refine Bel.step_drewN ?_ _ | refine Bel.step_set ?_ (by simp <;> omega) _ | refine Bel.trans ?_ (by assumption))), k + 1, rfl, by omega, by go_num, by rw [HC.out]; simp⟩
          · obtain rfl : k = L.length := by omega
            have hd : decide ((L.length : Int) < (L.length : Int)) = false := decide_eq_false (by omega)
            generalize cntTo L idi L.length = ck at *
            generalize hlow : (L.length : Int) * wi / T = low at *
            generalize hrem : (L.length : Int) * wi % T = rem at *
            clear hcl
            by_cases hq1 : (ck : Int) = low
            · have hb1' : ((ck : Int) != low) = false := by rw [bne_eq_false_iff_eq]; exact hq1
              have HST := Hid.mk (hstep.out (Or.inl hq1))
              go_wp2
              go_roundg (B.length - (i + 1))
              case measure => omega
              case rel => exact ⟨hbk, i + 1, rfl, by omega, by go_num, HST.out⟩
            · have hb1' : ((ck : Int) != low) = true := by rw [bne_iff_ne]; exact hq1
              by_cases hq2 : (ck : Int) = low + 1
              · have hb2' : ((ck : Int) != low + 1) = false := by rw [bne_eq_false_iff_eq]; exact hq2
                by_cases hq3 : 0 < rem
                · have hb3' : decide (rem > 0) = true := decide_eq_true hq3
                  have HST := Hid.mk (hstep.out (Or.inr ⟨hq2, hq3⟩))
                  go_wp2
                  go_roundg (B.length - (i + 1))
                  case measure => omega
                  case rel => exact ⟨hbk, i + 1, rfl, by omega, by go_num, HST.out⟩
                · have hb3' : decide (rem > 0) = false := decide_eq_false hq3
                  have HNP := Hid.mk (hno.out (fun h => h.elim hq1 (fun h => hq3 h.2)))
                  go_wp2
                  go_ret
                  exact ⟨_, rfl, hb1.trans hbk, ⟨fun h => (by cases h), fun h => absurd h HNP.out⟩⟩
              · have hb2' : ((ck : Int) != low + 1) = true := by rw [bne_iff_ne]; exact hq2
                have HNP := Hid.mk (hno.out (fun h => h.elim hq1 (fun h => hq2 h.1)))
                go_wp2
                go_ret
                exact ⟨_, rfl, hb1.trans hbk, ⟨fun h => (by cases h), fun h => absurd h HNP.out⟩⟩
      · have hfin : Hid (∀ b ∈ B, (cntTo L b.1 L.length : Int) = L.length * b.2 / T ∨ ((cntTo L b.1 L.length : Int) = L.length * b.2 / T + 1 ∧ 0 < L.length * b.2 % T)) := by
          intro b hb
          obtain ⟨j, hj, rfl⟩ := List.getElem_of_mem hb
          exact HA.out j hj (by omega)
        clear hc hcl
        go_wp2
        go_ret
        exact ⟨_, rfl, hb1.trans hb, ⟨fun _ => HPr.out ▸ Or.inr ⟨by trivial, hfin.out⟩, fun _ => rfl⟩⟩

end Go.Proofs.Ytgfildmmcbjpnab

namespace Go.Proofs.Ytgfildmmcbjpnab
open Go.RowKit

theorem wl_len (part : Int) (c : Cfg) (q : Nat) (on : Cfg) (vb vw vs vh vf : Value) (img : ByteArray) : (wl part c q on vb vw vs vh vf img).length = 20 := rfl
theorem mask_cons {j : Nat} {M : List Nat} {w : World} (h : j ∈ M ∨ w.heap.size ≤ j) : mask (j :: M) w = mask M w := by
  unfold mask
  congr 1
  apply Array.ext
  · simp
  · intro i h1 h2
    have hi : i < w.heap.size := by simpa using h1
    simp only [Array.getElem_mapIdx, List.mem_cons]
    by_cases hm : i ∈ M
    · simp [hm]
    · by_cases hij : i = j
      · subst hij
        rcases h with h | h
        · exact absurd h hm
        · omega
      · simp [hm, hij]
theorem SvcAt.cons {M : List Nat} {q : Nat} {c : Cfg} {B : List BK} {g : Int} {w : World} (h : SvcAt M q c B g w) {j : Nat} (hj : j ∈ M ∨ w.heap.size ≤ j) : SvcAt (j :: M) q c B g w := by
  obtain ⟨hm, vP, vE, hT, h8, hF, hP, hE⟩ := h
  rw [← mask_cons hj] at hP hE
  exact ⟨List.mem_cons_of_mem _ hm, vP, vE, hT, h8, hF, hP, hE⟩
theorem grown_but {w w' : World} {row : Option Nat} (h : w.grownBy w' row) : But row.toList w w' :=
  But.mk h.os h.tape h.output h.size (fun k hk hm => h.block k hk (fun e => hm (by rw [← e]; simp)))
theorem own_but {M : List Nat} {base : Nat} {e : TypeId} {sz : Nat} {v : Value} {n : Nat} {xs : List Value} {w w' : World} (h : w.ownsRow base e sz v n xs) (b : But M w w') (hne : ∀ g, v.ownBlock = some g → g ∉ M) : w'.ownsRow base e sz v n xs := by
  refine ⟨h.1, ?_⟩
  rcases h.2 with h1 | ⟨g, cap, cur, hv, hg, hh, r⟩
  · exact Or.inl h1
  · exact Or.inr ⟨g, cap, cur, hv, hg, by rw [b.block g (Array.getElem?_eq_some_iff.1 hh).1 (hne g (by rw [hv]; rfl))]; exact hh, r⟩
theorem PlanesAt.but {W0 : World} {M M' : List Nat} {p q : Nat} {vw vs vh : Value} {w w' : World} (h : PlanesAt W0 M p q vw vs vh w) (b : But M' w w') (hM' : ∀ j ∈ M', j = p ∨ j = q ∨ vw.ownBlock = some j) : PlanesAt W0 M p q vw vs vh w' := by
  rcases h with h1 | ⟨gs, gh, cs, ch, f, h1, h2, h3, h4, m1, m2, n1, n2, n3, n4, n5, n6, n7⟩
  · exact Or.inl h1
  · refine Or.inr ⟨gs, gh, cs, ch, f, h1, h2, own_but h3 b ?_, own_but h4 b ?_, m1, m2, n1, n2, n3, n4, n5, n6, n7⟩
    · intro g hg hm
      have : g = gs := by simpa [sl, Value.ownBlock] using hg.symm
      subst this
      rcases hM' _ hm with h | h | h
      · exact n1 h
      · exact n2 h
      · exact n6 h
    · intro g hg hm
      have : g = gh := by simpa [sl, Value.ownBlock] using hg.symm
      subst this
      rcases hM' _ hm with h | h | h
      · exact n3 h
      · exact n4 h
      · exact n7 h

theorem delta_inv {W0 : World} {p s : Nat} {k : KI} {wc w4 w6 w7 : World} {LP : List BK} {v4 : Value} {g7 cap7 n : Nat} {ys : List Value} {o : Obj}
    (hW : WAt p (wl k.part k.c k.q k.on k.vb k.vw k.vs k.vh (.slice none 0 0) ByteArray.empty) wc) (hM : ∀ j ∈ k.M, W0.heap.size ≤ j ∧ j < wc.heap.size) (hbel : Bel W0 wc)
    (hn : n ≤ s + 1) (hgw : ∀ g, k.vw.ownBlock = some g → g ∈ k.M ∧ g ≠ p ∧ g ≠ k.q)
    (hpl : PlanesAt W0 k.M p k.q k.vw k.vs k.vh wc) (hS : SvcAt k.M k.q k.on LP (k.g + 1) wc) (hGd : Good LP) (hc : k.c.OK) (hon : k.on.OK) (hpM : p ∈ k.M) (hqM : k.q ∈ k.M) (hpq : p ≠ k.q) (hg : 0 ≤ k.g ∧ k.g ≤ s)
    (hb4 : Bel wc w4) (hO4 : OwnB wc.heap.size w4 v4 LP) (hb6 : Bel (w4.setCell ⟨p, 14, none⟩ v4) w6)
    (hown7 : w7.ownsRow W0.heap.size 36 1 (.slice (some ⟨g7, 0, none⟩) (n + 1) cap7) (n + 1) ys) (hgrow : (w6.alloc o).grownBy w7 k.vw.ownBlock) (hat : k.vw.ownBlock = some g7 ∨ g7 = (w6.alloc o).heap.size) (hlt : g7 < w7.heap.size) :
    KInv W0 p (s + 1) { k with M := g7 :: k.M, B := LP, g := k.g + 1, vb := v4, vw := .slice (some ⟨g7, 0, none⟩) (n + 1) cap7 } (w7.setCell ⟨p, 15, none⟩ (.slice (some ⟨g7, 0, none⟩) (n + 1) cap7)) := by
  have b5 : But [p] w4 (w4.setCell ⟨p, 14, none⟩ v4) := (But.refl _ _).set (by simp) _
  have b6 : Bel (w4.setCell ⟨p, 14, none⟩ v4) (w6.alloc o) := hb6.step_alloc _
  have b46 : But [p] w4 (w6.alloc o) := b5.step b6
  have b7 : But k.vw.ownBlock.toList (w6.alloc o) w7 := grown_but hgrow
  have hrowne : ∀ j ∈ k.vw.ownBlock.toList, j ∈ k.M ∧ j ≠ p ∧ j ≠ k.q := fun j hj => hgw j (by simpa using hj)
  have b8 : But [p] w7 (w7.setCell ⟨p, 15, none⟩ (.slice (some ⟨g7, 0, none⟩) (n + 1) cap7)) := (But.refl _ _).set (by simp) _
  have sM : ∀ (w w' : World), But [p] w w' → But k.M w w' := fun w w' b => b.mono (fun j hj => Or.inl (by simp at hj; subst hj; exact hpM))
  have s4 := hb4.size
  have s46 := b46.size
  have s7 := b7.size
  have s8 := b8.size
  have hg7 : g7 ∈ k.M ∨ (w6.alloc o).heap.size ≤ g7 := hat.elim (fun h => Or.inl (hgw _ h).1) (fun h => Or.inr (by omega))
  have hW4 := hW.later hb4
  have hW5 := (hW4.set 14 v4).later b6
  have hpn : p ∉ k.vw.ownBlock.toList := fun h => (hrowne p h).2.1 rfl
  have hqn : k.q ∉ k.vw.ownBlock.toList := fun h => (hrowne _ h).2.2 rfl
  have hW7 := hW5.but b7 hpn
  have hW8 := hW7.set 15 (.slice (some ⟨g7, 0, none⟩) (n + 1) cap7)
  have hS6 := (((hS.later hb4).but b46 (by simpa using fun e => hpq e.symm) (fun j hj => Or.inl (by simp at hj; subst hj; exact hpM))).cons hg7)
  have hS7 := hS6.but b7 hqn (fun j hj => Or.inl (List.mem_cons_of_mem _ (hrowne j hj).1))
  have hS8 := hS7.but b8 (by simpa using fun e => hpq e.symm) (fun j hj => Or.inl (by simp at hj; subst hj; exact List.mem_cons_of_mem _ hpM))
  have hP4 : PoolAt (mask k.M w4) v4 LP := mask_row hO4 (fun j hj => (hM j hj).2)
  have hP6 : PoolAt (mask k.M (w6.alloc o)) v4 LP := hP4.later (sM _ _ b46)
  rw [← mask_cons hg7] at hP6
  have hb78 : But (g7 :: k.M) (w6.alloc o) (w7.setCell ⟨p, 15, none⟩ (.slice (some ⟨g7, 0, none⟩) (n + 1) cap7)) :=
    (b7.mono (fun j hj => Or.inl (List.mem_cons_of_mem _ (hrowne j hj).1))).trans (b8.mono (fun j hj => Or.inl (by simp at hj; subst hj; exact List.mem_cons_of_mem _ hpM)))
  have hP8 : PoolAt (mask (g7 :: k.M) _) v4 LP := hP6.later hb78
  have hp0 : W0.heap.size ≤ p := (hM p hpM).1
  have hbel8 : Bel W0 (w7.setCell ⟨p, 15, none⟩ (.slice (some ⟨g7, 0, none⟩) (n + 1) cap7)) := by
    refine Bel.step_set ?_ hp0 _
    refine But.belTo (Bel.trans (Bel.step_set (hbel.trans hb4) hp0 _) b6) b7 (fun j hj => (hM j (hrowne j hj).1).1)
  have hg7a : W0.heap.size ≤ g7 := (World.ownsRow.lt hown7 g7 rfl).1
  have hg7p : g7 ≠ p := fun e => by
    rcases hat with h | h
    · exact (hgw _ h).2.1 e
    · have := (hM p hpM).2; omega
  have hg7q : g7 ≠ k.q := fun e => by
    rcases hat with h | h
    · exact (hgw _ h).2.2 e
    · have := (hM _ hqM).2; omega
  refine ⟨hW8, ⟨List.mem_cons_of_mem _ hpM, List.mem_cons_of_mem _ hqM, hpq⟩, ?_, hbel8, hS8, hP8, hGd, hc, hon, ⟨by simp only; omega, by simp only; omega, fun h => by simp only at h; omega⟩, ⟨n + 1, ys, own_but hown7 b8 (fun g h => by
    have : g = g7 := by simpa [Value.ownBlock] using h.symm
    subst this
    simpa using hg7p), by omega, fun g h => by
    have : g = g7 := by simpa [Value.ownBlock] using h.symm
    subst this
    exact ⟨List.mem_cons_self, hg7p, hg7q⟩⟩, ?_⟩
  · intro j hj
    rcases List.mem_cons.1 hj with rfl | hj
    · exact ⟨hg7a, by omega⟩
    · exact ⟨(hM j hj).1, by have := (hM j hj).2; omega⟩
  · have h5 := (hpl.but (M' := []) (But.of_bel hb4) (by simp)).but b46 (by simp)
    have h7 := h5.but b7 (fun j hj => Or.inr (Or.inr (by simpa using hj)))
    have h8 := h7.but b8 (by simp)
    rcases h8 with h | ⟨gs, gh, cs, ch, f, h1, h2, h3, h4, m1, m2, n1, n2, n3, n4, n5, n6, n7⟩
    · exact Or.inl h
    · refine Or.inr ⟨gs, gh, cs, ch, f, h1, h2, h3, h4, List.mem_cons_of_mem _ m1, List.mem_cons_of_mem _ m2, n1, n2, n3, n4, n5, ?_, ?_⟩
      · intro e
        have e2 : g7 = gs := by simpa [Value.ownBlock] using e
        rcases hat with h | h
        · exact n6 (by rw [h, e2])
        · have := (hM _ m1).2; omega
      · intro e
        have e2 : g7 = gh := by simpa [Value.ownBlock] using e
        rcases hat with h | h
        · exact n7 (by rw [h, e2])
        · have := (hM _ m2).2; omega

end Go.Proofs.Ytgfildmmcbjpnab
