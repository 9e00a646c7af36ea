import Derived.Test.YtpapdkhjdelfcabGreatOAC
import Derived.Test.YtpapdkhjdelfcabGreatOAA
namespace Go.Proofs.YtpapdkhjdelfcabGreat
open Go.RowKit

theorem ris_step {T : List TP} (h : Ris T) : ∀ (d i : Nat) (hj : i + d < T.length), (T[i]'(by omega)).1 + d ≤ (T[i + d]'hj).1
  | 0, i, hj => by simp
  | d + 1, i, hj => by
    have h1 := ris_step h d i (by omega)
    have h2 := List.pairwise_iff_getElem.1 h (i + d) (i + d + 1) (by omega) (by omega) (by omega)
    have e : i + (d + 1) = i + d + 1 := by omega
    simp only [e]
    omega
/-- all places are there -/
theorem ris_full {T : List TP} {n : Nat} (h : Ris T) (hn : ∀ x ∈ T, x.1 < n) (hl : T.length = n) (i : Nat) (hi : i < T.length) : T[i].1 = i := by
  have h1 := ris_step h i 0 (by omega)
  have h2 := ris_step h (T.length - 1 - i) i (by omega)
  have h3 := hn _ (List.getElem_mem (by omega : i + (T.length - 1 - i) < T.length))
  simp only [Nat.zero_add] at h1
  omega
theorem cuts_take (l : List UInt8) (n : Nat) : (List.range n).flatMap (fun i : Nat => cutP l (i : Int)) = l.take (48 * n) := by
  induction n with
  | zero => simp
  | succ n ih =>
    rw [List.range_succ, List.flatMap_append, ih]
    have e : 48 * (n + 1) = 48 * n + 48 := by omega
    rw [e, List.take_add]
    congr 1
    simp only [List.flatMap_cons, List.flatMap_nil, List.append_nil]
    unfold cutP
    rw [if_neg (by omega), Int.toNat_natCast]
theorem cuts_all (l : List UInt8) : (List.range (countP l.length)).flatMap (fun i : Nat => cutP l (i : Int)) = l := by
  rw [cuts_take]
  exact List.take_of_length_le (by unfold countP; omega)
theorem thB_full {T : List TP} {l : List UInt8} (h : Ris T) (hT : ∀ x ∈ T, x.1 < countP l.length ∧ x.2 = cutP l (x.1 : Int)) (hl : T.length = countP l.length) : thB T = l := by
  have e : T = (List.range (countP l.length)).map fun i : Nat => (i, cutP l (i : Int)) := by
    apply List.ext_getElem
    · rw [List.length_map, List.length_range, hl]
    · intro i h1 h2
      have f1 := ris_full h (fun x hx => (hT x hx).1) hl i h1
      have f2 := (hT _ (List.getElem_mem h1)).2
      rw [List.getElem_map, List.getElem_range]
      exact Prod.ext f1 (by rw [f2, f1])
  unfold thB
  rw [e, List.flatMap_map]
  exact cuts_all l
/-- an answer that tells of a generation that was, and truly -/
def PieceT (on : Cfg) (Bs : List (List BK)) (a : Ans) : Prop := a.1 = 1 → ∃ B, 1 ≤ a.2.1 ∧ Bs[a.2.1 - 1]? = some B ∧ (1 ≤ a.2.2.1 ∧ a.2.2.1 ≤ 2) ∧ a.2.2.2.1 = countP (imgS a.2.2.1 a.2.1 on B).length ∧ a.2.2.2.2.1 < a.2.2.2.1 ∧ a.2.2.2.2.2 = cutP (imgS a.2.2.1 a.2.1 on B) (a.2.2.2.2.1 : Int)
/-- what comes is true -/
def ComT (on : Cfg) (Bs : List (List BK)) (p : Pln) : Prop := p.cg = 0 ∨ ∃ B, 1 ≤ p.cg ∧ Bs[p.cg - 1]? = some B ∧ (1 ≤ p.cf ∧ p.cf ≤ 2) ∧ p.cp = countP (imgS p.cf p.cg on B).length ∧ ∀ x ∈ p.T, x.1 < p.cp ∧ x.2 = cutP (imgS p.cf p.cg on B) (x.1 : Int)
/-- what is held is a generation that was -/
def HeldT (on : Cfg) (Bs : List (List BK)) (p : Pln) : Prop := p.g = 0 ∨ ∃ B, 1 ≤ p.g ∧ Bs[p.g - 1]? = some B ∧ p.c = { on with formats := 0 } ∧ p.B = B ∧ p.E = mkF on B
def PlT (on : Cfg) (Bs : List (List BK)) (p : Pln) : Prop := ComT on Bs p ∧ HeldT on Bs p
/-- generations that were -/
def HistT (on : Cfg) (Bs : List (List BK)) : Prop := on.OK ∧ Bs.length ≤ 1073741824 ∧ ∀ B ∈ Bs, Good B
theorem HistT.gen {on : Cfg} {Bs : List (List BK)} (h : HistT on Bs) {g : Nat} {B : List BK} (hg : 1 ≤ g) (hB : Bs[g - 1]? = some B) : GenOK on g B := by
  obtain ⟨hl, rfl⟩ := List.getElem?_eq_some_iff.1 hB
  exact ⟨h.1, h.2.2 _ (List.getElem_mem hl), hg, by have := h.2.1; omega⟩
theorem take_true {on : Cfg} {Bs : List (List BK)} {p : Pln} {a : Ans} (hH : HistT on Bs) (hp : PlT on Bs p) (hOK : p.OK) (ha : AnsR a) (hA : PieceT on Bs a) : PlT on Bs (takeG p a) ∧ p.g ≤ (takeG p a).g := by
  unfold takeG
  by_cases h1 : a.1 = 1
  rotate_left
  · rw [if_pos h1]
    exact ⟨hp, Nat.le_refl _⟩
  rw [if_neg (by simpa using h1)]
  obtain ⟨B, b1, b2, b3, b4, b5, b6⟩ := hA h1
  by_cases hu : useP p.fm p.g p.cg p.cf p.cp p.T a
  rotate_left
  · rw [if_neg hu]
    exact ⟨hp, Nat.le_refl _⟩
  rw [if_pos hu]
  have hnT := newT_ok hOK ha hu
  have hw := hu.1
  unfold wantB at hw
  simp only [Bool.and_eq_true, decide_eq_true_eq] at hw
  obtain ⟨⟨⟨w1, w2⟩, w3⟩, -⟩ := hw
  -- what is coming now
  have hcom : com1 p.cg p.cf p.cp p.T a = (a.2.1, a.2.2.1, a.2.2.2.1, (com1 p.cg p.cf p.cp p.T a).2.2.2) ∧ ∀ x ∈ (com1 p.cg p.cf p.cp p.T a).2.2.2, x.1 < a.2.2.2.1 ∧ x.2 = cutP (imgS a.2.2.1 a.2.1 on B) (x.1 : Int) := by
    have u2 := hu.2.1
    have u3 := hu.2.2
    unfold com1 at u2 u3 ⊢
    by_cases hc : p.cg < a.2.1
    · rw [if_pos hc]
      exact ⟨rfl, fun x hx => by cases hx⟩
    · rw [if_neg hc] at u2 u3 ⊢
      simp only at u2 u3
      have e : p.cg = a.2.1 := by omega
      rcases hp.1 with h0 | ⟨B', c1, c2, c3, c4, c5⟩
      · omega
      · rw [e] at c2
        have eB : B' = B := by rw [c2] at b2; exact Option.some.inj b2
        subst eB
        refine ⟨by rw [e, ← u2, ← u3], fun x hx => ?_⟩
        have := c5 x hx
        rw [e, ← u2] at this
        rw [u3]
        exact this
  have hmem : ∀ x ∈ newT p.cg p.cf p.cp p.T a, x.1 < a.2.2.2.1 ∧ x.2 = cutP (imgS a.2.2.1 a.2.1 on B) (x.1 : Int) := fun x hx => by
    rcases layF_mem hx with e | e
    · rw [e]; exact ⟨b5, b6⟩
    · exact hcom.2 x e
  have e1 : (com1 p.cg p.cf p.cp p.T a).1 = a.2.1 := by rw [hcom.1]
  have e2 : (com1 p.cg p.cf p.cp p.T a).2.1 = a.2.2.1 := by rw [hcom.1]
  have e3 : (com1 p.cg p.cf p.cp p.T a).2.2.1 = a.2.2.2.1 := by rw [hcom.1]
  rw [e1, e2, e3]
  by_cases hfull : (newT p.cg p.cf p.cp p.T a).length = a.2.2.2.1
  · rw [if_pos hfull]
    have hG := hH.gen b1 b2
    have hth : thB (newT p.cg p.cf p.cp p.T a) = imgS a.2.2.1 a.2.1 on B := thB_full hnT.1 (fun x hx => by have := hmem x hx; rw [b4] at this; exact this) (by rw [hfull, b4])
    rw [hth, imgS_round b3 hG]
    dsimp only
    rw [if_pos ⟨rfl, rfl⟩]
    exact ⟨⟨Or.inl rfl, Or.inr ⟨B, b1, b2, rfl, rfl, rfl⟩⟩, Nat.le_of_lt w1⟩
  · rw [if_neg hfull]
    exact ⟨⟨Or.inr ⟨B, b1, b2, b3, b4, hmem⟩, hp.2⟩, Nat.le_refl _⟩
/-- a frame that tells nothing untrue -/
def FrT (on : Cfg) (Bs : List (List BK)) (t : ByteArray) : Prop := ∀ a, answP t.data.toList = some a → PieceT on Bs a
theorem recv_true {on : Cfg} {Bs : List (List BK)} {p : Pln} {t : ByteArray} (hH : HistT on Bs) (hp : PlT on Bs p) (hOK : p.OK) (ht : FrT on Bs t) : PlT on Bs (recvG p t.data.toList) ∧ p.g ≤ (recvG p t.data.toList).g := by
  unfold recvG
  split
  · exact ⟨hp, Nat.le_refl _⟩
  · rename_i a ha
    exact take_true hH hp hOK (AnsR.of ha) (ht a ha)
theorem tick_true (on : Cfg) (Bs : List (List BK)) (p : Pln) : FrT on Bs (txt (tickB p.g p.fm p.cg p.cf p.T)) := fun a ha => by
  rw [show (txt (tickB p.g p.fm p.cg p.cf p.T)).data.toList = tickB p.g p.fm p.cg p.cf p.T from rfl, answ_tick] at ha
  cases ha
theorem PieceT.grow {on : Cfg} {Bs : List (List BK)} {a : Ans} (h : PieceT on Bs a) (B' : List BK) : PieceT on (Bs ++ [B']) a := fun h1 => by
  obtain ⟨B, b1, b2, b3⟩ := h h1
  have hl := (List.getElem?_eq_some_iff.1 b2).1
  exact ⟨B, b1, by rw [List.getElem?_append_left hl]; exact b2, b3⟩
theorem FrT.grow {on : Cfg} {Bs : List (List BK)} {t : ByteArray} (h : FrT on Bs t) (B' : List BK) : FrT on (Bs ++ [B']) t := fun a ha => (h a ha).grow B'
theorem PlT.grow {on : Cfg} {Bs : List (List BK)} {p : Pln} (h : PlT on Bs p) (B' : List BK) : PlT on (Bs ++ [B']) p := by
  refine ⟨h.1.imp id fun ⟨B, b1, b2, b3⟩ => ⟨B, b1, ?_, b3⟩, h.2.imp id fun ⟨B, b1, b2, b3⟩ => ⟨B, b1, ?_, b3⟩⟩
  · rw [List.getElem?_append_left (List.getElem?_eq_some_iff.1 b2).1]; exact b2
  · rw [List.getElem?_append_left (List.getElem?_eq_some_iff.1 b2).1]; exact b2
theorem new_true (on : Cfg) (Bs : List (List BK)) (fm : Nat) : PlT on Bs (plnNew fm) := ⟨Or.inl rfl, Or.inl rfl⟩

end Go.Proofs.YtpapdkhjdelfcabGreat

namespace Go.Proofs.YtpapdkhjdelfcabGreat
open Go.RowKit

theorem mkF_300 {c : Cfg} {B : List BK} (hc : c.OK) (hB : Good B) : (mkF c B).length ≤ 300 := by
  have h1 := (mkF_right hc hB).1
  have h2 := wSum_le hB.1
  have h4 := eachF_le ((Cfg.ok_iff c).1 hc).1
  have h5 : cntF c B ≤ 300 := by
    unfold cntF
    have h6 := hc.2.2.2.1
    split
    · omega
    · split
      · have : eachF c * wSum B ≤ 3 * 48 := Int.mul_le_mul h4.2 h2.2 h2.1 (by omega)
        omega
      · omega
  omega
theorem flat_len {α : Type} (f : α → List Bool) (k : Nat) (h : ∀ a, (f a).length ≤ k) : ∀ l : List α, (l.flatMap f).length ≤ l.length * k
  | [] => by simp
  | a :: l => by
    have := flat_len f k h l
    have := h a
    rw [List.flatMap_cons, List.length_append, List.length_cons, Nat.succ_mul]
    omega
theorem imgS_short {f g : Nat} {c : Cfg} {B : List BK} (hc : c.OK) (hB : Good B) : (imgS f g c B).length ≤ 100000 := by
  have h300 := mkF_300 hc hB
  unfold imgS imageB
  rw [List.length_append, sumB_len]
  have h1 := packB_len_le _ (bodyB f g c B (mkF c B)) (Nat.le_refl _)
  have hk : c.key.data.toList.length = 16 := by rw [Array.length_toList]; exact hc.2.2.2.2.2.2.2.2.2.1
  have h2 := bksB_len hB.1
  have h3 : (ensB (wpF c.alg) (woF f c.alg B.length) (mkF c B)).length ≤ (mkF c B).length * 128 := flat_len _ _ (fun e => by
    unfold enB
    rw [List.length_append, numBits_len, numBits_len]
    have := wpF_le c.alg
    have := woF_le f c.alg B.length
    omega) _
  have h4 : (bodyB f g c B (mkF c B)).length ≤ 224 + (bksB B).length + 16 + (ensB (wpF c.alg) (woF f c.alg B.length) (mkF c B)).length := by
    unfold bodyB headB
    simp only [List.length_append, bytesBits_len, numBits_len, List.length_cons, List.length_nil, hk]
    omega
  omega
theorem cut_len {l : List UInt8} {n : Nat} (h : n < countP l.length) : 1 ≤ (cutP l (n : Int)).length ∧ (cutP l (n : Int)).length ≤ 48 := by
  unfold cutP countP at *
  rw [if_neg (by omega), Int.toNat_natCast, List.length_take, List.length_drop]
  omega
/-- what the service answers is true -/
theorem serve_true {on : Cfg} {Bs : List (List BK)} {B : List BK} {g : Nat} (hH : HistT on Bs) (hg : g = Bs.length) (hB : 1 ≤ g → Bs[g - 1]? = some B) (l : List UInt8) : FrT on Bs (txt (serveB on.formats.toNat g on B (mkF on B) l)) := by
  intro a ha
  rw [show (txt (serveB on.formats.toNat g on B (mkF on B) l)).data.toList = serveB on.formats.toNat g on B (mkF on B) l from rfl] at ha
  unfold serveB at ha
  split at ha
  rotate_left
  · have : answP [] = none := answP_no (by unfold openB; rw [if_pos (by simp)])
    rw [this] at ha
    cases ha
  · rename_i h fo cg cf mi hq
    unfold answF at ha
    by_cases h0 : (fo &&& on.formats.toNat) = 0
    · rw [if_pos h0, answ_round (by decide) (by decide) (by decide) (by decide) (Or.inr (Or.inl rfl)) (fun _ => rfl)] at ha
      rw [← Option.some.inj ha]
      intro h1; cases h1
    rw [if_neg h0] at ha
    by_cases hz : g = 0 ∨ h = g
    · rw [if_pos hz, answ_round (by decide) (by decide) (by decide) (by decide) (Or.inl rfl) (fun _ => rfl)] at ha
      rw [← Option.some.inj ha]
      intro h1; cases h1
    rw [if_neg hz] at ha
    have hg1 : 1 ≤ g := by omega
    have hGO := hH.gen hg1 (hB hg1)
    have hcm : (fo &&& on.formats.toNat) ≤ 3 := Nat.le_trans Nat.and_le_right (by have := ((Cfg.ok_iff on).1 hH.1).2; omega)
    have hfm : 1 ≤ fmtF cg cf (fo &&& on.formats.toNat) g ∧ fmtF cg cf (fo &&& on.formats.toNat) g ≤ 2 := by
      unfold fmtF
      split
      · omega
      · split <;> omega
    generalize fmtF cg cf (fo &&& on.formats.toNat) g = f at *
    have hsz : (imgS f g on B).length ≤ 100000 := imgS_short hGO.1 hGO.2.1
    have h5 := imgS_len f g on B
    change answP (frameA (1, g, f, countP (imgS f g on B).length, if cg = g ∧ mi < countP (imgS f g on B).length then mi else 0, cutP (imgS f g on B) ((if cg = g ∧ mi < countP (imgS f g on B).length then mi else 0 : Nat) : Int))) = some a at ha
    have hpl : (if cg = g ∧ mi < countP (imgS f g on B).length then mi else 0) < countP (imgS f g on B).length := by
      split
      · rename_i h; exact h.2
      · unfold countP; omega
    have hcn : countP (imgS f g on B).length < 65536 := by unfold countP; omega
    generalize (if cg = g ∧ mi < countP (imgS f g on B).length then mi else 0) = n at *
    have hcl := cut_len hpl
    rw [answ_round (by show g < 4294967296; have := hGO.2.2.2; omega) (by show f < 256; omega) (by show countP (imgS f g on B).length < 65536; exact hcn) (by show n < 65536; omega) (Or.inr (Or.inr ⟨rfl, hcl⟩)) (fun h => absurd rfl h)] at ha
    rw [← Option.some.inj ha]
    intro _
    exact ⟨B, hg1, hB hg1, hfm, rfl, hpl, rfl⟩

end Go.Proofs.YtpapdkhjdelfcabGreat

namespace Go.Proofs.YtpapdkhjdelfcabGreat
open Go.RowKit

/-- the law's world, as cells -/
def wl (part : Int) (c : Cfg) (q : Nat) (on : Cfg) (vb vw vs vh vf : Value) (img : ByteArray) : List Value :=
  [.int .i64 part, .int .i64 c.alg, .int .i64 c.slots, .int .i64 c.points, .int .i64 c.probes, .string c.key, .int .i64 c.formats, .pointer (some ⟨q, 0, none⟩), .int .i64 on.alg, .int .i64 on.slots, .int .i64 on.points, .int .i64 on.probes, .string on.key, .int .i64 on.formats, vb, vw, vs, vh, vf, .string img]
def WAt (p : Nat) (L : List Value) (w : World) : Prop := (∀ o u, L[o]? = some u → w.cell? ⟨p, o, none⟩ = some u) ∧ ∀ o, o < L.length → w.frozen? ⟨p, o, none⟩ = false
theorem WAt.but {M : List Nat} {p : Nat} {L : List Value} {w w' : World} (h : WAt p L w) (k : But M w w') (hp : p ∉ M) : WAt p L w' :=
  ⟨fun o u hu => k.cell (h.1 o u hu) hp, fun o ho => k.frozen (h.1 o L[o] (by simp [ho])) hp (h.2 o ho)⟩
theorem WAt.later {p : Nat} {L : List Value} {w w' : World} (h : WAt p L w) (k : Bel w w') : WAt p L w' := h.but (M := []) (But.of_bel k) (by simp)
theorem WAt.set {p : Nat} {L : List Value} {w : World} (h : WAt p L w) (o : Nat) (u : Value) : WAt p (L.set o u) (w.setCell ⟨p, o, none⟩ u) := by
  refine ⟨fun j x hx => ?_, fun j hj => by rw [frozen_set]; exact h.2 j (by simpa using hj)⟩
  by_cases hjo : o = j
  · subst hjo
    have hl := (List.getElem?_eq_some_iff.1 hx).1
    rw [List.length_set] at hl
    rw [List.getElem?_set_self hl] at hx
    cases hx
    exact set_same (h.1 o L[o] (by simp [hl]))
  · rw [List.getElem?_set_ne hjo] at hx
    rw [set_other (Or.inr hjo)]
    exact h.1 j x hx
theorem WAt.other {p : Nat} {L : List Value} {w : World} (h : WAt p L w) {a : Addr} (ha : a.block ≠ p) (u : Value) : WAt p L (w.setCell a u) :=
  h.but (M := [a.block]) ((But.refl _ _).set (by simp) u) (by simpa using fun e => ha e.symm)
theorem WAt.lt {p : Nat} {L : List Value} {w : World} (h : WAt p L w) (hL : 0 < L.length) : p < w.heap.size := World.block_lt_of_cell? w _ (h.1 0 L[0] (by simp [hL]))

set_option maxRecDepth 100000 in
set_option maxHeartbeats 400000 in
theorem fails_is (p : Nat) (L : List Value) (x : Int) (w : World) (h : WAt p L w) (hL : 0 < L.length) :
    Calls Tryz.prog 69 #[.pointer (some ⟨p, 0, none⟩), .int .i64 x] w fun e w' => e = .returned (.bool false) ∧ w' = w.setCell ⟨p, 0, none⟩ (.int .i64 x) := by
  have h0 := h.1 0 L[0] (by simp [hL])
  have f0 := h.2 0 hL
  go_enter Tryz.func69, Tryz.ntmps69
  go_wp2
  go_ret
  exact ⟨rfl, rfl⟩

theorem ownB_but {M : List Nat} {base : Nat} {e : TypeId} {sz : Nat} {v : Value} {n : Nat} {xs : List Value} {w w' : World} (h : w.ownsRow base e sz v n xs) (b : But M w w') (hne : ∀ g ∈ gl v, g ∉ M) : w'.ownsRow base e sz v n xs := own_row_but h b hne
/-- the world of a law between two steps -/
structure KI where
  M : List Nat
  q : Nat
  c : Cfg
  on : Cfg
  B : List BK
  g : Int
  vb : Value
  vw : Value
  vs : Value
  vh : Value
  vf : Value
  img : ByteArray
  part : Int
  L : List Nat
  pp : List (Nat × Pln × List Nat)
  vr : List Value
  sp : List Int
  hd : List Int
  fr : List ByteArray
  fb : Nat
  ds : Nat
  dh : Nat
  bs : List (List BK)
def KI.svp (k : KI) : Svp := ⟨k.on, k.B, k.g, k.L, k.pp⟩
/-- the blocks that are written, all of them -/
def KI.blocks (k : KI) (p : Nat) : List Nat := p :: (gl k.vw ++ gl k.vs ++ gl k.vh ++ gl k.vf ++ k.svp.own k.q)
theorem KI.count (k : KI) (p a : Nat) : (k.blocks p).count a = [p].count a + (gl k.vw).count a + (gl k.vs).count a + (gl k.vh).count a + (gl k.vf).count a + (k.svp.own k.q).count a := by
  have : k.blocks p = [p] ++ (gl k.vw ++ gl k.vs ++ gl k.vh ++ gl k.vf ++ k.svp.own k.q) := rfl
  rw [this]
  simp only [List.count_append]
  omega
/-- where keys went, by generation: rows of twelve texts that nobody writes -/
def WentR (M : List Nat) (w : World) (on : Cfg) (vr : List Value) (bs : List (List BK)) : Prop := bs.length = vr.length ∧ ∀ (i : Nat) (v : Value) (X : List BK), vr[i]? = some v → bs[i]? = some X → RowAt (mask M w) v 12 ((ownersF on X ((i : Int) + 1)).map Value.string)
structure KInv (W0 : World) (p s : Nat) (k : KI) (w : World) : Prop where
  at_ : WAt p (wl k.part k.c k.q k.on k.vb k.vw k.vs k.vh k.vf k.img) w
  nd : (k.blocks p).Nodup
  inM : ∀ j ∈ k.blocks p, j ∈ k.M
  lt : ∀ j ∈ k.M, W0.heap.size ≤ j ∧ j < w.heap.size
  bel : Bel W0 w
  svc : SvpAt k.M k.q k.svp w
  pool : PoolAt (mask k.M w) k.vb k.B
  good : Good k.B
  cok : k.c.OK
  onok : k.on.OK
  gen : 0 ≤ k.g ∧ k.g ≤ s ∧ (k.g = 0 → k.B = [])
  went : w.ownsRow W0.heap.size 40 1 k.vw (k.vr.length + 1) (.slice none 0 0 :: k.vr)
  wlen : (k.vr.length : Int) = k.g
  wrow : WentR k.M w k.on k.vr k.bs
  speaks : OwnI W0.heap.size w k.vs k.sp
  held : OwnI W0.heap.size w k.vh k.hd
  slen : k.sp.length + k.ds = k.pp.length
  hlen : k.hd.length + k.dh = k.pp.length
  hrng : ∀ x ∈ k.hd, 0 ≤ x ∧ x ≤ 1073741824
  frames : w.ownsRow W0.heap.size 9 1 k.vf k.fr.length (k.fr.map Value.string)
  flen : k.fr.length ≤ k.fb
  fsz : ∀ t ∈ k.fr, t.size ≤ 1099511627776
  isz : k.img.size ≤ 1099511627776
/-- what stays whatever is written into some of its blocks -/
structure KKeep (W0 : World) (p : Nat) (k : KI) (N : List Nat) (w' : World) : Prop where
  lt : ∀ j ∈ k.M, W0.heap.size ≤ j ∧ j < w'.heap.size
  bel : Bel W0 w'
  pool : PoolAt (mask k.M w') k.vb k.B
  wrow : WentR k.M w' k.on k.vr k.bs
  at_ : p ∉ N → WAt p (wl k.part k.c k.q k.on k.vb k.vw k.vs k.vh k.vf k.img) w'
  svc : (∀ j ∈ N, j ∉ k.svp.own k.q) → SvpAt k.M k.q k.svp w'
  went : (∀ j ∈ gl k.vw, j ∉ N) → w'.ownsRow W0.heap.size 40 1 k.vw (k.vr.length + 1) (.slice none 0 0 :: k.vr)
  speaks : (∀ j ∈ gl k.vs, j ∉ N) → OwnI W0.heap.size w' k.vs k.sp
  held : (∀ j ∈ gl k.vh, j ∉ N) → OwnI W0.heap.size w' k.vh k.hd
  frames : (∀ j ∈ gl k.vf, j ∉ N) → w'.ownsRow W0.heap.size 9 1 k.vf k.fr.length (k.fr.map Value.string)
theorem WentR.but {M N : List Nat} {w w' : World} {on : Cfg} {vr : List Value} {bs : List (List BK)} (h : WentR M w on vr bs) (b : But N w w') (hN : ∀ j ∈ N, j ∈ M ∨ w.heap.size ≤ j) : WentR M w' on vr bs := ⟨h.1, fun i v X hv hX => (h.2 i v X hv hX).later (b.mono hN)⟩
theorem KInv.keep {W0 : World} {p s : Nat} {k : KI} {w w' : World} (h : KInv W0 p s k w) (N : List Nat) (b : But N w w') (hN : ∀ j ∈ N, j ∈ k.blocks p) : KKeep W0 p k N w' := by
  have hNM : ∀ j ∈ N, j ∈ k.M ∨ w.heap.size ≤ j := fun j hj => Or.inl (h.inM j (hN j hj))
  exact ⟨fun j hj => ⟨(h.lt j hj).1, Nat.lt_of_lt_of_le (h.lt j hj).2 b.size⟩, But.belTo h.bel b (fun j hj => (h.lt j (h.inM j (hN j hj))).1), h.pool.later (b.mono hNM), h.wrow.but b hNM, fun hp => h.at_.but b hp, fun hd => h.svc.but b hd hNM, fun hd => ownB_but h.went b hd, fun hd => ownB_but h.speaks b hd, fun hd => ownB_but h.held b hd, fun hd => ownB_but h.frames b hd⟩
theorem KInv.later {W0 : World} {p s : Nat} {k : KI} {w w' : World} (h : KInv W0 p s k w) (b : Bel w w') : KInv W0 p s k w' := by
  have K := h.keep [] (But.of_bel b) (by simp)
  exact ⟨K.at_ (by simp), h.nd, h.inM, K.lt, K.bel, K.svc (by simp), K.pool, h.good, h.cok, h.onok, h.gen, K.went (by simp), h.wlen, K.wrow, K.speaks (by simp), K.held (by simp), h.slen, h.hlen, h.hrng, K.frames (by simp), h.flen, h.fsz, h.isz⟩
theorem KInv.up {W0 : World} {p s s' : Nat} {k : KI} {w : World} (h : KInv W0 p s k w) (hs : s ≤ s') : KInv W0 p s' k w :=
  ⟨h.at_, h.nd, h.inM, h.lt, h.bel, h.svc, h.pool, h.good, h.cok, h.onok, ⟨h.gen.1, by have := h.gen.2.1; omega, h.gen.2.2⟩, h.went, h.wlen, h.wrow, h.speaks, h.held, h.slen, h.hlen, h.hrng, h.frames, h.flen, h.fsz, h.isz⟩
theorem KInv.p_in {W0 : World} {p s : Nat} {k : KI} {w : World} (_h : KInv W0 p s k w) : p ∈ k.blocks p := by simp [KI.blocks]
theorem KInv.q_in {W0 : World} {p s : Nat} {k : KI} {w : World} (_h : KInv W0 p s k w) : k.q ∈ k.blocks p := by simp [KI.blocks, Svp.own]
/-- blocks of two parts are apart -/
theorem KInv.le {W0 : World} {p s : Nat} {k : KI} {w : World} (h : KInv W0 p s k w) (a : Nat) : [p].count a + (gl k.vw).count a + (gl k.vs).count a + (gl k.vh).count a + (gl k.vf).count a + (k.svp.own k.q).count a ≤ 1 := by
  have := cnt_le h.nd a
  rw [KI.count] at this
  exact this
theorem KInv.apart {W0 : World} {p s : Nat} {k : KI} {w : World} (h : KInv W0 p s k w) : (∀ j ∈ gl k.vw, j ≠ p) ∧ (∀ j ∈ gl k.vs, j ≠ p) ∧ (∀ j ∈ gl k.vh, j ≠ p) ∧ (∀ j ∈ gl k.vf, j ≠ p) ∧ ∀ j ∈ k.svp.own k.q, j ≠ p := by
  have hle := h.le p
  have h1 : 1 ≤ [p].count p := cnt_mem.1 (by simp)
  refine ⟨fun j hj e => ?_, fun j hj e => ?_, fun j hj e => ?_, fun j hj e => ?_, fun j hj e => ?_⟩
  all_goals
    subst e
    have := cnt_mem.1 hj
    omega
/-- the law's own box alone is written -/
theorem KInv.setW {W0 : World} {p s : Nat} {k : KI} {w w' : World} (h : KInv W0 p s k w) (b : But [p] w w') {c' : Cfg} {part' : Int} {img' : ByteArray} (hW' : WAt p (wl part' c' k.q k.on k.vb k.vw k.vs k.vh k.vf img') w') (hc' : c'.OK) (hi : img'.size ≤ 1099511627776) : KInv W0 p s { k with c := c', part := part', img := img' } w' := by
  have K := h.keep [p] b (fun j hj => by rw [List.mem_singleton.1 hj]; exact h.p_in)
  obtain ⟨a1, a2, a3, a4, a5⟩ := h.apart
  exact ⟨hW', h.nd, h.inM, K.lt, K.bel, K.svc (fun j hj e => a5 j e (List.mem_singleton.1 hj)), K.pool, h.good, hc', h.onok, h.gen, K.went (fun j hj e => a1 j hj (List.mem_singleton.1 e)), h.wlen, K.wrow, K.speaks (fun j hj e => a2 j hj (List.mem_singleton.1 e)), K.held (fun j hj e => a3 j hj (List.mem_singleton.1 e)), h.slen, h.hlen, h.hrng, K.frames (fun j hj e => a4 j hj (List.mem_singleton.1 e)), h.flen, h.fsz, hi⟩
/-- behind a change of the service's own box alone -/
theorem KInv.svcSame {W0 : World} {p s : Nat} {k : KI} {w w' : World} (h : KInv W0 p s k w) (b : But [k.q] w w') (hS : SvpAt k.M k.q k.svp w') : KInv W0 p (s + 1) k w' := by
  have K := h.keep [k.q] b (fun j hj => by rw [List.mem_singleton.1 hj]; exact h.q_in)
  have hle := h.le k.q
  have h1 : 1 ≤ (k.svp.own k.q).count k.q := cnt_mem.1 (by simp [Svp.own])
  have hn : ∀ L : List Nat, L.count k.q = 0 → ∀ j ∈ L, j ∉ [k.q] := fun L hL j hj e => by
    rw [List.mem_singleton.1 e] at hj
    have := cnt_mem.1 hj
    omega
  have hp : p ∉ [k.q] := fun e => by
    have h2 : 1 ≤ [p].count p := cnt_mem.1 (by simp)
    rw [← List.mem_singleton.1 e] at hle h1
    omega
  exact KInv.up (s := s) ⟨K.at_ hp, h.nd, h.inM, K.lt, K.bel, hS, K.pool, h.good, h.cok, h.onok, h.gen, K.went (hn _ (by omega)), h.wlen, K.wrow, K.speaks (hn _ (by omega)), K.held (hn _ (by omega)), h.slen, h.hlen, h.hrng, K.frames (hn _ (by omega)), h.flen, h.fsz, h.isz⟩ (by omega)
/-- between two steps: no dataplane waits for its rows; how many frames there are; each is sealed -/
def Seald (t : ByteArray) : Prop := ∃ b, openB t.data.toList = some b
/-- the last image: none, or one of this service's, of a generation that was -/
def ImgP (img : ByteArray) (on : Cfg) (g : Int) (B : List BK) : Prop := img.size = 0 ∨ ∃ (g0 : Nat) (B0 : List BK), 1 ≤ g0 ∧ (g0 : Int) ≤ g ∧ Good B0 ∧ img = txt (imageB 1 g0 on B0 (mkF on B0)) ∧ ((g0 : Int) = g → B0 = B)
theorem ImgP.grow {img : ByteArray} {on : Cfg} {g : Int} {B : List BK} (h : ImgP img on g B) (B' : List BK) : ImgP img on (g + 1) B' := by
  rcases h with h | ⟨g0, B0, h1, h2, h3, h4, h5⟩
  · exact Or.inl h
  · exact Or.inr ⟨g0, B0, h1, by omega, h3, h4, fun e => by omega⟩
/-- what the network knows is true: bs: the pools, by generation -/
structure TruP (on : Cfg) (bs : List (List BK)) (g : Int) (B : List BK) (fr : List ByteArray) (pl : List Pln) (hd : List Int) : Prop where
  hist : HistT on bs
  glen : (bs.length : Int) = g
  last : 1 ≤ g → bs[bs.length - 1]? = some B
  frT : ∀ t ∈ fr, FrT on bs t
  plT : ∀ p ∈ pl, PlT on bs p
  hdT : ∀ (n : Nat) (x : Int) (p : Pln), hd[n]? = some x → pl[n]? = some p → x ≤ (p.g : Int)
theorem TruP.grow {on : Cfg} {bs : List (List BK)} {g : Int} {B : List BK} {fr : List ByteArray} {pl : List Pln} {hd : List Int} (h : TruP on bs g B fr pl hd) {LP : List BK} (hG : Good LP) (hs : g ≤ 65600) : TruP on (bs ++ [LP]) (g + 1) LP fr pl hd := by
  refine ⟨⟨h.hist.1, ?_, fun X hX => ?_⟩, ?_, fun _ => ?_, fun t ht => (h.frT t ht).grow LP, fun p hp => (h.plT p hp).grow LP, h.hdT⟩
  · have := h.glen
    rw [List.length_append]
    simp
    omega
  · rcases List.mem_append.1 hX with e | e
    · exact h.hist.2.2 X e
    · rw [List.mem_singleton.1 e]; exact hG
  · have := h.glen
    rw [List.length_append]
    simp
    omega
  · simp
def KI.Tr (k : KI) : Prop := TruP k.on k.bs k.g k.B k.fr (k.pp.map fun y => y.2.1) k.hd
def KI.Rdy (k : KI) (s : Nat) : Prop := k.ds = 0 ∧ k.dh = 0 ∧ k.fb ≤ s * 2000000 ∧ (∀ t ∈ k.fr, Seald t) ∧ ImgP k.img k.on k.g k.B ∧ k.Tr
theorem KI.Rdy.up {k : KI} {s s' : Nat} (h : k.Rdy s) (hs : s ≤ s') : k.Rdy s' := ⟨h.1, h.2.1, Nat.le_trans h.2.2.1 (Nat.mul_le_mul_right _ hs), h.2.2.2⟩

end Go.Proofs.YtpapdkhjdelfcabGreat

namespace Go.Proofs.YtpapdkhjdelfcabGreat
open Go.RowKit

set_option maxRecDepth 100000 in
set_option maxHeartbeats 400000 in
theorem ktotal_is (B : List BK) (v : Value) (w : World) (hP : PoolAt w v B) (hB : PoolOK B) :
    Calls Tryz.prog 179 #[v] w fun e w' => e = .returned (.int .i64 (wSum B)) ∧ w = w' := by
  obtain ⟨h8, hall⟩ := hB
  obtain ⟨ao, cap, rfl, hc⟩ := hP.open
  obtain ⟨T, hT⟩ : ∃ T, T = wSum B := ⟨_, rfl⟩
  rw [← hT]
  have HT := Hid.mk hT
  clear hT
  go_enter Tryz.func179, Tryz.ntmps179
  go_wp2
  go_loopg [3, 4] B.length (fun r s n wr => w = wr ∧ ∃ k : Nat, r = B.length - k ∧ k ≤ B.length ∧ n = .int .i64 k ∧ s = .int .i64 (wSum (B.take k)))
  case atStart => exact ⟨rfl, 0, by omega, by omega, rfl, rfl⟩
  case round =>
    obtain ⟨rfl, k, hr, hk, rfl, rfl⟩ := hrel
    have hbd := wSum_bound B (fun b hb => (hall b hb).2.2) k
    have hk8 : k ≤ 8 := by omega
    by_cases hlt : k < B.length
    · obtain ⟨g, rfl, c0, c1⟩ := hc k hlt
      have HS : Hid (wSum (B.take (k + 1)) = wSum (B.take k) + B[k].2) := wSum_take B k hlt
      have hw := (hall _ (List.getElem_mem hlt)).2.2
      clear hc
      generalize B[k].1 = idk at *
      generalize B[k].2 = wk at *
      generalize wSum (B.take k) = sk at *
      obtain ⟨hw1, hw2⟩ := hw
      obtain ⟨hb1, hb2⟩ := hbd
      go_wp2
      go_roundg (B.length - (k + 1))
      case measure => omega
      case rel => exact ⟨rfl, k + 1, rfl, by omega, by go_num, by rw [HS.out]⟩
    · have HE : Hid (wSum (B.take k) = T) := by rw [List.take_of_length_le (by omega), HT.out]; rfl
      clear hc hbd
      go_wp2
      go_ret
      exact ⟨ret_int HE.out, rfl⟩

/-- how often a name is among the first k -/
def cntTo (L : List ByteArray) (id : ByteArray) : Nat → Nat
  | 0 => 0
  | k + 1 => cntTo L id k + if ((L[k]?).getD ByteArray.empty).toList == id.toList then 1 else 0
theorem cntTo_le (L : List ByteArray) (id : ByteArray) (k : Nat) : cntTo L id k ≤ k := by
  induction k with
  | zero => simp [cntTo]
  | succ k ih => rw [cntTo]; split <;> omega
/-- a backend's share -/
def ShareOK (B : List BK) (M : Nat) (L : List ByteArray) (b : BK) : Prop := (cntTo L b.1 M : Int) = M * b.2 / wSum B ∨ ((cntTo L b.1 M : Int) = M * b.2 / wSum B + 1 ∧ 0 < M * b.2 % wSum B)
def SharedOK (B : List BK) (M : Nat) (L : List ByteArray) : Prop := wSum B = 0 ∨ (L.length = M ∧ ∀ b ∈ B, ShareOK B M L b)

set_option maxRecDepth 100000 in
set_option maxHeartbeats 400000 in
theorem shared_is (p : Nat) (Lw : List Value) (M : List Nat) (q : Nat) (on : Cfg) (B : List BK) (g : Int) {LL : List Nat} {ps : List (Nat × Pln × List Nat)} (vb : Value) (m : Nat) (w : World) (hW : WAt p Lw w) (h7 : Lw[7]? = some (.pointer (some ⟨q, 0, none⟩))) (h9 : Lw[9]? = some (.int .i64 (m : Int))) (h14 : Lw[14]? = some vb)
    (hS : SvpAt M q ⟨on, B, g, LL, ps⟩ w) (hP : PoolAt w vb B) (hB : PoolOK B) (hE : (mkF on B).length ≤ 65536) (hm : m ≤ 300) :
    Calls Tryz.prog 132 #[.pointer (some ⟨p, 0, none⟩)] w (RBool w (IsB (SharedOK B m (namesF B (mkF on B))))) := by
  have hsl := slots_v M q on B g w hS hE
  have htt := fun wx (h : Bel w wx) => ktotal_is B vb wx (hP.later h) hB
  have hL0 : wSum B = 0 → namesF B (mkF on B) = [] := fun h => by rw [mkF, if_pos (by omega)]; rfl
  have c7 := hW.1 7 _ h7
  have c9 := hW.1 9 _ h9
  have c14 := hW.1 14 _ h14
  obtain ⟨h8, hall⟩ := hB
  have hT2 := wSum_bound B (fun b hb => (hall b hb).2.2) B.length
  rw [List.take_length] at hT2
  obtain ⟨ao, cap, rfl, hc⟩ := hP.open
  generalize namesF B (mkF on B) = L at *
  clear hS hE
  obtain ⟨Pr, hPr⟩ : ∃ Pr : Prop, Pr = SharedOK B m L := ⟨_, rfl⟩
  rw [← hPr]
  unfold SharedOK ShareOK at hPr
  obtain ⟨T, hT⟩ : ∃ T, T = wSum B := ⟨_, rfl⟩
  rw [← hT] at htt hL0 hT2 hPr
  have HPr := Hid.mk hPr
  clear hPr
  clear hT hW
  obtain ⟨hT2a, hT2b⟩ := hT2
  go_enter Tryz.func132, Tryz.ntmps132
  go_wp2_with fail
  refine hsl.mono ?_
  rintro e w1 ⟨vL, rfl, hb1, hO, hnil⟩
  have k9 := hb1.cell c9
  have k14 := hb1.cell c14
  obtain ⟨aL, capL, rfl⟩ := own_slice hO
  go_wp2_with fail
  refine (htt _ hb1).mono ?_
  rintro e w2 ⟨rfl, rfl⟩
  clear htt hsl
  by_cases hT0 : T = 0
  · subst hT0
    have hLn := hL0 rfl
    subst hLn
    have hv := hnil.1 rfl
    simp only [Value.slice.injEq] at hv
    obtain ⟨rfl, -, rfl⟩ := hv
    clear hc hO hnil hL0
    have hnq : ∀ wx : World, (binOp .eql 40 (.slice none 0 0) (.slice none 0 0)).run Tryz.prog wx = .ok (.bool true) wx := fun wx => by kernel_rfl
    go_wp2
    go_ret
    exact ⟨_, rfl, hb1, ⟨fun _ => HPr.out ▸ Or.inl (by trivial), fun _ => rfl⟩⟩
  · have hT0b : (T == 0) = false := by rw [beq_eq_false_iff_ne]; exact hT0
    by_cases hlen : L.length = m
    rotate_left
    · have hlb : ((L.length : Int) != (m : Int)) = true := by rw [bne_iff_ne]; omega
      clear hc hO hnil hL0
      go_wp2
      go_ret
      exact ⟨_, rfl, hb1, ⟨fun h => (by cases h), fun h => (by rw [HPr.out] at h; exact h.elim (fun h => absurd h hT0) (fun h => absurd h.1 hlen))⟩⟩
    subst hlen
    have HO := Hid.mk hO
    have hcl : ∀ j (hj : j < L.length), ∃ gl, aL = some ⟨gl, 0, none⟩ ∧ w1.cell? ⟨gl, j, none⟩ = some (.string L[j]) := by
      intro j hj
      rcases hO.2 with ⟨_, h0⟩ | ⟨gl, cl, cur, hv, _⟩
      · omega
      · simp only [Value.slice.injEq] at hv
        have := World.ownsRow.cells hO (g := gl) (by rw [hv.1]; rfl) j (.string L[j]) (by simp [hj])
        rw [show (⟨gl, 0, none⟩ : Addr).add j = ⟨gl, j, none⟩ by unfold Addr.add; split <;> simp_all] at this
        exact ⟨gl, hv.1, this⟩
    clear hO hnil hL0 HO
    go_wp2
    go_loopg [6] B.length (fun r n wr => Bel w1 wr ∧ ∃ i : Nat, r = B.length - i ∧ i ≤ B.length ∧ n = .int .i64 i ∧ ∀ j (hj : j < B.length), j < i → ((cntTo L B[j].1 L.length : Int) = L.length * B[j].2 / T ∨ ((cntTo L B[j].1 L.length : Int) = L.length * B[j].2 / T + 1 ∧ 0 < L.length * B[j].2 % T)))
    case atStart => exact ⟨Bel.refl _, 0, by omega, by omega, rfl, fun j _ h => by omega⟩
    case round =>
      obtain ⟨hb, i, hr, hi, rfl, hall2⟩ := hrel
      have HA := Hid.mk hall2
      have n14 := hb.cell k14
      have n9 := hb.cell k9
      clear hall2
      by_cases hlt : i < B.length
      · obtain ⟨g, rfl, c0, c1⟩ := hc i hlt
        have c0' := (hb1.trans hb).cell c0
        have c1' := (hb1.trans hb).cell c1
        obtain ⟨-, -, hw1, hw2⟩ := hall _ (List.getElem_mem hlt)
        have hstep : Hid (((cntTo L B[i].1 L.length : Int) = L.length * B[i].2 / T ∨ ((cntTo L B[i].1 L.length : Int) = L.length * B[i].2 / T + 1 ∧ 0 < L.length * B[i].2 % T)) → ∀ j (hj : j < B.length), j < i + 1 → ((cntTo L B[j].1 L.length : Int) = L.length * B[j].2 / T ∨ ((cntTo L B[j].1 L.length : Int) = L.length * B[j].2 / T + 1 ∧ 0 < L.length * B[j].2 % T))) := fun h j hj hji => by
          by_cases he : j = i
          · subst he; exact h
          · exact HA.out j hj (by omega)
        have hno : Hid (¬ ((cntTo L B[i].1 L.length : Int) = L.length * B[i].2 / T ∨ ((cntTo L B[i].1 L.length : Int) = L.length * B[i].2 / T + 1 ∧ 0 < L.length * B[i].2 % T)) → ¬ Pr) := fun h hp => by
          rw [HPr.out] at hp
          exact hp.elim (fun h => absurd h hT0) (fun hp => h (hp.2 _ (List.getElem_mem hlt)))
        have c0b := hb1.cell c0
        have c1b := hb1.cell c1
        clear hc c0 c1 HA HPr
        generalize B[i] = bi at *
        obtain ⟨idi, wi⟩ := bi
        simp only at c0' c1' c0b c1b hw1 hw2 hstep hno
        have hm1 : 0 ≤ (L.length : Int) * wi := Int.mul_nonneg (by omega) hw1
        have hm2 : (L.length : Int) * wi ≤ 300 * 6 := Int.mul_le_mul (by omega) hw2 hw1 (by omega)
        have hd1 : 0 ≤ (L.length : Int) * wi / T := Int.ediv_nonneg hm1 (by omega)
        have hd2 : (L.length : Int) * wi / T ≤ (L.length : Int) * wi := Int.ediv_le_self _ hm1
        go_wp2
        go_loopg [7, 8] L.length (fun r vn vk wr => Bel w1 wr ∧ ∃ k : Nat, r = L.length - k ∧ k ≤ L.length ∧ vk = .int .i64 k ∧ vn = .int .i64 (cntTo L idi k : Int))
        case atStart => exact ⟨hb, 0, by omega, by omega, rfl, rfl⟩
        case round =>
          obtain ⟨hbk, k, hrk, hk, rfl, rfl⟩ := hrel
          have hcle := cntTo_le L idi k
          have o14 := hbk.cell k14
          have o9 := hbk.cell k9
          have e0 := hbk.cell c0b
          have e1 := hbk.cell c1b
          by_cases hkl : k < L.length
          · obtain ⟨gl, rfl, x0⟩ := hcl k hkl
            have x0' := hbk.cell x0
            have hd : decide ((k : Int) < (L.length : Int)) = true := decide_eq_true (by omega)
            have HC : Hid (cntTo L idi (k + 1) = cntTo L idi k + if L[k].toList == idi.toList then 1 else 0) := by
              show cntTo L idi (k + 1) = _
              rw [cntTo, List.getElem?_eq_getElem hkl]; rfl
            generalize L[k] = lk at *
            generalize cntTo L idi k = ck at *
            clear hcl x0
            cases heq : lk.toList == idi.toList
            · rw [heq] at HC
              go_wp2_with fail
              go_quiet (fail)
              go_wp2
              go_roundg (L.length - (k + 1))
              case measure => omega
              case rel => exact ⟨by (repeat (first | exact Bel.refl _ | assumption | refine Bel.step_alloc ?_ _ | refine Bel.step_drew ?_ | refine Bel.step_drewN ?_ _ | refine Bel.step_set ?_ (by simp <;> omega) _ | refine Bel.trans ?_ (by assumption))), k + 1, rfl, by omega, by go_num, by rw [HC.out]; simp⟩
            · rw [heq] at HC
              go_wp2_with fail
              go_quiet (fail)
              go_wp2
              go_roundg (L.length - (k + 1))
              case measure => omega
              case rel => exact ⟨by (repeat (first | exact Bel.refl _ | assumption | refine Bel.step_alloc ?_ _ | refine Bel.step_drew ?_ | refine Bel.step_drewN ?_ _ | refine Bel.step_set ?_ (by simp <;> omega) _ | refine Bel.trans ?_ (by assumption))), k + 1, rfl, by omega, by go_num, by rw [HC.out]; simp⟩
          · obtain rfl : k = L.length := by omega
            have hd : decide ((L.length : Int) < (L.length : Int)) = false := decide_eq_false (by omega)
            generalize cntTo L idi L.length = ck at *
            generalize hlow : (L.length : Int) * wi / T = low at *
            generalize hrem : (L.length : Int) * wi % T = rem at *
            clear hcl
            by_cases hq1 : (ck : Int) = low
            · have hb1' : ((ck : Int) != low) = false := by rw [bne_eq_false_iff_eq]; exact hq1
              have HST := Hid.mk (hstep.out (Or.inl hq1))
              go_wp2
              go_roundg (B.length - (i + 1))
              case measure => omega
              case rel => exact ⟨hbk, i + 1, rfl, by omega, by go_num, HST.out⟩
            · have hb1' : ((ck : Int) != low) = true := by rw [bne_iff_ne]; exact hq1
              by_cases hq2 : (ck : Int) = low + 1
              · have hb2' : ((ck : Int) != low + 1) = false := by rw [bne_eq_false_iff_eq]; exact hq2
                by_cases hq3 : 0 < rem
                · have hb3' : decide (rem > 0) = true := decide_eq_true hq3
                  have HST := Hid.mk (hstep.out (Or.inr ⟨hq2, hq3⟩))
                  go_wp2
                  go_roundg (B.length - (i + 1))
                  case measure => omega
                  case rel => exact ⟨hbk, i + 1, rfl, by omega, by go_num, HST.out⟩
                · have hb3' : decide (rem > 0) = false := decide_eq_false hq3
                  have HNP := Hid.mk (hno.out (fun h => h.elim hq1 (fun h => hq3 h.2)))
                  go_wp2
                  go_ret
                  exact ⟨_, rfl, hb1.trans hbk, ⟨fun h => (by cases h), fun h => absurd h HNP.out⟩⟩
              · have hb2' : ((ck : Int) != low + 1) = true := by rw [bne_iff_ne]; exact hq2
                have HNP := Hid.mk (hno.out (fun h => h.elim hq1 (fun h => hq2 h.1)))
                go_wp2
                go_ret
                exact ⟨_, rfl, hb1.trans hbk, ⟨fun h => (by cases h), fun h => absurd h HNP.out⟩⟩
      · have hfin : Hid (∀ b ∈ B, (cntTo L b.1 L.length : Int) = L.length * b.2 / T ∨ ((cntTo L b.1 L.length : Int) = L.length * b.2 / T + 1 ∧ 0 < L.length * b.2 % T)) := by
          intro b hb
          obtain ⟨j, hj, rfl⟩ := List.getElem_of_mem hb
          exact HA.out j hj (by omega)
        clear hc hcl
        go_wp2
        go_ret
        exact ⟨_, rfl, hb1.trans hb, ⟨fun _ => HPr.out ▸ Or.inr ⟨by trivial, hfin.out⟩, fun _ => rfl⟩⟩

end Go.Proofs.YtpapdkhjdelfcabGreat
