import Derived.Test.YtpapdkhjdelfcabGreatKAI
import Derived.Test.YtpapdkhjdelfcabGreatOAB
import Derived.Test.YtpapdkhjdelfcabGreatKBG
import Derived.Test.YtpapdkhjdelfcabGreatKBL
namespace Go.Proofs.YtpapdkhjdelfcabGreat
open Go.RowKit

theorem xor4 (a b P : BitVec 32) : a ^^^ b = a ^^^ P ^^^ (b ^^^ P) := by
  apply BitVec.eq_of_getLsbD_eq
  intro i hi
  rw [BitVec.getLsbD_xor, BitVec.getLsbD_xor, BitVec.getLsbD_xor, BitVec.getLsbD_xor]
  cases a.getLsbD i <;> cases b.getLsbD i <;> cases P.getLsbD i <;> rfl
theorem cStep_lin (x y : BitVec 32) : cStep (x ^^^ y) = cStep x ^^^ cStep y := by
  unfold cStep
  have hsh : (x ^^^ y) >>> 1 = (x >>> 1) ^^^ (y >>> 1) := by
    apply BitVec.eq_of_getLsbD_eq
    intro i hi
    simp
  rw [hsh, BitVec.getLsbD_xor]
  generalize x >>> 1 = a
  generalize y >>> 1 = b
  cases x.getLsbD 0 <;> cases y.getLsbD 0
  · simp
  · simp only [Bool.false_bne, Bool.false_eq_true, if_false, if_true, BitVec.xor_zero]
    rw [BitVec.xor_assoc]
  · simp only [Bool.bne_false, Bool.false_eq_true, if_false, if_true, BitVec.xor_zero]
    rw [BitVec.xor_assoc, BitVec.xor_comm b, ← BitVec.xor_assoc]
  · simp only [bne_self_eq_false, Bool.false_eq_true, if_false, if_true, BitVec.xor_zero]
    exact xor4 _ _ _
theorem cStep_zero {z : BitVec 32} (h : cStep z = 0#32) : z = 0#32 := by
  unfold cStep at h
  have h31 : ((z >>> 1) ^^^ (if z.getLsbD 0 then 0xEDB88320#32 else 0#32)).getLsbD 31 = false := by rw [h]; rfl
  rw [BitVec.getLsbD_xor, BitVec.getLsbD_ushiftRight] at h31
  have hz : z.getLsbD (1 + 31) = false := BitVec.getLsbD_of_ge _ _ (by omega)
  rw [hz] at h31
  cases h0 : z.getLsbD 0
  · rw [h0] at h
    simp only [Bool.false_eq_true, if_false, BitVec.xor_zero] at h
    apply BitVec.eq_of_getLsbD_eq
    intro i hi
    rw [BitVec.getLsbD_zero]
    cases i with
    | zero => exact h0
    | succ i =>
      have : (z >>> 1).getLsbD i = false := by rw [h]; exact BitVec.getLsbD_zero
      rw [BitVec.getLsbD_ushiftRight, Nat.add_comm] at this
      exact this
  · rw [h0] at h31
    simp only [if_true] at h31
    exact absurd h31 (by decide)
theorem cStep_inj {x y : BitVec 32} (h : cStep x = cStep y) : x = y := by
  have h1 : cStep (x ^^^ y) = 0#32 := by rw [cStep_lin, h, BitVec.xor_self]
  have h2 := cStep_zero h1
  have h3 : x ^^^ y ^^^ y = 0#32 ^^^ y := by rw [h2]
  rwa [BitVec.xor_assoc, BitVec.xor_self, BitVec.xor_zero, BitVec.zero_xor] at h3
theorem stepN_in (c : BitVec 32) (j : Nat) : stepN (cStep c) j = cStep (stepN c j) := by
  induction j with
  | zero => rfl
  | succ j ih => rw [stepN, ih]; rfl
theorem stepN_inj {x y : BitVec 32} (j : Nat) (h : stepN x j = stepN y j) : x = y := by
  induction j with
  | zero => exact h
  | succ j ih => exact ih (cStep_inj h)
def bit1 (d : Bool) : BitVec 32 := if d then 1#32 else 0#32
/-- one bit more into a sum -/
def aStep (c : BitVec 32) (d : Bool) : BitVec 32 := cStep (c ^^^ bit1 d)
def numE : List Bool → BitVec 32
  | [] => 0#32
  | d :: ds => bit1 d ^^^ (numE ds <<< 1)
theorem bit1_get (d : Bool) (i : Nat) : (bit1 d).getLsbD i = (d && decide (i = 0)) := by
  cases d
  · simp [bit1]
  · simp only [bit1, if_true, Bool.true_and]
    rw [BitVec.getLsbD_one]
    simp
theorem numE_get (ds : List Bool) (i : Nat) (hi : i < 32) : (numE ds).getLsbD i = (ds[i]?).getD false := by
  induction ds generalizing i with
  | nil => simp [numE]
  | cons d ds ih =>
    rw [numE, BitVec.getLsbD_xor, bit1_get, BitVec.getLsbD_shiftLeft]
    cases i with
    | zero => simp
    | succ i =>
      have := ih i (by omega)
      simp [this, hi]
theorem numE_inj {a b : List Bool} (hl : a.length = b.length) (h32 : a.length ≤ 32) (h : numE a = numE b) : a = b := by
  apply List.ext_getElem hl
  intro i h1 h2
  have e1 := numE_get a i (by omega)
  have e2 := numE_get b i (by omega)
  rw [h, e2] at e1
  simpa [h1, h2] using e1.symm
theorem shl_back {x : BitVec 32} (h : x.getLsbD 31 = false) : (x <<< 1) >>> 1 = x := by
  apply BitVec.eq_of_getLsbD_eq
  intro i hi
  rw [BitVec.getLsbD_ushiftRight, BitVec.getLsbD_shiftLeft]
  by_cases h31 : i = 31
  · subst h31; rw [h]; simp
  · have : 1 + i < 32 := by omega
    simp [this]
theorem cStep_shl {x : BitVec 32} (h : x.getLsbD 31 = false) : cStep (x <<< 1) = x := by
  unfold cStep
  have h0 : (x <<< 1).getLsbD 0 = false := by rw [BitVec.getLsbD_shiftLeft]; simp
  rw [h0, shl_back h]
  simp
theorem absorb_is (ds : List Bool) (c : BitVec 32) (h : ds.length ≤ 32) : ds.foldl aStep c = stepN (c ^^^ numE ds) ds.length := by
  induction ds generalizing c with
  | nil => simp [numE, stepN]
  | cons d ds ih =>
    rw [List.foldl_cons, ih _ (by simp only [List.length_cons] at h; omega), List.length_cons, stepN, ← stepN_in]
    congr 1
    have h31 : (numE ds).getLsbD 31 = false := by
      rw [numE_get ds 31 (by omega), List.getElem?_eq_none (by simp only [List.length_cons] at h; omega)]; rfl
    rw [numE, ← BitVec.xor_assoc, cStep_lin (c ^^^ bit1 d), cStep_shl h31]
    rfl
theorem fold_inj (ds : List Bool) {x y : BitVec 32} (h : ds.foldl aStep x = ds.foldl aStep y) : x = y := by
  induction ds generalizing x y with
  | nil => exact h
  | cons d ds ih =>
    have h1 := cStep_inj (ih h)
    have h3 : x ^^^ bit1 d ^^^ bit1 d = y ^^^ bit1 d ^^^ bit1 d := by rw [h1]
    rwa [BitVec.xor_assoc, BitVec.xor_assoc, BitVec.xor_self, BitVec.xor_zero, BitVec.xor_zero] at h3
/-- bits of bytes, the low one first -/
def bits8 (b : UInt8) : List Bool := (List.range 8).map fun k => b.toNat.testBit k
def lbits (l : List UInt8) : List Bool := l.flatMap bits8
theorem bits8_len (b : UInt8) : (bits8 b).length = 8 := by simp [bits8]
theorem numE_bits8 (b : UInt8) : numE (bits8 b) = BitVec.ofNat 32 b.toNat := by
  apply BitVec.eq_of_getLsbD_eq
  intro i hi
  rw [numE_get _ _ hi, BitVec.getLsbD_ofNat]
  have hb := b.toNat_lt
  by_cases h8 : i < 8
  · simp [bits8, h8, hi]
  · have : b.toNat.testBit i = false := Nat.testBit_lt_two_pow (Nat.lt_of_lt_of_le hb (Nat.pow_le_pow_right (by omega) (by omega : 8 ≤ i)))
    simp [bits8, h8, this]
theorem cByte_bits (c : BitVec 32) (b : UInt8) : cByte c b = (bits8 b).foldl aStep c := by
  rw [absorb_is _ _ (by rw [bits8_len]; omega), bits8_len, numE_bits8, cByte_step]
theorem crc_bits (l : List UInt8) (c : BitVec 32) : l.foldl cByte c = (lbits l).foldl aStep c := by
  induction l generalizing c with
  | nil => rfl
  | cons b l ih =>
    rw [List.foldl_cons, ih, cByte_bits]
    show _ = (bits8 b ++ lbits l).foldl aStep c
    rw [List.foldl_append]
theorem byte_bit (x q k : Nat) (hk : k < 8) : (UInt8.ofNat (x / 2 ^ q)).toNat.testBit k = x.testBit (q + k) := by
  rw [UInt8.toNat_ofNat', Nat.testBit_mod_two_pow, Nat.testBit_div_two_pow]
  simp [hk, Nat.add_comm]
theorem sum_num (x : BitVec 32) : numE (lbits (sumB x)) = x := by
  apply BitVec.eq_of_getLsbD_eq
  intro i hi
  rw [numE_get _ _ hi]
  have e : lbits (sumB x) = (List.range 8).map (fun k => x.toNat.testBit (0 + k)) ++ ((List.range 8).map (fun k => x.toNat.testBit (8 + k)) ++ ((List.range 8).map (fun k => x.toNat.testBit (16 + k)) ++ ((List.range 8).map (fun k => x.toNat.testBit (24 + k)) ++ []))) := by
    unfold lbits sumB bits8
    simp only [List.flatMap_cons, List.flatMap_nil]
    congr 1
    · exact List.map_congr_left fun k hk => by have := byte_bit x.toNat 0 k (List.mem_range.1 hk); rwa [Nat.pow_zero, Nat.div_one] at this
    congr 1
    · exact List.map_congr_left fun k hk => byte_bit x.toNat 8 k (List.mem_range.1 hk)
    congr 1
    · exact List.map_congr_left fun k hk => byte_bit x.toNat 16 k (List.mem_range.1 hk)
    congr 1
    · exact List.map_congr_left fun k hk => byte_bit x.toNat 24 k (List.mem_range.1 hk)
  have e2 : lbits (sumB x) = (List.range 32).map (fun k => x.toNat.testBit k) := by rw [e]; rfl
  rw [e2]
  simp [hi, BitVec.getLsbD]
/-- the sum of a whole sealed text is always the same -/
theorem seal_sum {l b : List UInt8} (h : openB l = some b) : (lbits l).foldl aStep 0xFFFFFFFF#32 = stepN 0xFFFFFFFF#32 32 := by
  unfold openB at h
  split at h
  · cases h
  · rename_i hl
    split at h
    · rename_i hs
      have e : l = l.take (l.length - 4) ++ sumB (crcB (l.take (l.length - 4))) := by rw [← hs, List.take_append_drop]
      generalize l.take (l.length - 4) = a at *
      rw [e]
      have e1 : lbits (a ++ sumB (crcB a)) = lbits a ++ lbits (sumB (crcB a)) := by unfold lbits; rw [List.flatMap_append]
      have e2 : (lbits (sumB (crcB a))).length = 32 := by simp [lbits, sumB, bits8_len]
      rw [e1, List.foldl_append, absorb_is _ _ (by omega), e2, sum_num, ← crc_bits]
      unfold crcB
      rw [← BitVec.xor_assoc, BitVec.xor_self, BitVec.zero_xor]
    · cases h
def bitAt (l : List UInt8) (i : Nat) : Bool := ((l[i / 8]?).getD 0).toNat.testBit (i % 8)
theorem lbits_len (l : List UInt8) : (lbits l).length = 8 * l.length := by
  induction l with
  | nil => rfl
  | cons b l ih =>
    show (bits8 b ++ lbits l).length = _
    rw [List.length_append, bits8_len, ih, List.length_cons]; omega
theorem lbits_get (l : List UInt8) (i : Nat) (hi : i < 8 * l.length) : (lbits l)[i]? = some (bitAt l i) := by
  induction l generalizing i with
  | nil => simp at hi
  | cons b l ih =>
    show (bits8 b ++ lbits l)[i]? = _
    rw [List.getElem?_append]
    by_cases h8 : i < 8
    · rw [if_pos (by rw [bits8_len]; exact h8)]
      have e1 : i / 8 = 0 := by omega
      have e2 : i % 8 = i := by omega
      simp [bits8, h8, bitAt, e1, e2]
    · rw [if_neg (by rw [bits8_len]; exact h8), bits8_len, ih (i - 8) (by simp only [List.length_cons] at hi; omega)]
      have e1 : i / 8 = (i - 8) / 8 + 1 := by omega
      have e2 : (i - 8) % 8 = i % 8 := by omega
      unfold bitAt
      rw [e1, e2, List.getElem?_cons_succ]
/-- up to thirty-two bits in a row wrong: no sealed text any more -/
theorem burst_kills {l l' b : List UInt8} {p : Nat} (h : openB l = some b) (hl : l'.length = l.length) (hout : ∀ i, i < p ∨ p + 32 ≤ i → bitAt l' i = bitAt l i) (hne : ∃ i, i < 8 * l.length ∧ bitAt l' i ≠ bitAt l i) : openB l' = none := by
  rcases h' : openB l' with _ | b'
  · rfl
  · exfalso
    have s1 := seal_sum h
    have s2 := seal_sum h'
    have hle : (lbits l').length = (lbits l).length := by rw [lbits_len, lbits_len, hl]
    have heq : ∀ i, i < p ∨ p + 32 ≤ i → (lbits l')[i]? = (lbits l)[i]? := fun i hi => by
      by_cases hi8 : i < 8 * l.length
      · rw [lbits_get l i hi8, lbits_get l' i (by omega), hout i hi]
      · rw [List.getElem?_eq_none (by rw [lbits_len]; omega), List.getElem?_eq_none (by rw [lbits_len]; omega)]
    have cut : ∀ L : List Bool, L = L.take p ++ ((L.drop p).take 32 ++ L.drop (p + 32)) := fun L => by
      rw [← List.drop_drop, List.take_append_drop, List.take_append_drop]
    have t1 : (lbits l').take p = (lbits l).take p := by
      apply List.ext_getElem?
      intro i
      rw [List.getElem?_take, List.getElem?_take]
      split
      · rename_i hi; exact heq i (Or.inl hi)
      · rfl
    have t3 : (lbits l').drop (p + 32) = (lbits l).drop (p + 32) := by
      apply List.ext_getElem?
      intro i
      rw [List.getElem?_drop, List.getElem?_drop]
      exact heq _ (Or.inr (by omega))
    rw [← s2, cut (lbits l), cut (lbits l'), t1, t3, List.foldl_append, List.foldl_append, List.foldl_append, List.foldl_append] at s1
    have s3 := fold_inj _ s1
    have hlen : ((lbits l).drop p |>.take 32).length = ((lbits l').drop p |>.take 32).length := by simp [hle]
    have h32 : ((lbits l).drop p |>.take 32).length ≤ 32 := by rw [List.length_take]; omega
    rw [absorb_is ((lbits l).drop p |>.take 32) _ h32, absorb_is ((lbits l').drop p |>.take 32) _ (by rw [← hlen]; exact h32), ← hlen] at s3
    have s4 := stepN_inj _ s3
    have s5 : numE ((lbits l).drop p |>.take 32) = numE ((lbits l').drop p |>.take 32) := by
      have x := congrArg (fun y => (((lbits l).take p).foldl aStep 0xFFFFFFFF#32) ^^^ y) s4
      simp only [← BitVec.xor_assoc, BitVec.xor_self, BitVec.zero_xor] at x
      exact x
    have s6 := numE_inj hlen h32 s5
    obtain ⟨i, hi, hb⟩ := hne
    have whole : lbits l' = lbits l := by rw [cut (lbits l'), cut (lbits l), t1, t3, s6]
    have g1 := lbits_get l i hi
    have g2 := lbits_get l' i (by omega)
    rw [whole, g1] at g2
    exact hb (Option.some.inj g2).symm

end Go.Proofs.YtpapdkhjdelfcabGreat

namespace Go.Proofs.YtpapdkhjdelfcabGreat
open Go.RowKit

/-- one bit turned -/
def flipB (l : List UInt8) (i : Nat) : List UInt8 := l.set (i / 8) (((l[i / 8]?).getD 0) ^^^ UInt8.ofNat (2 ^ (i % 8)))
/-- bits from p on turned, as the bytes s say -/
def burstN (l : List UInt8) (p : Nat) (s : Nat → Bool) : Nat → List UInt8
  | 0 => l
  | k + 1 => if s k = true ∧ p + k < 8 * l.length then flipB (burstN l p s k) (p + k) else burstN l p s k
theorem flipB_len (l : List UInt8) (i : Nat) : (flipB l i).length = l.length := List.length_set
theorem burstN_len (l : List UInt8) (p : Nat) (s : Nat → Bool) (k : Nat) : (burstN l p s k).length = l.length := by
  induction k with
  | zero => rfl
  | succ k ih => rw [burstN]; split <;> simp [flipB_len, ih]
theorem flipB_bit (l : List UInt8) (i j : Nat) (hi : i < 8 * l.length) : bitAt (flipB l i) j = (bitAt l j != decide (i = j)) := by
  unfold bitAt flipB
  by_cases hq : i / 8 = j / 8
  · rw [← hq, List.getElem?_set_self (by omega)]
    simp only [Option.getD_some]
    rw [UInt8.toNat_xor, Nat.testBit_xor, UInt8.toNat_ofNat']
    congr 1
    have h1 : i % 8 < 8 := Nat.mod_lt _ (by omega)
    have h2 : 2 ^ (i % 8) < 2 ^ 8 := Nat.pow_lt_pow_right (by omega) h1
    rw [Nat.mod_eq_of_lt h2, Nat.testBit_two_pow]
    by_cases e : i = j
    · subst e; simp
    · rw [decide_eq_false e, decide_eq_false (by omega)]
  · rw [List.getElem?_set_ne hq]
    have e : i ≠ j := fun e => hq (by rw [e])
    simp [e]
theorem burstN_bit (l : List UInt8) (p : Nat) (s : Nat → Bool) (k j : Nat) : bitAt (burstN l p s k) j = (bitAt l j != (decide (p ≤ j ∧ j < p + k ∧ j < 8 * l.length) && s (j - p))) := by
  induction k with
  | zero =>
    have : decide (p ≤ j ∧ j < p + 0 ∧ j < 8 * l.length) = false := decide_eq_false (by omega)
    rw [this]
    simp [burstN]
  | succ k ih =>
    rw [burstN]
    by_cases hc : s k = true ∧ p + k < 8 * l.length
    · rw [if_pos hc, flipB_bit _ _ _ (by rw [burstN_len]; exact hc.2), ih]
      by_cases hj : p + k = j
      · subst hj
        have h1 : decide (p ≤ p + k ∧ p + k < p + k ∧ p + k < 8 * l.length) = false := decide_eq_false (by omega)
        have h2 : decide (p ≤ p + k ∧ p + k < p + (k + 1) ∧ p + k < 8 * l.length) = true := decide_eq_true ⟨by omega, by omega, hc.2⟩
        rw [h1, h2, Nat.add_sub_cancel_left, hc.1]
        simp
      · have h1 : decide (p ≤ j ∧ j < p + k ∧ j < 8 * l.length) = decide (p ≤ j ∧ j < p + (k + 1) ∧ j < 8 * l.length) := decide_eq_decide.2 (by omega)
        rw [h1, decide_eq_false hj]
        simp
    · rw [if_neg hc, ih]
      by_cases hj : p + k = j
      · subst hj
        have h1 : decide (p ≤ p + k ∧ p + k < p + k ∧ p + k < 8 * l.length) = false := decide_eq_false (by omega)
        rw [h1, Nat.add_sub_cancel_left]
        by_cases h8 : p + k < 8 * l.length
        · have : s k = false := by
            cases hs : s k
            · rfl
            · exact absurd ⟨hs, h8⟩ hc
          simp [this]
        · simp [h8]
      · have h1 : decide (p ≤ j ∧ j < p + k ∧ j < 8 * l.length) = decide (p ≤ j ∧ j < p + (k + 1) ∧ j < 8 * l.length) := decide_eq_decide.2 (by omega)
        rw [h1]
/-- behind a burst that is none a text is not sealed -/
theorem burst_none {l b : List UInt8} {p k : Nat} {s : Nat → Bool} (h : openB l = some b) (hk : k ≤ 32) (hs : ∃ j, j < k ∧ s j = true ∧ p + j < 8 * l.length) : openB (burstN l p s k) = none := by
  refine burst_kills (p := p) h (burstN_len _ _ _ _) (fun i hi => ?_) ?_
  · rw [burstN_bit, decide_eq_false (by omega)]
    simp
  · obtain ⟨j, hj, hsj, h8⟩ := hs
    refine ⟨p + j, h8, ?_⟩
    rw [burstN_bit, decide_eq_true ⟨by omega, by omega, h8⟩, Nat.add_sub_cancel_left, hsj]
    cases bitAt l (p + j) <;> simp
theorem pow_u8 (m : Nat) (h : m < 8) : (2 : Int) ^ m % 256 = ((UInt8.ofNat (2 ^ m)).toNat : Int) := by
  rw [UInt8.toNat_ofNat']
  rcases (show m = 0 ∨ m = 1 ∨ m = 2 ∨ m = 3 ∨ m = 4 ∨ m = 5 ∨ m = 6 ∨ m = 7 by omega) with rfl | rfl | rfl | rfl | rfl | rfl | rfl | rfl <;> rfl
theorem u8_xor (x y : UInt8) : bits .xor .u8 (x.toNat : Int) (y.toNat : Int) = ((x ^^^ y).toNat : Int) := by
  have hx := x.toNat_lt
  have hy := y.toNat_lt
  show IntKind.u8.wrap ((BitVec.ofInt 8 (x.toNat : Int) ^^^ BitVec.ofInt 8 (y.toNat : Int)).toNat : Int) = _
  have hz : x.toNat ^^^ y.toNat < 2 ^ 8 := Nat.xor_lt_two_pow (by omega) (by omega)
  have e : ∀ z : UInt8, (BitVec.ofInt 8 (z.toNat : Int)).toNat = z.toNat := fun z => by
    have := z.toNat_lt
    rw [BitVec.toNat_ofInt]
    omega
  rw [BitVec.toNat_xor, e, e, IntKind.wrap_u8, UInt8.toNat_xor]
  omega

end Go.Proofs.YtpapdkhjdelfcabGreat

namespace Go.Proofs.YtpapdkhjdelfcabGreat
open Go.RowKit

theorem preN_take : ∀ a b : List EI, a.take (preN a b) = b.take (preN a b)
  | [], b => by simp [preN]
  | _ :: _, [] => by simp [preN]
  | x :: a, y :: b => by
    rw [preN]
    split
    · rename_i h
      rw [List.take_succ_cons, List.take_succ_cons, h, preN_take a b]
    · simp
theorem sufN_drop (a b : List EI) : a.drop (a.length - sufN a b) = b.drop (b.length - sufN a b) := by
  have h := preN_take a.reverse b.reverse
  have hl := sufN_le a b
  have e : ∀ (l : List EI) (k : Nat), k ≤ l.length → l.reverse.take k = (l.drop (l.length - k)).reverse := fun l k hk => by
    rw [List.take_reverse]
  change a.reverse.take (sufN a b) = b.reverse.take (sufN a b) at h
  rw [e a _ hl.1, e b _ hl.2] at h
  exact List.reverse_inj.1 h
/-- what a patch makes of the old entries -/
theorem ct_back (O E : List EI) (p s : Nat) (hp : p = preN O E) (hs : s = sufN (O.drop p) (E.drop p)) : p + s ≤ O.length ∧ p + s ≤ E.length ∧ ctF p s ((E.drop p).take (E.length - s - p)) O = E := by
  have h1 := preN_le O E
  have h2 := sufN_le (O.drop p) (E.drop p)
  rw [← hp] at h1
  rw [← hs, List.length_drop, List.length_drop] at h2
  refine ⟨by omega, by omega, ?_⟩
  have h3 := preN_take O E
  rw [← hp] at h3
  have h4 := sufN_drop (O.drop p) (E.drop p)
  rw [← hs, List.drop_drop, List.drop_drop, List.length_drop, List.length_drop] at h4
  have e1 : p + (O.length - p - s) = O.length - s := by omega
  have e2 : p + (E.length - p - s) = E.length - s := by omega
  rw [e1, e2] at h4
  unfold ctF
  rw [h3, h4]
  have e3 : (E.drop p).take (E.length - s - p) ++ E.drop (E.length - s) = E.drop p := by
    have := List.take_append_drop (E.length - s - p) (E.drop p)
    rw [List.drop_drop] at this
    rwa [show p + (E.length - s - p) = E.length - s by omega] at this
  rw [List.append_assoc, e3, List.take_append_drop]
theorem open_pack {L : List Bool} (h : 0 < L.length) : openB (packB L ++ sumB (crcB (packB L))) = some (packB L) := by
  obtain ⟨z, hz, hbits⟩ := pack_bits _ L (Nat.le_refl _)
  have hlen : 0 < (packB L).length := by
    rcases Nat.eq_zero_or_pos (packB L).length with e | e
    · exfalso
      have h0 := congrArg List.length hbits
      rw [bytesBits_len, e, List.length_append] at h0
      omega
    · exact e
  unfold openB
  have e4 : (sumB (crcB (packB L))).length = 4 := rfl
  have e : (packB L ++ sumB (crcB (packB L))).length - 4 = (packB L).length := by rw [List.length_append, e4]; omega
  rw [if_neg (by rw [List.length_append, e4]; omega), e, List.take_left', List.drop_left', if_pos rfl]
  · rfl
  · rfl
/-- a patch is read as it was written -/
theorem change_round {b s g : Nat} {B : List BK} {ah bh : Nat} {M : List EI} {alg : Int} (hb : b < 4294967296) (hs : s < 4294967296) (hg : g < 4294967296) (hB : Good B) (h1 : ah < 65536) (h2 : bh < 65536) (hl : M.length < 65536) (hM : ∀ e ∈ M, EnW alg B.length e) : changeP alg (patchB b s g B ah bh M alg) = some (b, s, g, B, ah, bh, M) := by
  obtain ⟨z, hz, hbits⟩ := pack_bits _ (chB b s g B ah bh M alg) (Nat.le_refl _)
  have hop : openB (patchB b s g B ah bh M alg) = some (packB (chB b s g B ah bh M alg)) := open_pack (by
    unfold chB
    simp only [List.length_append, chHd_len]
    omega)
  have hbody : chB b s g B ah bh M alg ++ List.replicate z false = bytesBits [67, 80] ++ (numBits b 32 ++ (numBits s 32 ++ (numBits g 32 ++ (bksB B ++ (numBits ah 16 ++ (numBits bh 16 ++ (numBits M.length 16 ++ (ensB (wpF alg) (woF 1 alg B.length) M ++ List.replicate z false)))))))) := by
    unfold chB chHd
    simp only [List.append_assoc, List.nil_append]
  have s1 := textP_txt [67, 80] (numBits b 32 ++ (numBits s 32 ++ (numBits g 32 ++ (bksB B ++ (numBits ah 16 ++ (numBits bh 16 ++ (numBits M.length 16 ++ (ensB (wpF alg) (woF 1 alg B.length) M ++ List.replicate z false)))))))) (k := 2) rfl
  have s2 : baseX (numBits b 32 ++ (numBits s 32 ++ (numBits g 32 ++ (bksB B ++ (numBits ah 16 ++ (numBits bh 16 ++ (numBits M.length 16 ++ (ensB (wpF alg) (woF 1 alg B.length) M ++ List.replicate z false)))))))) = some ((b, s, g), bksB B ++ (numBits ah 16 ++ (numBits bh 16 ++ (numBits M.length 16 ++ (ensB (wpF alg) (woF 1 alg B.length) M ++ List.replicate z false))))) := by
    unfold baseX
    rw [thenP_go (numP_num (W := 32) _ hb), thenP_go (numP_num (W := 32) _ hs), thenP_go (numP_num (W := 32) _ hg)]
    rfl
  have s3 := bksX_enc B hB.1 (numBits ah 16 ++ (numBits bh 16 ++ (numBits M.length 16 ++ (ensB (wpF alg) (woF 1 alg B.length) M ++ List.replicate z false))))
  have s4 : cutX (numBits ah 16 ++ (numBits bh 16 ++ (numBits M.length 16 ++ (ensB (wpF alg) (woF 1 alg B.length) M ++ List.replicate z false)))) = some ((ah, bh, M.length), ensB (wpF alg) (woF 1 alg B.length) M ++ List.replicate z false) := by
    unfold cutX
    rw [thenP_go (numP_num (W := 16) _ h1), thenP_go (numP_num (W := 16) _ h2), thenP_go (numP_num (W := 16) _ hl)]
    rfl
  have s5 := manyP_enc (P := oneEn (wpF alg) (woF 1 alg B.length)) (enc := enB (wpF alg) (woF 1 alg B.length)) M (fun e he Y => oneEn_enc (f := 1) hB.1.1 (hM e he) Y) (List.replicate z false)
  unfold changeP
  rw [hop, Option.bind_some, hbits, hbody]
  rw [chgT_step (o' := some _) (by rw [Option.bind_some, s1]; rfl), if_pos rfl, chgH_step (o' := some _) (by rw [Option.bind_some, s2]; rfl), chgBk_step (o' := some _) (by rw [Option.bind_some, s3]; rfl), if_pos hB, chgC_step (o' := some _) (by rw [Option.bind_some, s4]; rfl)]
  rw [chgM_step (o' := some (List.replicate z false)) (M := M) (by rw [Option.bind_some]; exact s5)]
  unfold chgEnd
  rw [if_pos (zeros_end z hz)]

end Go.Proofs.YtpapdkhjdelfcabGreat

namespace Go.Proofs.YtpapdkhjdelfcabGreat
open Go.RowKit

/-- a service's image -/
def imgS (f g : Nat) (c : Cfg) (B : List BK) : List UInt8 := imageB f g c B (mkF c B)
def GenOK (c : Cfg) (g : Nat) (B : List BK) : Prop := c.OK ∧ Good B ∧ 1 ≤ g ∧ g ≤ 1073741824
theorem imgS_round {f g : Nat} {c : Cfg} {B : List BK} (hf : 1 ≤ f ∧ f ≤ 2) (h : GenOK c g B) : imageP (imgS f g c B) = some (f, g, { c with formats := 0 }, B, mkF c B) := simage_round hf h.1 h.2.1 h.2.2
theorem body_pos (f g : Nat) (c : Cfg) (B : List BK) (E : List EI) : 0 < (bodyB f g c B E).length := by
  unfold bodyB headB
  simp only [List.length_append, bytesBits_len, List.length_cons]
  omega
theorem imgS_open (f g : Nat) (c : Cfg) (B : List BK) : openB (imgS f g c B) = some (packB (bodyB f g c B (mkF c B))) := open_pack (body_pos _ _ _ _ _)
theorem imgS_len (f g : Nat) (c : Cfg) (B : List BK) : 5 ≤ (imgS f g c B).length := by
  have h := imgS_open f g c B
  unfold openB at h
  split at h
  · cases h
  · omega
theorem dec_img {f g : Nat} {c : Cfg} {B : List BK} (hf : 1 ≤ f ∧ f ≤ 2) (h : GenOK c g B) : decF (imgS f g c B) = (imgS 1 g c B, imgS 2 g c B, g, 0) := by
  unfold decF
  rw [imgS_round hf h]
  rfl
theorem bit_set {l : List UInt8} {j : Nat} {v : UInt8} (i : Nat) (hi : i < j * 8 ∨ j * 8 + 32 ≤ i) : bitAt (l.set j v) i = bitAt l i := by
  unfold bitAt
  rw [List.getElem?_set_ne (by omega)]
theorem xor_bit {x v : UInt8} (h : v ≠ 0) : ∃ k, k < 8 ∧ (x ^^^ v).toNat.testBit k ≠ x.toNat.testBit k := by
  have hne : v.toNat ≠ 0 := fun e => h (UInt8.toNat_inj.1 e)
  obtain ⟨k, hk⟩ := Nat.exists_testBit_of_ne_zero hne
  refine ⟨k, ?_, ?_⟩
  · rcases Nat.lt_or_ge k 8 with h8 | h8
    · exact h8
    · have := Nat.testBit_lt_two_pow (Nat.lt_of_lt_of_le v.toNat_lt (Nat.pow_le_pow_right (by omega) h8) : v.toNat < 2 ^ k)
      rw [this] at hk; cases hk
  · rw [UInt8.toNat_xor, Nat.testBit_xor, hk]
    cases x.toNat.testBit k <;> simp
theorem turned_none {l b : List UInt8} {j : Nat} {v : UInt8} (h : openB l = some b) (hj : j < l.length) (hv : v ≠ 0) : openB (l.set j (l[j] ^^^ v)) = none := by
  refine burst_kills (p := j * 8) h (by simp) (fun i hi => bit_set i hi) ?_
  obtain ⟨k, hk, hne⟩ := xor_bit (x := l[j]) hv
  refine ⟨j * 8 + k, by omega, ?_⟩
  have e1 : (j * 8 + k) / 8 = j := by omega
  have e2 : (j * 8 + k) % 8 = k := by omega
  unfold bitAt
  rw [e1, e2, List.getElem?_set_self hj, List.getElem?_eq_getElem hj]
  exact hne
theorem dec_none {l : List UInt8} (h : openB l = none) : decF l = ([], [], 0, 9) := by
  unfold decF imageP
  rw [h]
  rfl
/-- the patch of two of a service's images -/
def patS (c : Cfg) (g1 : Nat) (B1 : List BK) (g2 : Nat) (B2 : List BK) : List UInt8 :=
  patchB g1 (sumF g1 c B1 (mkF c B1)).toNat g2 B2 (preN ((mkF c B1).map (inE B1 B2)) (mkF c B2)) (sufN (((mkF c B1).map (inE B1 B2)).drop (preN ((mkF c B1).map (inE B1 B2)) (mkF c B2))) ((mkF c B2).drop (preN ((mkF c B1).map (inE B1 B2)) (mkF c B2)))) (((mkF c B2).drop (preN ((mkF c B1).map (inE B1 B2)) (mkF c B2))).take ((mkF c B2).length - sufN (((mkF c B1).map (inE B1 B2)).drop (preN ((mkF c B1).map (inE B1 B2)) (mkF c B2))) ((mkF c B2).drop (preN ((mkF c B1).map (inE B1 B2)) (mkF c B2))) - preN ((mkF c B1).map (inE B1 B2)) (mkF c B2))) c.alg
theorem patch_img {c : Cfg} {g1 g2 : Nat} {B1 B2 : List BK} {f1 f2 : Nat} (hf1 : 1 ≤ f1 ∧ f1 ≤ 2) (hf2 : 1 ≤ f2 ∧ f2 ≤ 2) (h1 : GenOK c g1 B1) (h2 : GenOK c g2 B2) : patchF (imgS f1 g1 c B1) (imgS f2 g2 c B2) = (patS c g1 B1 g2 B2, 0) := by
  unfold patchF
  rw [imgS_round hf1 h1, imgS_round hf2 h2]
  dsimp only
  rw [if_pos rfl]
  rfl
theorem mkF_short {c : Cfg} {B : List BK} (hc : c.OK) (hB : Good B) : (mkF c B).length < 65536 := by
  have h1 := (mkF_right hc hB).1
  have h2 := wSum_le hB.1
  have h4 := eachF_le ((Cfg.ok_iff c).1 hc).1
  have h5 : cntF c B ≤ 300 := by
    unfold cntF
    have h6 := hc.2.2.2.1
    split
    · omega
    · split
      · have : eachF c * wSum B ≤ 3 * 48 := Int.mul_le_mul h4.2 h2.2 h2.1 (by omega)
        omega
      · omega
  omega
theorem change_img {c : Cfg} {g1 g2 : Nat} {B1 B2 : List BK} (h1 : GenOK c g1 B1) (h2 : GenOK c g2 B2) : ∃ ah bh M, changeP c.alg (patS c g1 B1 g2 B2) = some (g1, (sumF g1 c B1 (mkF c B1)).toNat, g2, B2, ah, bh, M) ∧ ah + bh ≤ (mkF c B1).length ∧ ctF ah bh M ((mkF c B1).map (inE B1 B2)) = mkF c B2 := by
  obtain ⟨p1, p2, p3⟩ := ct_back ((mkF c B1).map (inE B1 B2)) (mkF c B2) _ _ rfl rfl
  have l1 := mkF_short h1.1 h1.2.1
  have l2 := mkF_short h2.1 h2.2.1
  rw [List.length_map] at p1
  refine ⟨_, _, _, change_round ?_ ?_ ?_ h2.2.1 ?_ ?_ ?_ ?_, p1, p3⟩
  · have := h1.2.2.2; omega
  · exact BitVec.isLt _
  · have := h2.2.2.2; omega
  · omega
  · omega
  · rw [List.length_take, List.length_drop]; omega
  · intro e he
    exact mkF_enW h2.1 h2.2.1 e (List.mem_of_mem_drop (List.mem_of_mem_take he))
theorem apply_img {c : Cfg} {g1 g2 : Nat} {B1 B2 : List BK} (h1 : GenOK c g1 B1) (h2 : GenOK c g2 B2) : applyF (patS c g1 B1 g2 B2) (imgS 1 g1 c B1) = (imgS 1 g2 c B2, 0) := by
  obtain ⟨ah, bh, M, e1, e2, e3⟩ := change_img h1 h2
  unfold applyF
  rw [imgS_round ⟨by omega, by omega⟩ h1]
  dsimp only
  rw [e1]
  dsimp only
  have hR : RightT { c with formats := 0 } B2 (mkF c B2) := mkF_right (c := c) h2.1 h2.2.1
  rw [if_pos ⟨rfl, rfl⟩, if_pos e2, e3, if_pos ⟨h2.2.2, hR⟩]
  rfl
theorem apply_other {c : Cfg} {g1 g2 g : Nat} {B1 B2 B : List BK} (h1 : GenOK c g1 B1) (h2 : GenOK c g2 B2) (h : GenOK c g B) : (applyF (patS c g1 B1 g2 B2) (imgS 1 g c B)).2 = 10 ∨ (g1 = g ∧ sumF g1 c B1 (mkF c B1) = sumF g c B (mkF c B)) := by
  obtain ⟨ah, bh, M, e1, e2, e3⟩ := change_img h1 h2
  by_cases hc : g1 = g ∧ sumF g1 c B1 (mkF c B1) = sumF g c B (mkF c B)
  · exact Or.inr hc
  · refine Or.inl ?_
    unfold applyF
    rw [imgS_round ⟨by omega, by omega⟩ h]
    dsimp only
    rw [e1]
    dsimp only
    rw [if_neg]
    intro k
    exact hc ⟨k.1, BitVec.eq_of_toNat_eq k.2⟩
theorem cut4 (a t : List UInt8) (h : t.length = 4) : (a ++ t).take ((a ++ t).length - 4) = a := List.take_left' (by rw [List.length_append, h]; omega)
theorem imgS_cut (g : Nat) (c : Cfg) (B : List BK) : crcB ((imgS 1 g c B).take ((imgS 1 g c B).length - 4)) = sumF g c B (mkF c B) :=
  congrArg crcB (cut4 (packB (bodyB 1 g c B (mkF c B))) (sumB (crcB (packB (bodyB 1 g c B (mkF c B))))) rfl)

end Go.Proofs.YtpapdkhjdelfcabGreat

namespace Go.Proofs.YtpapdkhjdelfcabGreat
open Go.RowKit

theorem answX_tag {N : Nat} {X Y : List Bool} {t : List UInt8} {y : (List UInt8 × Ans) × List Bool} (h1 : textP 1 X = some (t, Y)) (h : answX N X = some y) : y.1.1 = t := by
  unfold answX at h
  rw [thenP_go h1] at h
  unfold thenP at h
  obtain ⟨a, -, ha⟩ := Option.bind_eq_some_iff.1 h
  by_cases hk : a.1 = 1
  · simp only [hk, if_true] at ha
    obtain ⟨a1, -, ha⟩ := Option.bind_eq_some_iff.1 ha
    obtain ⟨a2, -, ha⟩ := Option.bind_eq_some_iff.1 ha
    obtain ⟨a3, -, ha⟩ := Option.bind_eq_some_iff.1 ha
    obtain ⟨a4, -, ha⟩ := Option.bind_eq_some_iff.1 ha
    obtain ⟨a5, -, ha⟩ := Option.bind_eq_some_iff.1 ha
    unfold doneP at ha
    rw [← Option.some.inj ha]
  · simp only [hk, if_false] at ha
    unfold doneP at ha
    rw [← Option.some.inj ha]
/-- what no answer says: a question is none -/
theorem answ_tick (g fm cg cf : Nat) (T : List TP) : answP (tickB g fm cg cf T) = none := by
  obtain ⟨z, hz, hbits⟩ := pack_bits _ (questB g fm cg cf (misF T)) (Nat.le_refl _)
  have hop : openB (tickB g fm cg cf T) = some (packB (questB g fm cg cf (misF T))) := open_pack (by rw [questB_len]; omega)
  have hq : questB g fm cg cf (misF T) ++ List.replicate z false = bytesBits [81] ++ (numBits g 32 ++ (numBits fm 8 ++ (numBits cg 32 ++ (numBits cf 8 ++ (numBits (misF T) 16 ++ List.replicate z false))))) := by
    unfold questB
    simp only [List.append_assoc, List.nil_append]
  unfold answP
  rw [hop, Option.bind_some, hbits, hq]
  have s1 := textP_txt [81] (numBits g 32 ++ (numBits fm 8 ++ (numBits cg 32 ++ (numBits cf 8 ++ (numBits (misF T) 16 ++ List.replicate z false))))) (k := 1) rfl
  rcases hT : answX ((packB (questB g fm cg cf (misF T))).length - 11) (bytesBits [81] ++ (numBits g 32 ++ (numBits fm 8 ++ (numBits cg 32 ++ (numBits cf 8 ++ (numBits (misF T) 16 ++ List.replicate z false)))))) with _ | y
  · rfl
  · rw [Option.bind_some, if_neg]
    intro h
    rw [answX_tag s1 hT] at h
    exact absurd h.2.1 (by decide)
/-- an answer is read as it was written -/
theorem answ_round {a : Ans} (hg : a.2.1 < 4294967296) (hf : a.2.2.1 < 256) (hc : a.2.2.2.1 < 65536) (hn : a.2.2.2.2.1 < 65536) (hok : ansOK a) (hz : a.1 ≠ 1 → a = (a.1, 0, 0, 0, 0, [])) : answP (frameA a) = some a := by
  obtain ⟨k, g, f, c, n, s⟩ := a
  simp only at hg hf hc hn hz
  by_cases hk : k = 1
  · subst hk
    have hsl : 1 ≤ s.length ∧ s.length ≤ 48 := by
      rcases hok with h | h | h
      · cases h
      · cases h
      · exact h.2
    have hL : (answ1 g f c n (txt s)).length = 8 * (11 + s.length) := by
      unfold answ1 answ0
      rw [show (txt s).data.toList = s from rfl]
      simp only [List.length_append, numBits_len, bytesBits_len, List.length_nil, List.length_cons]
      omega
    have hpk : packB (answ1 g f c n (txt s)) = packB (answ1 g f c n (txt s)) := rfl
    obtain ⟨z, hz, hbits⟩ := pack_bits _ (answ1 g f c n (txt s)) (Nat.le_refl _)
    have hz0 : z = 0 ∧ (packB (answ1 g f c n (txt s))).length = 11 + s.length := by
      have := congrArg List.length hbits
      rw [bytesBits_len, List.length_append, hL, List.length_replicate] at this
      omega
    have hop : openB (frameA (1, g, f, c, n, s)) = some (packB (answ1 g f c n (txt s))) := open_pack (by rw [hL]; omega)
    have hq : answ1 g f c n (txt s) ++ List.replicate z false = bytesBits [65] ++ (numBits 1 8 ++ (numBits g 32 ++ (numBits f 8 ++ (numBits c 16 ++ (numBits n 16 ++ (bytesBits s ++ List.replicate z false)))))) := by
      unfold answ1 answ0
      rw [show (txt s).data.toList = s from rfl]
      simp only [List.append_assoc, List.nil_append]
    unfold answP
    rw [hop, Option.bind_some, hbits, hq, hz0.2, show 11 + s.length - 11 = s.length by omega]
    unfold answX
    rw [thenP_go (textP_txt [65] _ (k := 1) rfl), thenP_go (numP_num (W := 8) _ (by decide)), if_pos rfl, thenP_go (numP_num (W := 32) _ hg), thenP_go (numP_num (W := 8) _ hf), thenP_go (numP_num (W := 16) _ hc), thenP_go (numP_num (W := 16) _ hn), thenP_go (textP_txt s _ rfl)]
    show (some ((([65] : List UInt8), ((1, g, f, c, n, s) : Ans)), List.replicate z false)).bind _ = _
    rw [Option.bind_some, if_pos ⟨zeros_end z hz, rfl, hok⟩]
  · have e := hz hk
    injection e with _ e
    injection e with e1 e
    injection e with e2 e
    injection e with e3 e
    injection e with e4 e5
    subst e1 e2 e3 e4 e5
    have hk2 : k < 256 := by rcases hok with h | h | h <;> simp only at h <;> omega
    obtain ⟨z, hz, hbits⟩ := pack_bits _ (answ0 k) (Nat.le_refl _)
    have hop : openB (frameA (k, 0, 0, 0, 0, [])) = some (packB (answ0 k)) := by
      unfold frameA
      rw [if_neg hk]
      exact open_pack (by unfold answ0; simp only [List.length_append, numBits_len, bytesBits_len, List.length_nil, List.length_cons]; omega)
    have hq : answ0 k ++ List.replicate z false = bytesBits [65] ++ (numBits k 8 ++ List.replicate z false) := by
      unfold answ0
      simp only [List.append_assoc, List.nil_append]
    unfold answP
    rw [hop, Option.bind_some, hbits, hq]
    unfold answX
    rw [thenP_go (textP_txt [65] _ (k := 1) rfl), thenP_go (numP_num (W := 8) _ hk2), if_neg hk]
    show (some ((([65] : List UInt8), ((k, 0, 0, 0, 0, []) : Ans)), List.replicate z false)).bind _ = _
    rw [Option.bind_some, if_pos ⟨zeros_end z hz, rfl, hok⟩]

end Go.Proofs.YtpapdkhjdelfcabGreat
