import Derived.Test.YtgfildmmcbjpnabGreatLAU
import Derived.Test.YtgfildmmcbjpnabGreatLBI
import Derived.Test.YtgfildmmcbjpnabGreatLBJ
import Derived.Deep.AppendLies
namespace Go.Proofs.YtgfildmmcbjpnabGreat
open Go.RowKit

theorem TabEq.len {c : Cfg} {B : List BK} {E : List EN} (h : TabEq c B E) : E.length = (mkF c B).length := by
  have := congrArg List.length h
  simpa using this
theorem TabEq.at {c : Cfg} {B : List BK} {E : List EN} (h : TabEq c B E) {i : Nat} (hi : i < E.length) : wv E[i].2.1 E[i].2.2 = ((mkF c B).getD i (0, 0)).1 ∧ E[i].1 = nameF B ((mkF c B).getD i (0, 0)).2 := by
  have hl := h.len
  have h1 : (E.map enV)[i]? = ((mkF c B).map (nmE B))[i]? := by rw [show E.map enV = _ from h]
  rw [List.getElem?_map, List.getElem?_map, List.getElem?_eq_getElem hi, List.getElem?_eq_getElem (by omega)] at h1
  simp only [Option.map_some, Option.some.injEq, enV, nmE, Prod.mk.injEq] at h1
  rw [List.getD_eq_getElem?_getD, List.getElem?_eq_getElem (by omega)]
  exact h1
theorem mk_points {c : Cfg} {B : List BK} (h : Pointed c) : mkF c B = [] ∨ ∃ letter each, mkF c B = pointsF c.key letter each B := by
  unfold mkF
  split
  · exact Or.inl rfl
  · right
    rcases h with h | h
    · rw [if_neg (by omega), if_pos h]
      exact ⟨_, _, rfl⟩
    · rw [if_neg (by omega), if_neg (by omega), if_neg (by omega), if_pos h]
      exact ⟨_, _, rfl⟩
theorem beh_next {c : Cfg} {B : List BK} {E : List EN} {H F : Int} {s : ByteArray} (ht : TabEq c B E) (hp : Pointed c) (h1 : 1 ≤ E.length) (hH : U64 H) (h : BehI E H E.length s F) :
    nextF (mkF c B) H < (mkF c B).length ∧ s = nameF B ((mkF c B).getD (nextF (mkF c B) H) (0, 0)).2 ∧ F = (((mkF c B).getD (nextF (mkF c B) H) (0, 0)).1 - H) % 18446744073709551616 := by
  have hl := ht.len
  rcases mk_points (B := B) hp with h0 | ⟨letter, each, hP⟩
  · rw [h0] at hl
    simp only [List.length_nil] at hl
    omega
  have hsrt : SrtE (mkF c B) := by rw [hP]; exact sortTo_srt _ _
  have hrg : ∀ x ∈ mkF c B, 0 ≤ x.1 ∧ x.1 < 18446744073709551616 := fun x hx => by
    rw [hP] at hx
    obtain ⟨i, hi, k, _, rfl⟩ := ((pointsF_spec c.key letter each B).1 x).1 hx
    exact hsh_range _ _ _ _
  obtain ⟨n1, n2, n3⟩ := next_least hsrt (by omega) hrg hH
  have hd : ∀ i, i < E.length → dE E H i = dist ((mkF c B).getD i (0, 0)).1 H := fun i hi => by
    unfold dE
    rw [List.getElem?_eq_getElem hi]
    show subW _ _ = _
    rw [(ht.at hi).1]
    rfl
  have hg : ∀ i (hi : i < (mkF c B).length), (mkF c B).getD i (0, 0) = (mkF c B)[i] := fun i hi => by
    rw [List.getD_eq_getElem?_getD, List.getElem?_eq_getElem hi]
    rfl
  rcases h with h | ⟨j, hj, -, hs, hF, hmin, hst⟩
  · omega
  have e : j = nextF (mkF c B) H := by
    refine least_unique (n := E.length) (d := dE E H) hj (by omega) hmin hst (fun i hi => ?_) (fun i hi => ?_)
    · rw [hd _ (by omega), hd _ hi, hg i (by omega)]
      exact n2 i (by omega)
    · rw [hd _ (by omega), hd _ (by omega), hg i (by omega)]
      exact n3 i (by omega) hi
  subst e
  exact ⟨n1, by rw [hs]; exact (ht.at hj).2, by rw [hF, hd _ hj]; rfl⟩
theorem own_ring {c : Cfg} {B : List BK} {k : ByteArray} (ha : c.alg = 2) (hne : 0 < (mkF c B).length) (hn : nextF (mkF c B) (hsh c.key 107 [] k) < (mkF c B).length) : ownerF c B k = (nameF B ((mkF c B).getD (nextF (mkF c B) (hsh c.key 107 [] k)) (0, 0)).2, 0) := by
  unfold ownerF findF
  rw [if_neg (by omega), if_neg (by omega), if_pos ha, List.getD_eq_getElem?_getD, List.getElem?_eq_getElem hn]
  rfl
theorem own_probes {c : Cfg} {B : List BK} {k : ByteArray} (ha : c.alg = 4) (hne : 0 < (mkF c B).length) (hn : (probeTo c (mkF c B) k c.probes.toNat).1 < (mkF c B).length) : ownerF c B k = (nameF B ((mkF c B).getD (probeTo c (mkF c B) k c.probes.toNat).1 (0, 0)).2, 0) := by
  unfold ownerF findF
  rw [if_neg (by omega), if_pos ha, List.getD_eq_getElem?_getD, List.getElem?_eq_getElem hn]
  rfl
theorem own_slot {c : Cfg} {B : List BK} {k : ByteArray} {m : Nat} (ha : c.alg ≠ 2 ∧ c.alg ≠ 4) (hm : (m : Int) = hsh c.key 107 [] k % (mkF c B).length) (hn : m < (mkF c B).length) : ownerF c B k = (nameF B ((mkF c B).getD m (0, 0)).2, 0) := by
  have e : (hsh c.key 107 [] k % ((mkF c B).length : Int)).toNat = m := by rw [← hm]; simp
  unfold ownerF findF
  rw [if_neg (by omega), if_neg ha.2, if_neg ha.1, e, List.getD_eq_getElem?_getD, List.getElem?_eq_getElem hn]
  rfl
theorem own_empty' {c : Cfg} {B : List BK} {k : ByteArray} (h : mkF c B = []) : ownerF c B k = (ByteArray.empty, 8) := by
  unfold ownerF
  rw [h]
  rfl
/-- the best probe of the first k, on both sides -/
def PrbIs (c : Cfg) (B : List BK) (key : ByteArray) (k : Nat) (s : ByteArray) (F : Int) : Prop := k = 0 ∨ (F = (probeTo c (mkF c B) key k).2 ∧ s = nameF B ((mkF c B).getD (probeTo c (mkF c B) key k).1 (0, 0)).2 ∧ (probeTo c (mkF c B) key k).1 < (mkF c B).length)
theorem probe_take {c : Cfg} {E : List EI} {k : ByteArray} {n : Nat} (h : n = 0 ∨ ((E.getD (nextF E (hsh c.key 112 [n] k)) (0, 0)).1 - hsh c.key 112 [n] k) % 18446744073709551616 < (probeTo c E k n).2) : probeTo c E k (n + 1) = (nextF E (hsh c.key 112 [n] k), ((E.getD (nextF E (hsh c.key 112 [n] k)) (0, 0)).1 - hsh c.key 112 [n] k) % 18446744073709551616) := by
  rw [probeTo]
  exact if_pos h
theorem probe_keep {c : Cfg} {E : List EI} {k : ByteArray} {n : Nat} (h : ¬ (n = 0 ∨ ((E.getD (nextF E (hsh c.key 112 [n] k)) (0, 0)).1 - hsh c.key 112 [n] k) % 18446744073709551616 < (probeTo c E k n).2)) : probeTo c E k (n + 1) = probeTo c E k n := by
  rw [probeTo]
  exact if_neg h
theorem PrbIs.take {c : Cfg} {B : List BK} {key : ByteArray} {k : Nat} {s s2 : ByteArray} {F D : Int} (h : PrbIs c B key k s F) (hn : nextF (mkF c B) (hsh c.key 112 [k] key) < (mkF c B).length) (hs : s2 = nameF B ((mkF c B).getD (nextF (mkF c B) (hsh c.key 112 [k] key)) (0, 0)).2) (hD : D = (((mkF c B).getD (nextF (mkF c B) (hsh c.key 112 [k] key)) (0, 0)).1 - hsh c.key 112 [k] key) % 18446744073709551616) (hl : k = 0 ∨ D < F) : PrbIs c B key (k + 1) s2 D := by
  have he := probe_take (c := c) (E := mkF c B) (k := key) (n := k) (by
    rcases h with h | ⟨h, -⟩
    · exact Or.inl h
    · rw [← hD, ← h]; exact hl)
  exact Or.inr ⟨by rw [he]; exact hD, by rw [he]; exact hs, by rw [he]; exact hn⟩
theorem PrbIs.keep {c : Cfg} {B : List BK} {key : ByteArray} {k : Nat} {s : ByteArray} {F D : Int} (h : PrbIs c B key k s F) (hD : D = (((mkF c B).getD (nextF (mkF c B) (hsh c.key 112 [k] key)) (0, 0)).1 - hsh c.key 112 [k] key) % 18446744073709551616) (h0 : k ≠ 0) (hl : F ≤ D) : PrbIs c B key (k + 1) s F := by
  rcases h with h | ⟨h1, h2, h3⟩
  · exact absurd h h0
  have he := probe_keep (c := c) (E := mkF c B) (k := key) (n := k) (by
    rw [← hD, ← h1]
    rintro (h | h)
    · exact h0 h
    · omega)
  exact Or.inr ⟨by rw [he]; exact h1, by rw [he]; exact h2, by rw [he]; exact h3⟩
theorem hsh_u64 (key : ByteArray) (letter : UInt8) (nums : List Nat) (t : ByteArray) : U64 (hsh key letter nums t) := hsh_range key letter nums t

set_option maxRecDepth 100000 in
set_option maxHeartbeats 3200000 in
theorem dchoose_is (p : Nat) (c : Cfg) (gen : Int) (B : List BK) (E : List EN) (key : ByteArray) (w : World) (h : StateAt w p c gen B E) (hok : StateOK c gen B E) (hI : ∀ x ∈ E, W32 x.2.1 ∧ W32 x.2.2) (hkey : key.size ≤ 1099511627000) (ht : TabEq c B E) :
    Calls Tryz.prog 58 #[.pointer (some ⟨p, 0, none⟩), .string key] w (RStrErr w (ownerF c B key)) := by
  have HTQ := Hid.mk ht
  obtain ⟨OW, hOW⟩ : ∃ X, X = ownerF c B key := ⟨_, rfl⟩
  rw [← hOW]
  have HOW := Hid.mk hOW
  clear hOW ht
  obtain ⟨CC, hCC⟩ : ∃ X, X = c := ⟨_, rfl⟩
  have HCC := Hid.mk hCC.symm
  rw [← hCC] at HTQ HOW
  have HKY : Hid (CC.key = c.key) := by show CC.key = _; rw [hCC]
  have HAL : Hid (CC.alg = c.alg) := by show CC.alg = _; rw [hCC]
  have HPB : Hid (CC.probes = c.probes) := by show CC.probes = _; rw [hCC]
  have HSL : Hid (CC.slots = c.slots) := by show CC.slots = _; rw [hCC]
  clear hCC HCC
  have h0 := h
  obtain ⟨vB, vE, ⟨c0, c1, c2, c3, c4, c5⟩, c6, c7, c8, hpB, hpE⟩ := h
  obtain ⟨hc, hg, hB, hE, hid, hsl⟩ := hok
  obtain ⟨k1, k2, k3, k4, -, k5, k6, k7, k8, k9, -, -⟩ := hc
  obtain ⟨ao, cap, rfl, hcE⟩ := hpE.off
  obtain ⟨alg, slots, points, probes, ckey, formats⟩ := c
  simp only at c0 c1 c2 c3 c4 c5 k1 k2 k3 k4 k5 k6 k7 k8 k9 hsl HKY HAL HPB HSL
  by_cases hE0 : E = []
  · subst hE0
    have hOE : Hid (OW = (ByteArray.empty, 8)) := by
      show OW = _
      rw [HOW.out]
      exact own_empty' (List.eq_nil_of_length_eq_zero (by have := HTQ.out.len; simpa using this.symm))
    obtain ⟨o1, o2⟩ := OW
    have ho1 : o1 = ByteArray.empty := (Prod.mk.inj hOE.out).1
    have ho2 : o2 = 8 := (Prod.mk.inj hOE.out).2
    subst ho1 ho2
    clear hOE HOW HTQ
    go_enter Tryz.func58, Tryz.ntmps58
    go_wp2
    go_ret2
    exact ⟨rfl, by (repeat (first | exact Bel.refl _ | assumption | refine Bel.step_alloc ?_ _ | refine Bel.step_drew ?_ | refine Bel.step_drewN ?_ _ | refine Bel.step_set ?_ (by simp <;> omega) _ | refine Bel.trans ?_ (by assumption)))⟩
  · have hEl : 1 ≤ E.length := by
      rcases Nat.lt_or_ge 0 E.length with h | h
      · exact h
      · exact absurd (List.eq_nil_of_length_eq_zero (by omega)) hE0
    have hE0' : ((E.length : Int) == 0) = false := by rw [beq_eq_false_iff_ne]; omega
    by_cases ha2 : alg = 2
    · subst ha2
      go_enter Tryz.func58, Tryz.ntmps58
      go_wp2_with fail
      refine (whash_is ckey _ _ k9 (by rw [ByteArray.size_append, show (({ data := #[107] } : ByteArray)).size = 1 from rfl]; omega)).mono ?_
      rintro e w1 ⟨x, y, rfl, hb1, hx, hy, ez⟩
      have EZ : Hid (wv x y = hsh CC.key 107 [] key) := by
        have ez' : wv x y = sipSum ckey (⟨#[107]⟩ ++ key) := ez
        show wv x y = _
        rw [ez', HKY.out]
        exact hsh0 ckey 107 key
      clear ez
      go_wp2_with fail
      refine (dbehind_is p _ gen B E x y _ (h0.later (by (repeat (first | exact Bel.refl _ | assumption | refine Bel.step_alloc ?_ _ | refine Bel.step_drew ?_ | refine Bel.step_drewN ?_ _ | refine Bel.step_set ?_ (by simp <;> omega) _ | refine Bel.trans ?_ (by assumption))))) hE hI hx hy).mono ?_
      rintro e w2 ⟨s, x2, y2, rfl, hb2, -, -, hbeh⟩
      have HOE : Hid (OW = (s, 0)) := by
        show OW = _
        rw [EZ.out] at hbeh
        obtain ⟨n1, n2, n3⟩ := beh_next HTQ.out (Or.inl HAL.out) hEl (hsh_u64 _ _ _ _) hbeh
        rw [HOW.out, own_ring HAL.out (by have := HTQ.out.len; omega) n1, n2]
      clear hbeh
      obtain ⟨o1, o2⟩ := OW
      have ho1 : o1 = s := (Prod.mk.inj HOE.out).1
      have ho2 : o2 = 0 := (Prod.mk.inj HOE.out).2
      subst ho1 ho2
      clear HOE HOW
      go_wp2
      go_ret2
      exact ⟨rfl, by (repeat (first | exact Bel.refl _ | assumption | refine Bel.step_alloc ?_ _ | refine Bel.step_drew ?_ | refine Bel.step_drewN ?_ _ | refine Bel.step_set ?_ (by simp <;> omega) _ | refine Bel.trans ?_ (by assumption)))⟩
    · by_cases ha4 : alg = 4
      · subst ha4
        clear hsl
        go_enter Tryz.func58, Tryz.ntmps58
        go_wp2_with fail
        go_loopg [9, 11] probes.toNat (fun r b i wr => ∃ (s : ByteArray) (k : Nat) (F : Int), r = probes.toNat - k ∧ (k : Int) ≤ probes ∧ b = .string s ∧ i = .int .i64 k ∧ StE w [(.pointer (some ⟨w.heap.size, 0, none⟩), F)] wr ∧ PrbIs CC B key k s F)
        case atStart => exact ⟨_, 0, 0, by omega, by omega, rfl, rfl, (StE.nil w).more (Bel.step_alloc (Bel.refl _) _) (BoxV.new (Nat.le_refl _) W32_zero W32_zero rfl _) (Nat.le_refl _), Or.inl rfl⟩
        case round =>
          obtain ⟨s, k, F, hr, hkp, rfl, rfl, hbx, hprb⟩ := hrel
          have HPR := Hid.mk hprb
          clear hprb
          have d3 := hbx.1.cell c3
          have d4 := hbx.1.cell c4
          by_cases hlt : (k : Int) < probes
          · go_wp2_with fail
            refine (ones_is _ 2 _ (by omega) (by omega) (by decide)).mono ?_
            rintro e w1 ⟨a, rfl, hb1, ha⟩
            have HA : Hid (a = onesF k 2) := ha
            have ha2 : a.size = 2 := by rw [HA.out, ones2]; rfl
            clear ha
            have e4 := hb1.cell d4
            go_wp2_with fail
            refine (whash_is ckey _ _ k9 (by simp only [ByteArray.size_append, show (({ data := #[112] } : ByteArray)).size = 1 from rfl]; omega)).mono ?_
            rintro e w2 ⟨x, y, rfl, hb2, hx, hy, ez⟩
            have EZ : Hid (wv x y = hsh CC.key 112 [k] key) := by
              have ez' : wv x y = sipSum ckey ((⟨#[112]⟩ ++ a) ++ key) := ez
              show wv x y = _
              rw [ez', HA.out, HKY.out]
              exact hsh1 ckey 112 k key
            clear ez
            have hB2 : Bel wr w2 := by (repeat (first | exact Bel.refl _ | assumption | refine Bel.step_alloc ?_ _ | refine Bel.step_drew ?_ | refine Bel.step_drewN ?_ _ | refine Bel.step_set ?_ (by simp <;> omega) _ | refine Bel.trans ?_ (by assumption)))
            go_wp2_with fail
            refine (dbehind_is p _ gen B E x y _ (h0.later (hbx.1.trans (by (repeat (first | exact Bel.refl _ | assumption | refine Bel.step_alloc ?_ _ | refine Bel.step_drew ?_ | refine Bel.step_drewN ?_ _ | refine Bel.step_set ?_ (by simp <;> omega) _ | refine Bel.trans ?_ (by assumption)))))) hE hI hx hy).mono ?_
            rintro e w3 ⟨s2, x2, y2, rfl, hb3, hx2, hy2, hbeh⟩
            have HBN : Hid (nextF (mkF CC B) (hsh CC.key 112 [k] key) < (mkF CC B).length ∧ s2 = nameF B ((mkF CC B).getD (nextF (mkF CC B) (hsh CC.key 112 [k] key)) (0, 0)).2 ∧ wv x2 y2 = (((mkF CC B).getD (nextF (mkF CC B) (hsh CC.key 112 [k] key)) (0, 0)).1 - hsh CC.key 112 [k] key) % 18446744073709551616) := by
              rw [EZ.out] at hbeh
              exact beh_next HTQ.out (Or.inr HAL.out) hEl (hsh_u64 _ _ _ _) hbeh
            clear hbeh
            have hB3 : Bel wr w3 := by (repeat (first | exact Bel.refl _ | assumption | refine Bel.step_alloc ?_ _ | refine Bel.step_drew ?_ | refine Bel.step_drewN ?_ _ | refine Bel.step_set ?_ (by simp <;> omega) _ | refine Bel.trans ?_ (by assumption)))
            have hbx3 := hbx.later hB3
            obtain ⟨p10, x10, y10, E10, hp10, c100, c101, f100, f101, hx10, hy10, hv10⟩ := hbx3.2.1 (.pointer (some ⟨w.heap.size, 0, none⟩), F) (by simp)
            simp only at hv10
            have HV10 := Hid.mk hv10
            clear hv10
            simp only [Value.pointer.injEq, Option.some.injEq, Addr.mk.injEq, and_true] at E10
            subst E10
            have hlt3 : w.heap.size < w3.heap.size := World.block_lt_of_cell? w3 ⟨w.heap.size, 0, none⟩ c100
            go_wp2_with fail
            refine (wbelow_is _ _ _ _ _ hx2 hy2 hx10 hy10).mono ?_
            rintro e w4 ⟨less, rfl, hb4, hless⟩
            have HLS : Hid (IsB (wv x2 y2 < F) less) := by
              show IsB _ _
              rw [← HV10.out]
              exact hless
            clear hless
            have hB4 : Bel w3 w4 := by (repeat (first | exact Bel.refl _ | assumption | refine Bel.step_alloc ?_ _ | refine Bel.step_drew ?_ | refine Bel.step_drewN ?_ _ | refine Bel.step_set ?_ (by simp <;> omega) _ | refine Bel.trans ?_ (by assumption)))
            have d100 := hB4.cell c100
            have d101 := hB4.cell c101
            have e100 := hB4.frozen c100 f100
            have e101 := hB4.frozen c101 f101
            have q0 : w4.cell? ⟨w3.heap.size, 0, none⟩ = some (.int .i64 x2) := hb4.cell (by simp)
            have q1 : w4.cell? ⟨w3.heap.size, 1, none⟩ = some (.int .i64 y2) := hb4.cell (by simp)
            have hbx4 := hbx3.later hB4
            by_cases hd : k = 0 ∨ wv x2 y2 < F
            · have HB2 : Hid (PrbIs CC B key (k + 1) s2 (wv x2 y2)) := HPR.out.take HBN.out.1 HBN.out.2.1 HBN.out.2.2 hd
              have hkl : ((k : Int) == 0) = true ∨ (((k : Int) == 0) = false ∧ less = true) := by
                by_cases h0 : k = 0
                · exact Or.inl (by rw [h0]; rfl)
                · exact Or.inr ⟨by rw [beq_eq_false_iff_ne]; omega, HLS.out.2 (hd.resolve_left h0)⟩
              clear HLS HBN HPR
              rcases hkl with hk0 | ⟨hk0, rfl⟩
              all_goals
                go_wp2_with fail
                go_roundg (probes.toNat - (k + 1))
                case measure => omega
                case rel => exact ⟨_, k + 1, wv x2 y2, rfl, by omega, rfl, by go_num, hbx4.put (Bel.refl _) 0 rfl hx2 hy2 rfl, HB2.out⟩
            · have h0 : k ≠ 0 := fun e => hd (Or.inl e)
              have hnl : F ≤ wv x2 y2 := by
                rcases Int.lt_or_le (wv x2 y2) F with e | e
                · exact absurd (Or.inr e) hd
                · exact e
              have HB2 : Hid (PrbIs CC B key (k + 1) s F) := HPR.out.keep HBN.out.2.2 h0 hnl
              have hk0 : ((k : Int) == 0) = false := by rw [beq_eq_false_iff_ne]; omega
              have hle : less = false := by
                cases less
                · rfl
                · have := HLS.out.1 rfl
                  omega
              subst hle
              clear HLS HBN HPR hd hnl
              go_wp2_with fail
              go_roundg (probes.toNat - (k + 1))
              case measure => omega
              case rel => exact ⟨_, k + 1, F, rfl, by omega, rfl, by go_num, hbx4, HB2.out⟩
          · have HOE : Hid (OW = (s, 0)) := by
              show OW = _
              rcases HPR.out with h | ⟨h1, h2, h3⟩
              · omega
              · have hkk : k = CC.probes.toNat := by rw [HPB.out]; omega
                rw [hkk] at h2 h3
                rw [HOW.out, own_probes HAL.out (by have := HTQ.out.len; omega) h3, h2]
            obtain ⟨o1, o2⟩ := OW
            have ho1 : o1 = s := (Prod.mk.inj HOE.out).1
            have ho2 : o2 = 0 := (Prod.mk.inj HOE.out).2
            subst ho1 ho2
            clear HOE HOW HPR
            go_wp2
            go_ret2
            exact ⟨rfl, hbx.1⟩
      · have hEs : (E.length : Int) = slots := by
          rcases hsl (fun h => by rcases h with h | h; exact ha2 h; exact ha4 h) with h | h
          · exact absurd h hE0
          · exact h
        have ha2' : (alg == 2) = false := by simpa using ha2
        have ha4' : (alg == 4) = false := by simpa using ha4
        obtain ⟨g, off, rfl, hids⟩ := EntsOff.ids (cap := cap) hcE hEl rfl
        have HEs : Hid ((E.length : Int) = slots) := hEs
        clear hEs hsl
        go_enter Tryz.func58, Tryz.ntmps58
        go_wp2_with fail
        refine (whash_is ckey _ _ k9 (by rw [ByteArray.size_append, show (({ data := #[107] } : ByteArray)).size = 1 from rfl]; omega)).mono ?_
        rintro e w1 ⟨x, y, rfl, hb1, hx, hy, ez⟩
        have EZ : Hid (wv x y = hsh CC.key 107 [] key) := by
          have ez' : wv x y = sipSum ckey (⟨#[107]⟩ ++ key) := ez
          show wv x y = _
          rw [ez', HKY.out]
          exact hsh0 ckey 107 key
        clear ez
        have hBB : Bel w (w1.alloc (.cells #[.int .i64 x, .int .i64 y] 129)) := by (repeat (first | exact Bel.refl _ | assumption | refine Bel.step_alloc ?_ _ | refine Bel.step_drew ?_ | refine Bel.step_drewN ?_ _ | refine Bel.step_set ?_ (by simp <;> omega) _ | refine Bel.trans ?_ (by assumption)))
        have d8 := hBB.cell c8
        have d1 := hBB.cell c1
        have dids := fun j hj => hBB.cell (hids j hj)
        have q0 : (w1.alloc (.cells #[.int .i64 x, .int .i64 y] 129)).cell? ⟨w1.heap.size, 0, none⟩ = some (.int .i64 x) := by simp
        have q1 : (w1.alloc (.cells #[.int .i64 x, .int .i64 y] 129)).cell? ⟨w1.heap.size, 1, none⟩ = some (.int .i64 y) := by simp
        go_upto_region 23 with fail
        generalize (w1.alloc (.cells #[.int .i64 x, .int .i64 y] 129)) = w2 at *
        go_region_held3 (fun w' => Bel w2 w' ∧ w'.cell? ⟨p, 8, none⟩ = some (.slice (some ⟨g, off, none⟩) E.length cap) ∧ w'.cell? ⟨p, 1, none⟩ = some (.int .i64 slots) ∧ w'.cell? ⟨w1.heap.size, 0, none⟩ = some (.int .i64 x) ∧ w'.cell? ⟨w1.heap.size, 1, none⟩ = some (.int .i64 y) ∧ ∀ j, j < E.length → w'.cell? ⟨g, off + j * 3, none⟩ = some (.string (idAt E j))) ((refine keep5i ?_ d8 d1 q0 q1 dids; (repeat (first | exact Bel.refl _ | assumption | refine Bel.step_alloc ?_ _ | refine Bel.step_drew ?_ | refine Bel.step_drewN ?_ _ | refine Bel.step_set ?_ (by simp <;> omega) _ | refine Bel.trans ?_ (by assumption))))) ((go_at_call 96; refine (wover_is _ _ _ _ hx hy (by omega) (by omega)).mono ?_; rintro e w3 ⟨r, rfl, hb3, hro⟩; have hro' : r = wv x y % slots := hro; have hr1 : 0 ≤ r := (by rw [hro']; exact Int.emod_nonneg _ (by omega)); have hr2 : r < slots := (by rw [hro']; exact Int.emod_lt_of_pos _ (by omega)); obtain ⟨m, rfl⟩ := Int.eq_ofNat_of_zero_le hr1; have HRO := Hid.mk hro'; clear hro hro'; have hm : m < E.length := (by have := HEs.out; omega)))
        all_goals
          have HOE : Hid (OW = (idAt E m, 0)) := by
            show OW = _
            have hl := HTQ.out.len
            rw [HOW.out, own_slot (m := m) ⟨by rw [HAL.out]; exact ha2, by rw [HAL.out]; exact ha4⟩ (by rw [← hl, HEs.out, ← EZ.out]; exact HRO.out) (by omega), ← (HTQ.out.at hm).2]
            unfold idAt
            rw [List.getElem?_eq_getElem hm]
            rfl
          obtain ⟨o1, o2⟩ := OW
          have ho1 : o1 = idAt E m := (Prod.mk.inj HOE.out).1
          have ho2 : o2 = 0 := (Prod.mk.inj HOE.out).2
          subst ho1 ho2
          clear HOE HOW HRO
          go_wp2
          go_ret2
          exact ⟨rfl, hBB.trans (by (repeat (first | exact Bel.refl _ | assumption | refine Bel.step_alloc ?_ _ | refine Bel.step_drew ?_ | refine Bel.step_drewN ?_ _ | refine Bel.step_set ?_ (by simp <;> omega) _ | refine Bel.trans ?_ (by assumption))))⟩

end Go.Proofs.YtgfildmmcbjpnabGreat

namespace Go.Proofs.YtgfildmmcbjpnabGreat
open Go.RowKit

set_option maxRecDepth 100000 in
set_option maxHeartbeats 1000000 in
theorem tables_local (W0 : Base) (s : Nat) (x : WG) (k : Nat) (hk : k < x.prs.length) (A B C : Int) (S : ByteArray) (w : World) (h : WInv W0 s x w) (hS : S.size ≤ 65536) :
    Calls Tryz.prog 27 #[.pointer (some ⟨x.p, 0, none⟩), .pointer (some ⟨(x.prs[k]).a, 0, none⟩), opv 10 A B C S] w (RYes W0 x.p (s + 1)) := by
  have hat := h.pair_at k hk
  have hmk := lmkF_len (x.prs[k]).c (x.prs[k]).B hat.2.2.2.2.1 hat.2.2.2.1.1
  have hlo := fun wx (b : Bel w wx) => local_is x.M (x.prs[k]).q (x.prs[k]).c (x.prs[k]).B (x.prs[k]).g S wx (hat.2.1.later b) hmk hat.2.2.2.2.1 (by omega)
  have H2 : Hid (∀ wx, Bel w wx → RYes W0 x.p (s + 1) (.returned (.bool true)) wx) := fun wx hb => ⟨rfl, x, (h.later hb).up (by omega), rfl⟩
  have hcase := slots_same hat
  generalize x.M = M0 at *
  generalize x.prs[k] = y at *
  generalize x.p = p at *
  have c0 := hat.1.1 0 _ rfl
  have c8 := hat.1.1 8 _ rfl
  have hal := World.block_lt_of_cell? w _ c0
  simp only at hal
  clear hat h hmk
  unfold opv
  obtain ⟨LO, hLO⟩ : ∃ X, X = localF y.c y.B y.g S := ⟨_, rfl⟩
  rw [← hLO] at hlo
  have HLO := Hid.mk hLO
  clear hLO
  obtain ⟨l1, l2⟩ := LO
  unfold RStrErr at hlo
  simp only at hlo
  go_enter Tryz.func27, Tryz.ntmps27
  go_wp2_with fail
  obtain ⟨wo, hwo, hbo, o0, o1, o2, o3, o4⟩ := op_box w (.int .i64 10) (.int .i64 A) (.int .i64 B) (.int .i64 C) (.string S) 28
  rw [hwo]
  clear hwo
  have k0 := hbo.cell c0
  have k8 := hbo.cell c8
  generalize w.heap.size = po at o0 o1 o2 o3 o4 ⊢
  go_region_held3 (fun w' => Bel wo w' ∧ w'.cell? ⟨y.a, 0, none⟩ = some (.pointer (some ⟨y.q, 0, none⟩)) ∧ w'.cell? ⟨po, 4, none⟩ = some (.string S)) ((exact ⟨by (repeat (first | exact Bel.refl _ | assumption | refine Bel.step_alloc ?_ _ | refine Bel.step_drew ?_ | refine Bel.step_drewN ?_ _ | refine Bel.step_set ?_ (by simp <;> omega) _ | refine Bel.trans ?_ (by assumption))), Bel.cell (a := wo) (by (repeat (first | exact Bel.refl _ | assumption | refine Bel.step_alloc ?_ _ | refine Bel.step_drew ?_ | refine Bel.step_drewN ?_ _ | refine Bel.step_set ?_ (by simp <;> omega) _ | refine Bel.trans ?_ (by assumption)))) k0, Bel.cell (a := wo) (by (repeat (first | exact Bel.refl _ | assumption | refine Bel.step_alloc ?_ _ | refine Bel.step_drew ?_ | refine Bel.step_drewN ?_ _ | refine Bel.step_set ?_ (by simp <;> omega) _ | refine Bel.trans ?_ (by assumption)))) o4⟩)) ((go_at_call 57; refine (hlo _ (by (repeat (first | exact Bel.refl _ | assumption | refine Bel.step_alloc ?_ _ | refine Bel.step_drew ?_ | refine Bel.step_drewN ?_ _ | refine Bel.step_set ?_ (by simp <;> omega) _ | refine Bel.trans ?_ (by assumption))))).mono ?_; rintro e w1 ⟨rfl, hb1⟩))
  have hbo1 : Bel wo w1 := by (repeat (first | exact Bel.refl _ | assumption | refine Bel.step_alloc ?_ _ | refine Bel.step_drew ?_ | refine Bel.step_drewN ?_ _ | refine Bel.step_set ?_ (by simp <;> omega) _ | refine Bel.trans ?_ (by assumption)))
  have hbw1 : Bel w w1 := hbo.trans hbo1
  have m8 := hbo1.cell k8
  have m4 := hbo1.cell o4
  clear o0 o1 o2 o3 o4 k0 k8 c0 c8 hlo hb1 hbo hbo1
  rcases hcase with ⟨hv, hg, -⟩ | ⟨q, E, hv, hst, hok, hW, hte, hg⟩
  · rw [hv] at m8
    have hl : (l1, l2) = (ByteArray.empty, (7 : Int)) := by rw [HLO.out, localF, if_pos hg]
    obtain ⟨rfl, rfl⟩ := Prod.mk.inj hl
    clear HLO hl
    go_wp2
    go_ret
    exact H2.out _ (by (repeat (first | exact Bel.refl _ | assumption | refine Bel.step_alloc ?_ _ | refine Bel.step_drew ?_ | refine Bel.step_drewN ?_ _ | refine Bel.step_set ?_ (by simp <;> omega) _ | refine Bel.trans ?_ (by assumption))))
  · rw [hv] at m8
    have hl : (l1, l2) = ownerF y.c y.B S := by rw [HLO.out, localF, if_neg hg]
    have hch := fun wx (b : Bel w1 wx) => dchoose_is q y.c y.g y.B E S wx (hst.later (hbw1.trans b)) hok hW (by omega) hte
    rw [← hl] at hch
    unfold RStrErr at hch
    simp only at hch
    have hl1 : (l1.toList == l1.toList) = true := str_eq.2 rfl
    clear HLO hl hst hok hW hte
    go_wp2_with fail
    go_region_held3 (fun w' => Bel w1 w' ∧ w'.cell? ⟨y.a, 8, none⟩ = some (.pointer (some ⟨q, 0, none⟩)) ∧ w'.cell? ⟨po, 4, none⟩ = some (.string S)) ((exact ⟨by (repeat (first | exact Bel.refl _ | assumption | refine Bel.step_alloc ?_ _ | refine Bel.step_drew ?_ | refine Bel.step_drewN ?_ _ | refine Bel.step_set ?_ (by simp <;> omega) _ | refine Bel.trans ?_ (by assumption))), Bel.cell (a := w1) (by (repeat (first | exact Bel.refl _ | assumption | refine Bel.step_alloc ?_ _ | refine Bel.step_drew ?_ | refine Bel.step_drewN ?_ _ | refine Bel.step_set ?_ (by simp <;> omega) _ | refine Bel.trans ?_ (by assumption)))) m8, Bel.cell (a := w1) (by (repeat (first | exact Bel.refl _ | assumption | refine Bel.step_alloc ?_ _ | refine Bel.step_drew ?_ | refine Bel.step_drewN ?_ _ | refine Bel.step_set ?_ (by simp <;> omega) _ | refine Bel.trans ?_ (by assumption)))) m4⟩)) ((go_at_call 58; refine (hch _ (by (repeat (first | exact Bel.refl _ | assumption | refine Bel.step_alloc ?_ _ | refine Bel.step_drew ?_ | refine Bel.step_drewN ?_ _ | refine Bel.step_set ?_ (by simp <;> omega) _ | refine Bel.trans ?_ (by assumption))))).mono ?_; rintro e w3 ⟨rfl, hb3⟩))
    have hb13 : Bel w1 w3 := by (repeat (first | exact Bel.refl _ | assumption | refine Bel.step_alloc ?_ _ | refine Bel.step_drew ?_ | refine Bel.step_drewN ?_ _ | refine Bel.step_set ?_ (by simp <;> omega) _ | refine Bel.trans ?_ (by assumption)))
    clear hch m8 m4
    go_wp2
    go_ret
    exact H2.out _ (hbw1.trans hb13)

end Go.Proofs.YtgfildmmcbjpnabGreat

namespace Go.Proofs.YtgfildmmcbjpnabGreat
open Go.RowKit

theorem Tryz.infoPln : (Tryz.prog.info? 100).map (fun i => (i.zero, i.size, i.bytes)) = some (some (.pointer none), 1, 8) := by kernel_rfl
theorem DPre.unchanged {base : Nat} {M : List Nat} {y : PrG} {w w' : World} (h : DPre base M y w) (b : Bel w w') : RPr base M y w w' := by
  refine ⟨y, [], But.of_bel b, by simp, rfl, h.2.2.2.1, fun j hj => ⟨Or.inl hj, Nat.lt_of_lt_of_le (h.2.1 j (h.2.2.1 j hj)) b.size⟩, ?_, by omega⟩
  exact (h.1.app (fun j hj => Or.inl (h.2.2.1 j hj))).but (N := []) (But.of_bel b) (by simp) (by simp)
/-- a service was asked; a bool was answered -/
def RPrB (base : Nat) (M : List Nat) (y : PrG) (w : World) (e : Ending) (w' : World) : Prop := ∃ b : Bool, e = .returned (.bool b) ∧ RPr base M y w w'

set_option maxRecDepth 100000 in
set_option maxHeartbeats 1000000 in
theorem ljoins_is (base : Nat) (M : List Nat) (y : PrG) (f : Int) (w : World) (h : DPre base M y w) (hb : base ≤ w.heap.size) :
    Calls Tryz.prog 28 #[.pointer (some ⟨y.a, 0, none⟩), .int .i64 f] w (RPrB base M y w) := by
  obtain ⟨i0, hi, hz0, hz1, hz2⟩ := info_parts Tryz.infoPln
  have c0 := h.1.1.1 0 _ rfl
  have c9 := h.1.1.1 9 _ rfl
  have f9 := h.1.1.2 9 (by simp [PrG.cells])
  have hrow := h.1.2.2.2.2.2.2.2.1
  have hlen := h.1.2.2.2.2.2.2.2.2.1
  have hle := h.le y.a
  have h1a := one_count y.a
  have hpA : y.a ∉ y.vp.ownBlock.toList := fun e => by
    have := lcount_mem.1 e
    omega
  have HD := Hid.mk h
  obtain ⟨ao, cap, hv⟩ := own_slice hrow
  have HR := Hid.mk hrow
  have hal := h.mem.2.2.1
  have hend : ∀ wx (b : Bool), Bel w wx → Hid (RPrB base M y w (.returned (.bool b)) wx) := fun wx b hb => ⟨b, rfl, HD.out.unchanged hb⟩
  have hjn := fun wx => ljoin_is (.pointer (some ⟨y.q, 0, none⟩)) (.int .i64 f) wx
  clear h hrow hle h1a
  by_cases hf : f < 1 ∨ 3 < f
  · have hfb : (decide (f < 1) || decide (3 < f)) = true := by simpa using hf
    go_enter Tryz.func28, Tryz.ntmps28
    go_wp2_with fail
    refine (hjn _).mono ?_
    rintro e w1 ⟨rfl, rfl⟩
    go_wp2
    all_goals
      go_ret
      exact (hend _ _ (by (repeat (first | exact Bel.refl _ | assumption | refine Bel.step_alloc ?_ _ | refine Bel.step_drew ?_ | refine Bel.step_drewN ?_ _ | refine Bel.step_set ?_ (by simp <;> omega) _ | refine Bel.trans ?_ (by assumption))))).out
  · have hfb : (decide (f < 1) || decide (3 < f)) = false := by simpa using hf
    by_cases h4 : y.ps.length = 4
    · rw [hv, h4] at c9
      go_enter Tryz.func28, Tryz.ntmps28
      go_wp2_with fail
      refine (hjn _).mono ?_
      rintro e w1 ⟨rfl, rfl⟩
      go_wp2
      go_ret
      exact (hend _ _ (by (repeat (first | exact Bel.refl _ | assumption | refine Bel.step_alloc ?_ _ | refine Bel.step_drew ?_ | refine Bel.step_drewN ?_ _ | refine Bel.step_set ?_ (by simp <;> omega) _ | refine Bel.trans ?_ (by assumption))))).out
    · have h4b : ((y.ps.length : Int) == 4) = false := by rw [beq_eq_false_iff_ne]; omega
      have hf3 : 0 ≤ f ∧ f ≤ 3 := by omega
      have hpl : ∀ wx, Bel (w.alloc (.cells #[.int .i64 f, .pointer none, .int .i64 0, .int .i64 0, .slice none 0 0, .bool false] 102)) wx → PlaneAt wx w.heap.size f (.pointer none) 0 0 (.slice none 0 0) false := fun wx b => PlaneAt.later ⟨⟨by simp, by simp, by simp, by simp, by simp, by simp⟩, fun j => by simp⟩ b
      have HPL := Hid.mk hpl
      have HV := Hid.mk hv
      clear hpl hend
      rw [hv] at c9
      go_enter Tryz.func28, Tryz.ntmps28
      go_wp2_with fail
      refine (hjn _).mono ?_
      rintro e w1 ⟨rfl, rfl⟩
      clear hjn
      go_wp2_with (first | (at_builtin; refine wpList_append_lies _ rfl _ _ 61 rfl base 100 i0 (.pointer none) 1 8 Tryz.underlying61 hi hz0 hz1 hz2 rfl (by decide) _ y.ps.length (y.ps.map fun z => Value.pointer (some ⟨z.p, 0, none⟩)) rfl ?p1 ⟨w.heap.size + 1, 0, none⟩ 1 1 [.pointer (some ⟨w.heap.size, 0, none⟩)] rfl rfl ?d1 ?d2 (by decide) ?d3 ?d4 ?d5 _ rfl ?_))
      case p1 => rw [← HV.out]; exact World.ownsRow.alloc (World.ownsRow.alloc HR.out _) _
      try (case d1 => exact one_new _ _ _ _ (by simp))
      case d2 => first | rfl | (intro u hu; simp at hu; subst hu; rfl)
      case d3 => unfold maxLen; omega
      case d4 => omega
      case d5 => first | omega | (simp; omega)
      intro g cap3 w3 hown3 hgrow3 hat3 hlt3
      rw [← HV.out] at hgrow3 hat3
      have b1 := (Bel.step_alloc (Bel.step_alloc (Bel.refl w) (.cells #[.int .i64 f, .pointer none, .int .i64 0, .int .i64 0, .slice none 0 0, .bool false] 102)) (.cells #[.pointer (some ⟨w.heap.size, 0, none⟩)] 100))
      have HP1 := Hid.mk (HPL.out _ (Bel.step_alloc (Bel.refl _) (.cells #[.pointer (some ⟨w.heap.size, 0, none⟩)] 100)))
      have b3 := lgrown_but hgrow3
      have b13 : But y.vp.ownBlock.toList w w3 := (But.of_bel b1).trans b3
      have x9 := b13.cell c9 hpA
      have y9 := b13.frozen c9 hpA f9
      have HJ : Hid (RPr base M y w (w3.setCell ⟨y.a, 9, none⟩ (.slice (some ⟨g, 0, none⟩) (y.ps.length + 1) cap3))) := HD.out.join b1 (Nat.le_refl _) (by simp; omega) HP1.out hf3 b3 hown3 (hat3.imp id (fun e => by simp at e ⊢; omega)) (by omega)
      clear hown3 hgrow3 hat3 HP1 HPL HD HR HV
      go_wp2
      all_goals
        go_ret
        exact ⟨_, rfl, HJ.out⟩

end Go.Proofs.YtgfildmmcbjpnabGreat

namespace Go.Proofs.YtgfildmmcbjpnabGreat
open Go.RowKit

theorem Tryz.uC : Tryz.prog.underlying 30 = some (.struct (Tryz.prog.fieldsOf 30)) := by kernel_rfl
theorem Tryz.sC : Tryz.prog.stoodInHeld 30 = false := by kernel_rfl
/-- are two configurations not the same? -/
def cfgNe (c d : Cfg) : Bool := !(c.alg == d.alg && (c.slots == d.slots && (c.points == d.points && (c.probes == d.probes && (c.key.toList == d.key.toList && c.formats == d.formats)))))
theorem neq_cfg (c d : Cfg) (w : World) : (binOp .neq 30 (.agg #[.int .i64 c.alg, .int .i64 c.slots, .int .i64 c.points, .int .i64 c.probes, .string c.key, .int .i64 c.formats]) (.agg #[.int .i64 d.alg, .int .i64 d.slots, .int .i64 d.points, .int .i64 d.probes, .string d.key, .int .i64 d.formats])).run Tryz.prog w = .ok (.bool (cfgNe c d)) w := by
  rw [run_neq_struct, run_equalIn_struct w 9999 _ _ _ Tryz.uC Tryz.sC]
  unfold cfgNe
  simp [go_sem]
  by_cases h1 : c.alg = d.alg <;> by_cases h2 : c.slots = d.slots <;> by_cases h3 : c.points = d.points <;> by_cases h4 : c.probes = d.probes <;> by_cases h5 : c.key.toList = d.key.toList <;> by_cases h6 : c.formats = d.formats <;> simp [h1, h2, h3, h4, h5, h6]

end Go.Proofs.YtgfildmmcbjpnabGreat
