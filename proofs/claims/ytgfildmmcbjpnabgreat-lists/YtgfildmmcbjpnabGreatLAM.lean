import Derived.Test.YtgfildmmcbjpnabGreatLAA
import Derived.Test.YtgfildmmcbjpnabGreatLAL
import Derived.Laws.AppendOwnNone
namespace Go.Proofs.YtgfildmmcbjpnabGreat
open Go.RowKit

theorem ints_two (w : World) (a b : Nat) : IntsAt (w.alloc (.cells #[.int .i64 (a : Int), .int .i64 (b : Int)] 3)) (.slice (some ⟨w.heap.size, 0, none⟩) 2 2) [a, b] := by
  refine Or.inr ⟨w.heap.size, 2, rfl, by simp, by simp, fun j u hu => ?_⟩
  have hl := (List.getElem?_eq_some_iff.1 hu).1
  simp at hl
  rcases (show j = 0 ∨ j = 1 by omega) with rfl | rfl
  · simp at hu; subst hu; simp
  · simp at hu; subst hu; simp
theorem ints_one (w : World) (a : Nat) : IntsAt (w.alloc (.cells #[.int .i64 (a : Int)] 3)) (.slice (some ⟨w.heap.size, 0, none⟩) 1 1) [a] := by
  refine Or.inr ⟨w.heap.size, 1, rfl, by simp, by simp, fun j u hu => ?_⟩
  have hl := (List.getElem?_eq_some_iff.1 hu).1
  simp at hl
  rcases (show j = 0 by omega) with rfl
  simp at hu; subst hu; simp

set_option maxRecDepth 100000 in
set_option maxHeartbeats 800000 in
theorem winner_is (key : ByteArray) (s : Nat) (B : List BK) (v : Value) (w : World) (hP : PoolAt w v B) (hB : PoolOK B) (hk : key.size = 16) :
    Calls Tryz.prog 102 #[.string key, .int .i64 s, v] w (RSum w (winnerF key B s)) := by
  obtain ⟨h8, hall⟩ := hB
  obtain ⟨ao, cap, rfl, hcell⟩ := hP.open
  obtain ⟨X, hX⟩ : ∃ X, X = winnerF key B s := ⟨_, rfl⟩
  rw [← hX]
  rw [winnerF] at hX
  have HX := Hid.mk hX
  clear hX
  have hstep : ∀ i (h : i < B.length), winnerTo key s B (i + 1) = winTo key s i B[i].1 (winnerTo key s B i) B[i].2.toNat := fun i h => by
    rw [winnerTo, List.getElem?_eq_getElem h]
  have h0 : winnerTo key s B 0 = (-1, 0) := rfl
  generalize winnerTo key s B = wt at *
  go_enter Tryz.func102, Tryz.ntmps102
  go_wp2
  go_loopg [7, 8, 15] B.length (fun r vb vm n wr => Bel w wr ∧ ∃ k : Nat, r = B.length - k ∧ k ≤ B.length ∧ n = .int .i64 k ∧ vb = .int .i64 (wt k).1 ∧ vm = .int .u64 (wt k).2)
  case atStart => exact ⟨Bel.refl _, 0, by omega, by omega, rfl, by rw [h0], by rw [h0]⟩
  case round =>
    obtain ⟨hb, k, hr, hkB, rfl, rfl, rfl⟩ := hrel
    by_cases hlt : k < B.length
    · obtain ⟨g, rfl, c0, c1⟩ := hcell k hlt
      have c0' := hb.cell c0
      have c1' := hb.cell c1
      have HS := Hid.mk (hstep k hlt)
      obtain ⟨hid1, hid, hw1, hw2⟩ := hall _ (List.getElem_mem hlt)
      clear hcell c0 c1 hstep
      generalize B[k] = bk at *
      obtain ⟨idk, wk⟩ := bk
      simp only at c0' c1' HS hid hw1 hw2 hid1
      obtain ⟨n, hn⟩ : ∃ n : Nat, wk = (n : Int) := ⟨wk.toNat, by omega⟩
      subst hn
      rw [Int.toNat_natCast] at HS
      generalize wt k = m0 at *
      go_wp2
      have hm0 : winTo key s k idk m0 0 = m0 := rfl
      have hwt : ∀ j, winTo key s k idk m0 (j + 1) = if (winTo key s k idk m0 j).1 < 0 ∨ (winTo key s k idk m0 j).2 < hsh key 104 [s, j] idk then ((k : Int), hsh key 104 [s, j] idk) else winTo key s k idk m0 j := fun _ => rfl
      generalize winTo key s k idk m0 = wj at *
      obtain ⟨wb, hwb⟩ : ∃ wb, wb = wr.alloc (.cells #[.string idk, .int .i64 (n : Int)] 56) := ⟨_, rfl⟩
      have d0 : wb.cell? ⟨wr.heap.size, 0, none⟩ = some (.string idk) := by rw [hwb]; simp
      have d1 : wb.cell? ⟨wr.heap.size, 1, none⟩ = some (.int .i64 (n : Int)) := by rw [hwb]; simp
      have hbb : Bel w wb := by rw [hwb]; exact hb.step_alloc _
      rw [← hwb]
      generalize wr.heap.size = pb at *
      clear hwb hb c0' c1'
      go_loopg [7, 8, 11] n (fun r vb vm vk wr => Bel wb wr ∧ ∃ j : Nat, r = n - j ∧ j ≤ n ∧ vk = .int .i64 j ∧ vb = .int .i64 (wj j).1 ∧ vm = .int .u64 (wj j).2)
      case atStart => exact ⟨Bel.refl _, 0, by omega, by omega, rfl, by rw [hm0], by rw [hm0]⟩
      case round =>
        obtain ⟨hbj, j, hrj, hjn, rfl, rfl, rfl⟩ := hrel
        have e0 := hbj.cell d0
        have e1 := hbj.cell d1
        have hpl := World.block_lt_of_cell? _ _ e0
        by_cases hjl : j < n
        · have HW := Hid.mk (hwt j)
          have hH := fun wx => hash_is key 104 [s, j] (.slice (some ⟨wx.heap.size, 0, none⟩) 2 2) idk _ (ints_two wx s j) (by simp) (by omega) (by omega)
          clear hwt
          generalize hsh key 104 [s, j] idk = x at *
          generalize wj j = mj at *
          obtain ⟨mb, mm⟩ := mj
          simp only at HW
          have hd : decide ((j : Int) < (n : Int)) = true := decide_eq_true (by omega)
          simp only at hpl
          go_wp2_with fail
          refine (hH _).mono ?_
          rintro e w2 ⟨rfl, hb2⟩
          have hb3 : Bel wb w2 := (hbj.step_alloc _).trans hb2
          clear hb2 hH
          by_cases hn : mb < 0
          · rw [if_pos (Or.inl hn)] at HW
            go_wp2
            go_roundg (n - (j + 1))
            case measure => omega
            case rel => exact ⟨hb3, j + 1, rfl, by omega, by go_num, by rw [HW.out], by rw [HW.out]⟩
          · have hnf : decide (mb < 0) = false := decide_eq_false hn
            by_cases hg : mm < x
            · rw [if_pos (Or.inr hg)] at HW
              have hgt : decide (x > mm) = true := decide_eq_true hg
              go_wp2
              go_roundg (n - (j + 1))
              case measure => omega
              case rel => exact ⟨hb3, j + 1, rfl, by omega, by go_num, by rw [HW.out], by rw [HW.out]⟩
            · rw [if_neg (fun h => h.elim hn hg)] at HW
              have hgt : decide (x > mm) = false := decide_eq_false hg
              go_wp2
              go_roundg (n - (j + 1))
              case measure => omega
              case rel => exact ⟨hb3, j + 1, rfl, by omega, by go_num, by rw [HW.out], by rw [HW.out]⟩
        · obtain rfl : j = n := by omega
          clear hwt
          go_wp2
          go_roundg (B.length - (k + 1))
          case measure => omega
          case rel => exact ⟨hbb.trans hbj, k + 1, rfl, by omega, by go_num, by rw [HS.out], by rw [HS.out]⟩
    · obtain rfl : k = B.length := by omega
      clear hcell hstep
      go_wp2
      go_ret
      exact ⟨ret_int HX.out.symm, hb⟩

set_option maxRecDepth 100000 in
set_option maxHeartbeats 800000 in
theorem rendezvous_is (c : Cfg) (B : List BK) (v : Value) (w : World) (hP : PoolAt w v B) (hB : PoolOK B) (hc : c.OK) :
    Calls Tryz.prog 74 #[.agg c.cells, v] w (REnts w (slotE ((List.range c.slots.toNat).map (winnerF c.key B)))) := by
  obtain ⟨i0, hi, hz0, hz1, hz2⟩ := info_parts Tryz.infoEI
  obtain ⟨hs1, hs2, hk16⟩ : 3 ≤ c.slots ∧ c.slots ≤ 211 ∧ c.key.size = 16 := ⟨hc.2.2.1, hc.2.2.2.1, hc.2.2.2.2.2.2.2.2.2.1⟩
  have hwin := fun s wx hx => winner_is c.key s B v wx hx hB hk16
  have hbnd : ∀ s, -1 ≤ winnerF c.key B s ∨ True := fun _ => Or.inr trivial
  obtain ⟨M, hM⟩ : ∃ M : Nat, c.slots = (M : Int) := ⟨c.slots.toNat, by omega⟩
  have hrange : ∀ k, slotE ((List.range (k + 1)).map (winnerF c.key B)) = slotE ((List.range k).map (winnerF c.key B)) ++ [(0, winnerF c.key B k)] := fun k => by
    rw [List.range_succ, List.map_append, slotE, List.map_append]; rfl
  have hlen : ∀ k, (slotE ((List.range k).map (winnerF c.key B))).length = k := fun k => by rw [slotE_len]; simp
  have h0 : slotE ((List.range 0).map (winnerF c.key B)) = [] := rfl
  obtain ⟨Lk, hLk⟩ : ∃ Lk : Nat → List EI, Lk = fun k => slotE ((List.range k).map (winnerF c.key B)) := ⟨_, rfl⟩
  have hr2 : ∀ k, Lk (k + 1) = Lk k ++ [(0, winnerF c.key B k)] := fun k => by rw [hLk]; exact hrange k
  have hl2 : ∀ k, (Lk k).length = k := fun k => by rw [hLk]; exact hlen k
  have h02 : Lk 0 = [] := by rw [hLk]; exact h0
  rw [show slotE ((List.range c.slots.toNat).map (winnerF c.key B)) = Lk M from by rw [hLk, hM]; rfl]
  generalize winnerF c.key B = wf at *
  clear hLk hrange hlen h0 hbnd
  obtain ⟨alg, slots, points, probes, key, formats⟩ := c
  simp only [Cfg.cells] at *
  subst hM
  clear hc hB
  go_enter Tryz.func74, Tryz.ntmps74
  go_wp2
  obtain ⟨wm, hwm⟩ : ∃ wm, wm = w.alloc (.cells #[.int .i64 alg, .int .i64 (M : Int), .int .i64 points, .int .i64 probes, .string key, .int .i64 formats] 30) := ⟨_, rfl⟩
  have m1 : wm.cell? ⟨w.heap.size, 1, none⟩ = some (.int .i64 (M : Int)) := by rw [hwm]; simp
  have m4 : wm.cell? ⟨w.heap.size, 4, none⟩ = some (.string key) := by rw [hwm]; simp
  have hwb : Bel w wm := by rw [hwm]; exact (Bel.refl w).step_alloc _
  have hsz : wm.heap.size = w.heap.size + 1 := by rw [hwm]; simp
  rw [← hwm]
  clear hwm
  go_loopg [5, 6] M (fun r vL n wr => Bel wm wr ∧ ∃ (k : Nat), r = M - k ∧ k ≤ M ∧ n = .int .i64 k ∧ OwnE (w.heap.size + 1) wr vL (Lk k))
  case atStart => exact ⟨Bel.refl _, 0, by omega, by omega, rfl, by rw [h02]; exact World.ownsRow_nil _ _ _ _⟩
  case round =>
    obtain ⟨hb, k, hr, hk, rfl, hL⟩ := hrel
    have hwr := hb.size
    have n1 := hb.cell m1
    have n4 := hb.cell m4
    have HO := Hid.mk hL
    clear hL
    by_cases hlt : k < M
    · have hLl := hl2 k
      have HS := Hid.mk (hr2 k)
      have hw := fun wx hx => hwin k wx hx
      clear hl2 hr2 h02 hwin
      generalize Lk k = L at *
      have hLk : L.length ≤ 300 := by omega
      clear hLl
      generalize wf k = x at *
      go_wp2_with fail
      refine (hw _ (hP.later (hwb.trans hb))).mono ?_
      rintro e w1 ⟨rfl, hb1⟩
      have hO1 := Hid.mk (own_later HO.out hb1)
      have hbm := hb.trans hb1
      have hw1 := hbm.size
      clear HO hw hb1
      go_wp2_with (first | (at_builtin; refine wpList_append_own _ rfl _ _ 46 rfl (w.heap.size + 1) 75 i0 (.agg #[.int .u64 0, .int .i64 0]) 2 16 Tryz.underlying46 hi hz0 hz1 hz2 rfl (by decide) _ L.length (icells L) rfl ?p1 ⟨w1.heap.size, 0, none⟩ 1 1 [.int .u64 0, .int .i64 x] rfl rfl ?d1 ?d2 ?d3 ?d4 ?d5 ?_))
      case p1 => exact World.ownsRow.alloc hO1.out _
      try (case d1 => exact two_new _ _ _ _ _ (by simp))
      case d2 => first | exact ⟨rfl, rfl⟩ | exact two_one rfl rfl
      case d3 => unfold maxLen; omega
      case d4 => omega
      case d5 => first | omega | (simp; omega)
      intro v2 w2 hown2 hgrow2 _
      have hb2 : Bel wm w2 := (hbm.step_alloc _).grown hgrow2 (fun g hg => by have := (World.ownsRow.lt hO1.out g hg).1; omega)
      have H2 := Hid.mk (OwnE.snoc (b := (0, x)) hown2 rfl)
      clear hown2 hgrow2
      go_wp2
      go_roundg (M - (k + 1))
      case measure => omega
      case rel => exact ⟨hb2, k + 1, rfl, by omega, by go_num, by rw [HS.out]; exact H2.out⟩
    · obtain rfl : k = M := by omega
      clear hl2 hr2 h02 hwin
      go_wp2
      go_ret
      exact ⟨_, rfl, hwb.trans hb, World.ownsRow.mono HO.out (by omega)⟩

end Go.Proofs.YtgfildmmcbjpnabGreat

namespace Go.Proofs.YtgfildmmcbjpnabGreat
open Go.RowKit

/-- what is appended: nothing (nil), or cells that lie somewhere -/
def SrcAt (w : World) (x : Value) (m : Nat) (news : List Value) : Prop :=
  (x = .slice none 0 0 ∧ m = 0 ∧ news = []) ∨ ∃ ad c, x = .slice (some ad) m c ∧ ∀ j u, news[j]? = some u → w.cell? (ad.add j) = some u
theorem SrcAt.later {a w : World} {x : Value} {m : Nat} {news : List Value} (h : SrcAt a x m news) (k : Bel a w) : SrcAt w x m news := by
  rcases h with h | ⟨ad, c, hx, hc⟩
  · exact Or.inl h
  · exact Or.inr ⟨ad, c, hx, fun j u hu => k.cell (hc j u hu)⟩

theorem wpList_append_src {P : Program} (w : World) {ops : Array Oper} {rest : List Oper} {o : Oper} {a : Act} {Q : Exit → Act → World → Prop} (hgd : o.guard = none) (s x : Operand) (t : TypeId)
    (ho : o.op = .call { callee := .builtin .append, args := #[s, x], argTypes := #[t, t] })
    (base : Nat) (e : TypeId) (i : TypeInfo) (z : Value) (size bytes : Nat) (ht : P.underlying t = some (.slice e)) (hi : P.info? e = some i) (hz : i.zero = some z)
    (hsize : i.size = size) (hby : i.bytes = bytes) (hzs : z.cells.size = size) (hsz : 0 < size)
    (v : Value) (n : Nat) (xs : List Value) (hs : a.eval s = v) (hown : w.ownsRow base e size v n xs)
    (xv : Value) (m : Nat) (news : List Value) (hx : a.eval x = xv) (hsrc : SrcAt w xv m news) (hl : news.length = m * size) (h1 : ∀ u ∈ news, u.oneCell' = true)
    (h63 : n + m ≤ maxLen) (hbytes : (n + m) * bytes ≤ 140737488355328) (hbase : base ≤ w.heap.size)
    (h : ∀ v' w', w'.ownsRow base e size v' (n + m) (xs ++ news) → w.grownBy w' v.ownBlock → wpList P ops Q rest (a.put o.dst v') w') : wpList P ops Q (o :: rest) a w := by
  rcases hsrc with ⟨rfl, rfl, rfl⟩ | ⟨ad, c, rfl, hc⟩
  · refine wpList_append_own_none hgd s x t ho base e i size ht hi v n xs hs hown hx ?_
    exact h v w (by simpa using hown) (World.grownBy.refl w _)
  · exact wpList_append_own w hgd s x t ho base e i z size bytes ht hi hz hsize hby hzs hsz v n xs hs hown ad m c news hx hl hc h1 h63 hbytes hbase (fun v' w' h2 h3 _ => h v' w' h2 h3)

end Go.Proofs.YtgfildmmcbjpnabGreat

namespace Go.Proofs.YtgfildmmcbjpnabGreat
open Go.RowKit

def OwnX (base g cap : Nat) (w : World) (X : List EI) : Prop := w.ownsRow base 75 2 (sl g X.length cap) X.length (icells X)
theorem icells_set (X : List EI) (k : Nat) (e : EI) : icells (X.set k e) = ((icells X).set (k * 2) (.int .u64 e.1)).set (k * 2 + 1) (.int .i64 e.2) := by
  induction X generalizing k with
  | nil => simp [icells]
  | cons s S ih =>
    cases k with
    | zero => simp [icells]
    | succ k =>
      have e1 : (k + 1) * 2 = k * 2 + 1 + 1 := by omega
      have := ih k
      simp only [icells, List.set_cons_succ, List.flatMap_cons, List.cons_append, List.nil_append, e1] at this ⊢
      rw [this]
theorem OwnX.set {base g cap : Nat} {w : World} {X : List EI} (h : OwnX base g cap w X) (k : Nat) (a b : Int) : OwnX base g cap ((w.setCell ⟨g, k * 2, none⟩ (.int .u64 a)).setCell ⟨g, k * 2 + 1, none⟩ (.int .i64 b)) (X.set k (a, b)) := by
  have h1 := (World.ownsRow.stored h (k * 2) (.int .u64 a)).1
  have h2 := (World.ownsRow.stored h1 (k * 2 + 1) (.int .i64 b)).1
  unfold OwnX
  rw [icells_set, sl, List.length_set]
  exact h2
theorem OwnX.get {base g cap : Nat} {w : World} {X : List EI} (h : OwnX base g cap w X) (j : Nat) (hj : j < X.length) : w.cell? ⟨g, j * 2, none⟩ = some (.int .u64 X[j].1) ∧ w.cell? ⟨g, j * 2 + 1, none⟩ = some (.int .i64 X[j].2) := by
  have := icells_get X j hj
  exact ⟨by rw [World.ownsRow.cellAt h (j * 2) (by omega)]; exact this.1, by rw [World.ownsRow.cellAt h (j * 2 + 1) (by omega)]; exact this.2⟩
theorem icells_one (B : List EI) : ∀ u ∈ icells B, u.oneCell' = true := by
  intro u hu
  simp only [icells, List.mem_flatMap, List.mem_cons, List.not_mem_nil, or_false] at hu
  obtain ⟨b, _, rfl | rfl⟩ := hu <;> rfl
theorem EIAt.src {w : World} {v : Value} {L : List EI} (h : EIAt w v L) : SrcAt w v L.length (icells L) := by
  rcases h with ⟨h1, h2, h3⟩ | ⟨g, cap, hv, hn, hg, hc⟩
  · exact Or.inl ⟨h1, h2, h3⟩
  · refine Or.inr ⟨_, _, hv, fun j u hu => ?_⟩
    have hadd : (⟨g, 0, none⟩ : Addr).add j = ⟨g, j, none⟩ := by unfold Addr.add; split <;> simp_all
    rw [hadd]
    exact hc j u hu
/-- by points, rising -/
def SrtE (L : List EI) : Prop := L.Pairwise fun a b => a.1 ≤ b.1
theorem insE_mem {e x : EI} {L : List EI} : x ∈ insE e L ↔ x = e ∨ x ∈ L := by
  induction L with
  | nil => simp [insE]
  | cons b B ih =>
    simp only [insE]
    split
    · simp
    · simp only [List.mem_cons, ih]
      constructor
      · rintro (h | h | h)
        · exact Or.inr (Or.inl h)
        · exact Or.inl h
        · exact Or.inr (Or.inr h)
      · rintro (h | h | h)
        · exact Or.inr (Or.inl h)
        · exact Or.inl h
        · exact Or.inr (Or.inr h)
theorem insE_len (e : EI) (L : List EI) : (insE e L).length = L.length + 1 := by
  induction L with
  | nil => rfl
  | cons b B ih => simp only [insE]; split <;> simp [ih]
theorem insE_srt {e : EI} {L : List EI} (h : SrtE L) : SrtE (insE e L) := by
  induction L with
  | nil => exact List.pairwise_singleton _ _
  | cons b B ih =>
    obtain ⟨h1, h2⟩ := List.pairwise_cons.1 h
    simp only [insE]
    split
    · rename_i hl
      refine List.pairwise_cons.2 ⟨fun x hx => ?_, h⟩
      rcases List.mem_cons.1 hx with rfl | hx
      · exact Int.le_of_lt hl
      · have := h1 x hx; omega
    · refine List.pairwise_cons.2 ⟨fun x hx => ?_, ih h2⟩
      rcases insE_mem.1 hx with rfl | hx
      · omega
      · exact h1 x hx
theorem insE_at {e : EI} {L : List EI} {i : Nat} (hi : i ≤ L.length) (h1 : ∀ x ∈ L.take i, x.1 ≤ e.1) (h2 : ∀ x ∈ L.drop i, e.1 < x.1) : insE e L = L.take i ++ e :: L.drop i := by
  induction L generalizing i with
  | nil => simp [insE]
  | cons b B ih =>
    cases i with
    | zero =>
      have := h2 b (by simp)
      simp [insE, this]
    | succ i =>
      have := h1 b (by simp)
      simp only [insE, List.take_succ_cons, List.drop_succ_cons, List.cons_append]
      rw [if_neg (by omega), ih (by simpa using hi) (fun x hx => h1 x (by simp [hx])) (fun x hx => h2 x (by simpa using hx))]
theorem sortTo_len (L : List EI) (n : Nat) (h : n ≤ L.length) : (sortTo L n).length = n := by
  induction n with
  | zero => rfl
  | succ n ih => rw [sortTo, List.getElem?_eq_getElem (by omega)]; simp only; rw [insE_len, ih (by omega)]
theorem sortTo_srt (L : List EI) (n : Nat) : SrtE (sortTo L n) := by
  induction n with
  | zero => exact List.Pairwise.nil
  | succ n ih =>
    rw [sortTo]
    split
    · exact insE_srt ih
    · exact ih
/-- the row while e is moved to its place -/
def MidE (P : List EI) (R : List EI) (i : Nat) (X : List EI) : Prop := ∃ x, X = P.take i ++ x :: (P.drop i ++ R)
theorem MidE.len {P R X : List EI} {i : Nat} (h : MidE P R i X) (hi : i ≤ P.length) : X.length = P.length + 1 + R.length := by
  obtain ⟨x, rfl⟩ := h
  simp; omega
theorem MidE.before {P R X : List EI} {i j : Nat} (h : MidE P R i X) (hi : i ≤ P.length) (hj : j < i) (hx : j < X.length) : X[j] = P[j]'(by omega) := by
  obtain ⟨x, rfl⟩ := h
  rw [List.getElem_append_left (by simp; omega), List.getElem_take]
theorem MidE.step {P R X : List EI} {i : Nat} (h : MidE P R (i + 1) X) (hi : i < P.length) : MidE P R i (X.set (i + 1) P[i]) := by
  obtain ⟨x, rfl⟩ := h
  refine ⟨P[i], ?_⟩
  have hl : (P.take (i + 1)).length = i + 1 := by simp; omega
  rw [List.set_append_right _ _ (by omega), hl, Nat.sub_self, List.set_cons_zero, List.take_succ_eq_append_getElem hi, List.append_assoc, List.drop_eq_getElem_cons (i := i) hi]
  rfl
theorem MidE.fin {P R X : List EI} {i : Nat} {e : EI} (h : MidE P R i X) (hi : i ≤ P.length) : X.set i e = P.take i ++ e :: P.drop i ++ R := by
  obtain ⟨x, rfl⟩ := h
  have hl : (P.take i).length = i := by simp; omega
  rw [List.set_append_right _ _ (by omega), hl, Nat.sub_self, List.set_cons_zero]
  simp

set_option maxRecDepth 100000 in
set_option maxHeartbeats 800000 in
theorem rising_is (L : List EI) (v : Value) (w : World) (hP : EIAt w v L) (hB : L.length ≤ 65536) :
    Calls Tryz.prog 101 #[v] w (REnts w (sortTo L L.length)) := by
  obtain ⟨i0, hi, hz0, hz1, hz2⟩ := info_parts Tryz.infoEI
  go_enter Tryz.func101, Tryz.ntmps101
  go_wp2_with (first | (at_builtin; refine wpList_append_src _ rfl _ _ 46 rfl w.heap.size 75 i0 (.agg #[.int .u64 0, .int .i64 0]) 2 16 Tryz.underlying46 hi hz0 hz1 hz2 rfl (by decide) _ 0 [] rfl ?o1 _ L.length (icells L) rfl ?o2 ?c1 ?c2 ?c3 ?c4 ?c5 ?_))
  case o1 => exact World.ownsRow_lit w #[] 0 (Nat.le_refl _) (by decide) rfl
  case o2 => exact (hP.later ((Bel.refl w).step_alloc _)).src
  case c1 => exact icells_len L
  case c2 => exact icells_one L
  case c3 => unfold maxLen; omega
  case c4 => omega
  case c5 => simp
  intro v2 w2 hown2 hgrow2
  have hb2 : Bel w w2 := ((Bel.refl w).step_alloc _).grown hgrow2 (fun g hg => by simp [Value.ownBlock] at hg; omega)
  have hown : OwnE w.heap.size w2 v2 L := by unfold OwnE; simpa using hown2
  clear hown2 hgrow2
  by_cases hL0 : L.length = 0
  · have hLn : L = [] := List.eq_nil_of_length_eq_zero hL0
    subst hLn
    have hsl : ∃ ao cap, v2 = .slice ao 0 cap := by
      rcases hown.2 with ⟨h, _⟩ | ⟨g, cap, cur, h, _⟩
      · exact ⟨_, _, h⟩
      · exact ⟨_, _, h⟩
    obtain ⟨ao, cap, rfl⟩ := hsl
    have HO := Hid.mk hown
    clear hown hP
    go_wp2
    refine wp_loop_rounds 1 ?_
    rw [rounds_succ]
    go_wp2
    go_ret
    exact ⟨_, rfl, hb2, HO.out⟩
  · obtain ⟨g, cap, hv2, hg1, hg2⟩ := World.ownsRow.form hown (by omega)
    subst hv2
    obtain ⟨N, hN⟩ : ∃ N, N = L.length := ⟨_, rfl⟩
    have hsl := fun n h => sortTo_len L n h
    have hss := fun n => sortTo_srt L n
    have hst : ∀ n (h : n < L.length), sortTo L (n + 1) = insE L[n] (sortTo L n) := fun n h => by rw [sortTo, List.getElem?_eq_getElem h]
    have h0 : sortTo L 0 = [] := rfl
    have hOX : OwnX w.heap.size g cap w2 L := hown
    rw [← hN] at hL0 hB ⊢
    rw [hN]
    generalize sortTo L = st at *
    rw [← hN]
    have HN := Hid.mk hN
    have hsl : Hid (∀ n, n ≤ N → (st n).length = n) := by rw [hN]; exact hsl
    have hst : Hid (∀ n (h : n < L.length), st (n + 1) = insE L[n] (st n)) := hst
    have hss : Hid (∀ n, SrtE (st n)) := hss
    clear hown hP hN
    go_wp2
    go_loopg [12] N (fun r n wr => Bel w wr ∧ ∃ (k : Nat) (X : List EI), r = N - k ∧ k ≤ N ∧ n = .int .i64 k ∧ OwnX w.heap.size g cap wr X ∧ X = st k ++ L.drop k)
    case atStart => exact ⟨hb2, 0, L, by omega, by omega, rfl, hOX, by rw [h0]; simp⟩
    case round =>
      obtain ⟨hb, k, X, hr, hk, rfl, hX, hXe⟩ := hrel
      have hXl : X.length = N := by rw [hXe, List.length_append, hsl.out k hk, List.length_drop]; have := HN.out; omega
      clear hb2 hOX
      by_cases hlt : k < N
      · have hXk : X[k]'(by omega) = L[k]'(by have := HN.out; omega) := by
          have h1 : (st k).length = k := hsl.out k (by omega)
          simp only [hXe]
          rw [List.getElem_append_right (by omega)]
          simp [h1]
        obtain ⟨c0, c1⟩ := hX.get k (by omega)
        rw [hXk] at c0 c1
        have HSt := Hid.mk (hst.out k (by have := HN.out; omega))
        have hsrt := Hid.mk (hss.out k)
        have HPl := Hid.mk (hsl.out k (by omega))
        have hMid : Hid (MidE (st k) (L.drop (k + 1)) k X) := by
          refine ⟨L[k]'(by have := HN.out; omega), hXe.trans ?_⟩
          have h1 : (st k).length = k := HPl.out
          rw [List.take_of_length_le (by omega), List.drop_of_length_le (l := st k) (by omega), List.nil_append, List.drop_eq_getElem_cons (by have := HN.out; omega)]
        have HX := Hid.mk hX
        have hXg := (World.ownsRow.lt hX g rfl).2
        generalize hLk : L[k]'(by have := HN.out; omega) = ek at *
        obtain ⟨pe, oe⟩ := ek
        simp only at c0 c1 HSt
        clear hX hXe hXk hst hss hLk hsl
        go_wp2
        obtain ⟨wb, hwb⟩ : ∃ wb, wb = wr.alloc (.cells #[.int .u64 pe, .int .i64 oe] 75) := ⟨_, rfl⟩
        have d0 : wb.cell? ⟨wr.heap.size, 0, none⟩ = some (.int .u64 pe) := by rw [hwb]; simp
        have d1 : wb.cell? ⟨wr.heap.size, 1, none⟩ = some (.int .i64 oe) := by rw [hwb]; simp
        have hbb : Bel w wb := by rw [hwb]; exact hb.step_alloc _
        have HXb : Hid (OwnX w.heap.size g cap wb X) := by rw [hwb]; exact World.ownsRow.alloc HX.out _
        rw [← hwb]
        generalize wr.heap.size = pb at *
        clear hwb hb c0 c1 HX
        go_loopg [6] k (fun r vi wr => ∃ (i : Nat) (X' : List EI), r = i ∧ i ≤ k ∧ vi = .int .i64 i ∧ Bel w wr ∧ wr.cell? ⟨pb, 0, none⟩ = some (.int .u64 pe) ∧ wr.cell? ⟨pb, 1, none⟩ = some (.int .i64 oe) ∧ OwnX w.heap.size g cap wr X' ∧ X'.length = N ∧ MidE (st k) (L.drop (k + 1)) i X' ∧ ∀ x ∈ (st k).drop i, pe < x.1)
        case atStart => exact ⟨k, X, rfl, by omega, rfl, hbb, d0, d1, HXb.out, hXl, hMid.out, fun x hx => by rw [List.drop_of_length_le (by have := HPl.out; omega)] at hx; cases hx⟩
        case round =>
          obtain ⟨i, X', hri, hik, rfl, hbi, e0, e1, hX', hX'l, hMi, hGT⟩ := hrel
          have HMid := Hid.mk hMi
          have HGT := Hid.mk hGT
          have HX' := Hid.mk hX'
          have HX'l := Hid.mk hX'l
          have hpl := World.block_lt_of_cell? _ _ e0
          simp only at hpl
          clear hMi hGT hX' hX'l hMid HXb hbb d0 d1
          cases i with
          | zero =>
            have HLE : ∀ x ∈ (st k).take 0, x.1 ≤ (pe, oe).1 := fun x hx => by simp at hx
            clear hri
            have hfin : Hid (X'.set 0 (pe, oe) = st (k + 1) ++ L.drop (k + 1)) := by
              show List.set _ _ _ = _
              rw [HMid.out.fin (by have := HPl.out; omega), HSt.out, insE_at (i := 0) (by have := HPl.out; omega) HLE HGT.out]
            have k1 := World.ownsRow.frozenAt HX'.out (0 * 2)
            have k2 := World.ownsRow.frozenAt HX'.out (0 * 2 + 1)
            obtain ⟨j1, j2⟩ := HX'.out.get 0 (by rw [HX'l.out]; omega)
            generalize X'[0]'(by rw [HX'l.out]; omega) = xi at *
            obtain ⟨xi1, xi2⟩ := xi
            simp only at j1 j2
            have hd0 : decide ((0 : Int) > 0) = false := rfl
            have hgw : g < pb := hXg
            go_wp2_with fail
            go_quiet (fail)
            have hbq := (Bel.refl wr).step_drewN nq
            have H9 := Hid.mk (OwnX.set (own_later HX'.out hbq : OwnX w.heap.size g cap (wr.drewN nq) X') 0 pe oe)
            go_wp2
            go_roundg (N - (k + 1))
            case measure => omega
            case rel => exact ⟨((hbi.step_drewN nq).step_set hg1 _).step_set hg1 _, k + 1, _, rfl, by omega, by go_num, H9.out, hfin.out⟩
          | succ i =>
            obtain ⟨y0, y1⟩ := HX'.out.get i (by rw [HX'l.out]; omega)
            have hiP : i < (st k).length := by have := HPl.out; omega
            rw [HMid.out.before (j := i) (by omega) (by omega)] at y0 y1
            have hgw : g < pb := hXg
            have hd0 : decide (((i : Int) + 1) > 0) = true := decide_eq_true (by omega)
            have hwi : IntKind.i64.wrap ((i : Int) + 1 - 1) = (i : Int) := by rw [IntKind.wrap_i64]; omega
            have hwj : (i : Int) + 1 - 1 = (i : Int) := by omega
            by_cases hgt : pe < (st k)[i].1
            · have hdg : decide ((st k)[i].1 > pe) = true := decide_eq_true hgt
              have k1 := World.ownsRow.frozenAt HX'.out ((i + 1) * 2)
              have k2 := World.ownsRow.frozenAt HX'.out ((i + 1) * 2 + 1)
              obtain ⟨j1, j2⟩ := HX'.out.get (i + 1) (by rw [HX'l.out]; omega)
              have HMS := Hid.mk (HMid.out.step hiP)
              have HG2 : Hid (∀ x ∈ (st k).drop i, pe < x.1) := by
                intro x hx
                rw [List.drop_eq_getElem_cons hiP] at hx
                rcases List.mem_cons.1 hx with rfl | hx
                · exact hgt
                · exact HGT.out x hx
              generalize X'[i + 1]'(by rw [HX'l.out]; omega) = xi at *
              obtain ⟨xi1, xi2⟩ := xi
              simp only at j1 j2
              generalize (st k)[i] = pi at *
              obtain ⟨pp, po⟩ := pi
              simp only at y0 y1 hgt hdg
              go_wp2_with fail
              go_quiet (fail)
              have hbq := (Bel.refl wr).step_drewN nq
              have H9 := Hid.mk (OwnX.set (own_later HX'.out hbq : OwnX w.heap.size g cap (wr.drewN nq) X') (i + 1) pp po)
              go_wp2
              go_roundg i
              case measure => omega
              case rel => exact ⟨i, X'.set (i + 1) (pp, po), rfl, by omega, rfl, ((hbi.step_drewN nq).step_set hg1 _).step_set hg1 _, by rw [set_other (Or.inl (by simp only; omega)), set_other (Or.inl (by simp only; omega))]; exact hbq.cell e0, by rw [set_other (Or.inl (by simp only; omega)), set_other (Or.inl (by simp only; omega))]; exact hbq.cell e1, H9.out, by rw [List.length_set]; exact HX'l.out, HMS.out, HG2.out⟩
            · have hdg : decide ((st k)[i].1 > pe) = false := decide_eq_false hgt
              have HLE : ∀ x ∈ (st k).take (i + 1), x.1 ≤ (pe, oe).1 := by
                intro x hx
                obtain ⟨j, hj, rfl⟩ := List.getElem_of_mem hx
                simp only [List.length_take] at hj
                rw [List.getElem_take]
                by_cases hji : j = i
                · subst hji; simp only; omega
                · have := List.pairwise_iff_getElem.1 hsrt.out j i (by omega) hiP (by omega)
                  simp only; omega
              generalize hpi : (st k)[i] = pi at *
              obtain ⟨pp, po⟩ := pi
              simp only at y0 y1 hgt hdg
              have hfin : Hid (X'.set (i + 1) (pe, oe) = st (k + 1) ++ L.drop (k + 1)) := by
                show List.set _ _ _ = _
                rw [HMid.out.fin (by have := HPl.out; omega), HSt.out, insE_at (i := i + 1) (by have := HPl.out; omega) HLE HGT.out]
              have k1 := World.ownsRow.frozenAt HX'.out ((i + 1) * 2)
              have k2 := World.ownsRow.frozenAt HX'.out ((i + 1) * 2 + 1)
              obtain ⟨j1, j2⟩ := HX'.out.get (i + 1) (by rw [HX'l.out]; omega)
              generalize X'[i + 1]'(by rw [HX'l.out]; omega) = xi at *
              obtain ⟨xi1, xi2⟩ := xi
              simp only at j1 j2
              go_wp2_with fail
              go_quiet (fail)
              have hbq := (Bel.refl wr).step_drewN nq
              have H9 := Hid.mk (OwnX.set (own_later HX'.out hbq : OwnX w.heap.size g cap (wr.drewN nq) X') (i + 1) pe oe)
              go_wp2
              go_roundg (N - (k + 1))
              case measure => omega
              case rel => exact ⟨((hbi.step_drewN nq).step_set hg1 _).step_set hg1 _, k + 1, _, rfl, by omega, by go_num, H9.out, hfin.out⟩
      · obtain rfl : k = N := by omega
        have hfin : Hid (X = st k) := by
          show X = st k
          rw [hXe, List.drop_of_length_le (by have := HN.out; omega), List.append_nil]
        have HX := Hid.mk hX
        clear hX hXe hst hss hsl
        go_wp2
        go_ret
        exact ⟨_, rfl, hb, by rw [← HN.out, ← hfin.out]; have := HX.out; unfold OwnX sl at this; rw [hXl] at this; unfold OwnE; rw [hXl]; exact this⟩

end Go.Proofs.YtgfildmmcbjpnabGreat
