import Derived.Test.YtgfildmmcbjpnabGreatLAZ
import Derived.Test.YtgfildmmcbjpnabGreatLBP
namespace Go.Proofs.YtgfildmmcbjpnabGreat
open Go.RowKit

/-- the document's points so far are the program's -/
def PtQ (key : ByteArray) (letter : UInt8) (per : Int) (B : List BK) (m : Nat) (L : List EN) : Prop := L.map enV = (sortTo (ptsTo key letter per B B.length) m).map (nmE B)
/-- where a point is laid -/
def PtAt (H : Int) (L : List EN) (t : Nat) : Prop := (∀ j (h : j < L.length), j < t → wv L[j].2.1 L[j].2.2 ≤ H) ∧ ∀ h : t < L.length, H < wv L[t].2.1 L[t].2.2
theorem PtQ.step {key : ByteArray} {letter : UInt8} {per : Int} {B : List BK} {i k : Nat} {L : List EN} {t : Nat} {X Y : Int} (h : PtQ key letter per B ((ptsTo key letter per B i).length + k) L) (hi : i < B.length) (hk : k < (per * B[i].2).toNat) (ht : t ≤ L.length) (hat : PtAt (hsh key letter [k] B[i].1) L t) (hv : wv X Y = hsh key letter [k] B[i].1) :
    PtQ key letter per B ((ptsTo key letter per B i).length + (k + 1)) (L.take t ++ [(B[i].1, X, Y)] ++ L.drop t) := by
  unfold PtQ at *
  have hm := sortTo_succ (ptsTo_get (key := key) (letter := letter) (each := per) i k hi hk)
  rw [← Nat.add_assoc, hm, insE_map (nmE B) (fun _ => rfl), ← h]
  have e1 : nmE B (hsh key letter [k] B[i].1, (i : Int)) = enV (B[i].1, X, Y) := by
    unfold nmE enV
    simp only
    rw [nameF_at hi, hv]
  rw [e1, ← insN_at (enV (B[i].1, X, Y)) (L.map enV) t (by simpa using ht) (fun j hj hjt => ?_) (fun hj => ?_)]
  · simp [List.map_take, List.map_drop]
  · have := hat.1 j (by simpa using hj) hjt
    rw [← hv] at this
    simp only [enV, List.getElem_map]
    omega
  · have := hat.2 (by simpa using hj)
    rw [← hv] at this
    simp only [enV, List.getElem_map]
    exact this
theorem PtQ.next {key : ByteArray} {letter : UInt8} {per : Int} {B : List BK} {i k : Nat} {L : List EN} (h : PtQ key letter per B ((ptsTo key letter per B i).length + k) L) (hi : i < B.length) (hk : k = (per * B[i].2).toNat) : PtQ key letter per B (ptsTo key letter per B (i + 1)).length L := by
  rw [ptsTo_lenS hi, ← hk]
  exact h
def RTableP (w : World) (c : Cfg) (B : List BK) (letter : UInt8) (per : Int) (e : Ending) (w' : World) : Prop := ∃ (v : Value) (E : List EN), e = .returned v ∧ Bel w w' ∧ EntsNew w.heap.size w' v E ∧ E.length ≤ 140000 ∧ (∀ x ∈ E, GoodE B x) ∧ (¬ Pointed c → E = [] ∨ (E.length : Int) = c.slots) ∧ E.map enV = (pointsF c.key letter per B).map (nmE B)
theorem pts_none {key : ByteArray} {letter : UInt8} {per : Int} {B : List BK} (hB : PoolOK B) (h : wSum B < 1) : pointsF key letter per B = [] := by
  have h0 : ∀ n, n ≤ B.length → ptsTo key letter per B n = [] := by
    intro n
    induction n with
    | zero => intro _; rfl
    | succ n ih =>
      intro hn
      rw [ptsTo_succ (by omega), ih (by omega)]
      have hz : B[n].2 = 0 := by
        have h1 := (hB.2 _ (List.getElem_mem (show n < B.length by omega))).2.2.1
        rcases Int.lt_or_le 0 B[n].2 with h2 | h2
        · have := wSum_ge (List.getElem_mem (show n < B.length by omega)) (by omega) (fun b hb => (hB.2 b hb).2.2.1)
          omega
        · omega
      simp [ptsOf, hz]
  unfold pointsF
  rw [h0 _ (Nat.le_refl _)]
  rfl

set_option maxRecDepth 100000 in
set_option maxHeartbeats 16000000 in
theorem dpoints_is (c : Cfg) (vB : Value) (B : List BK) (letter : UInt8) (per : Int) (w : World) (hc : c.OK) (hP : PoolAt w vB B) (hB : PoolOK B) (hp0 : 0 ≤ per) (hp3 : per ≤ 3) (hpt : Pointed c) :
    Calls Tryz.prog 109 #[.agg c.cells, vB, .string ⟨#[letter]⟩, .int .i64 per] w (RTableP w c B letter per) := by
  obtain ⟨what, hwhat⟩ : ∃ x : ByteArray, x = ⟨#[letter]⟩ := ⟨_, rfl⟩
  rw [← hwhat]
  have HWH := Hid.mk hwhat
  have hwh : what.size ≤ 10 := by rw [hwhat]; show (1 : Nat) ≤ 10; decide
  clear hwhat
  obtain ⟨PF, hPF⟩ : ∃ X, X = (pointsF c.key letter per B).map (nmE B) := ⟨_, rfl⟩
  have HPF := Hid.mk hPF
  unfold RTableP
  rw [← hPF]
  clear hPF
  obtain ⟨i0, hi, hz0, hz1, hz2⟩ := info_parts Tryz.infoEN
  have hk16 : c.key.size = 16 := hc.2.2.2.2.2.2.2.2.2.1
  obtain ⟨aoB, capB, rfl, hcB⟩ := hP.open
  obtain ⟨h8, hall⟩ := hB
  have HALL := Hid.mk hall
  have HCB := Hid.mk hcB
  have HPT := Hid.mk hpt
  clear hP hall hcB hc hpt
  obtain ⟨alg, slots, points, probes, key, formats⟩ := c
  simp only at hk16 HPF
  simp only [Cfg.cells]
  go_enter Tryz.func109, Tryz.ntmps109
  go_wp2
  have hbox4 : (w.alloc (.cells #[.int .i64 alg, .int .i64 slots, .int .i64 points, .int .i64 probes, .string key, .int .i64 formats] 30)).cell? ⟨w.heap.size, 4, none⟩ = some (.string key) := by simp
  have hbel0 : Bel w (w.alloc (.cells #[.int .i64 alg, .int .i64 slots, .int .i64 points, .int .i64 probes, .string key, .int .i64 formats] 30)) := by (repeat (first | exact Bel.refl _ | assumption | refine Bel.step_alloc ?_ _ | refine Bel.step_drew ?_ | refine Bel.step_drewN ?_ _ | refine Bel.step_set ?_ (by simp <;> omega) _ | refine Bel.trans ?_ (by assumption)))
  generalize w.alloc (.cells #[.int .i64 alg, .int .i64 slots, .int .i64 points, .int .i64 probes, .string key, .int .i64 formats] 30) = W at *
  generalize hpx : w.heap.size = px at *
  have HPX : Hid (w.heap.size = px) := hpx
  clear hpx
  go_loopg [9, 10] B.length (fun r v i wr => ∃ (k : Nat) (L : List EN), r = B.length - k ∧ k ≤ B.length ∧ i = .int .i64 k ∧ PtI W B (18 * k) v L wr ∧ PtQ key letter per B (ptsTo key letter per B k).length L)
  case atStart => exact ⟨0, [], by omega, by omega, rfl, ⟨Bel.refl _, World.ownsRow_nil _ _ _ _, fun x hx => (by cases hx), by simp⟩, rfl⟩
  case round =>
    obtain ⟨i, L0, hr, hi8, rfl, hI, hQ⟩ := hrel
    have HQ0 := Hid.mk hQ
    clear hQ
    have HI0 := Hid.mk hI
    by_cases hil : i < B.length
    · have hib : decide ((i : Int) < (B.length : Int)) = true := decide_eq_true (by omega)
      obtain ⟨gB, rfl, b0, b1⟩ := HCB.out i hil
      obtain ⟨a1, a2, a3, a4⟩ := HALL.out _ (List.getElem_mem hil)
      have hmem : Hid (∃ b ∈ B, b.1 = B[i].1) := ⟨B[i], List.getElem_mem hil, rfl⟩
      have b0W := hbel0.cell b0
      have b1W := hbel0.cell b1
      clear b0 b1 hI
      have HQS : Hid (∀ (k : Nat) (L : List EN) (t : Nat) (X Y : Int), PtQ key letter per B ((ptsTo key letter per B i).length + k) L → k < (per * B[i].2).toNat → t ≤ L.length → PtAt (hsh key letter [k] B[i].1) L t → wv X Y = hsh key letter [k] B[i].1 → PtQ key letter per B ((ptsTo key letter per B i).length + (k + 1)) (L.take t ++ [(B[i].1, X, Y)] ++ L.drop t)) := fun k L t X Y h1 h2 h3 h4 h5 => h1.step hil h2 h3 h4 h5
      have HQN : Hid (∀ (k : Nat) (L : List EN), PtQ key letter per B ((ptsTo key letter per B i).length + k) L → k = (per * B[i].2).toNat → PtQ key letter per B (ptsTo key letter per B (i + 1)).length L) := fun k L h1 h2 => h1.next hil h2
      generalize B[i].1 = idj at *
      generalize B[i].2 = wt at *
      have hpw : ∃ pw : Nat, per * wt = (pw : Int) ∧ pw ≤ 18 := by
        have h1 : 0 ≤ per * wt := Int.mul_nonneg hp0 a3
        have h2 : per * wt ≤ 3 * 6 := Int.mul_le_mul hp3 a4 a3 (by omega)
        exact ⟨(per * wt).toNat, by omega, by omega⟩
      obtain ⟨pw, hpw, hpw18⟩ := hpw
      have hwpw : wrap64 (per * wt) = (pw : Int) := by rw [hpw]; unfold wrap64; omega
      have HPW := Hid.mk hpw
      clear hpw
      go_wp2
      go_loopg [9, 11] pw (fun r v q wr => ∃ (k : Nat) (L : List EN), r = pw - k ∧ k ≤ pw ∧ q = .int .i64 k ∧ PtI W B (18 * i + k) v L wr ∧ PtQ key letter per B ((ptsTo key letter per B i).length + k) L)
      case atStart => exact ⟨0, L0, by omega, by omega, rfl, HI0.out, HQ0.out⟩
      case round =>
        clear HI0 HQ0
        obtain ⟨q, L, hrq, hq, rfl, hI, hQ⟩ := hrel
        have HQ := Hid.mk hQ
        clear hQ
        have b0x := hI.1.cell b0W
        have b1x := hI.1.cell b1W
        have x4 := hI.1.cell hbox4
        by_cases hql : q < pw
        · have hqb : decide ((q : Int) < (pw : Int)) = true := decide_eq_true (by omega)
          have HI := Hid.mk hI
          clear hI
          go_wp2_with fail
          refine (ones_is _ 2 _ (by omega) (by omega) (by decide)).mono ?_
          rintro e w1 ⟨a, rfl, hb1, ha⟩
          have HA : Hid (a = onesF q 2) := ha
          have ha2 : a.size = 2 := by rw [HA.out, ones2]; rfl
          obtain ⟨HV, hHV⟩ : ∃ X, X = hsh key letter [q] idj := ⟨_, rfl⟩
          have HHV := Hid.mk hHV
          have HTX : Hid (sipSum key ((what ++ a) ++ idj) = HV) := by
            show sipSum key _ = HV
            rw [HA.out, HWH.out, hHV]
            exact hsh1 key letter q idj
          clear hHV
          have HI1 := Hid.mk (HI.out.later hb1)
          have b0y := hb1.cell b0x
          have x4y := hb1.cell x4
          have hgl : gB < w1.heap.size := World.block_lt_of_cell? w1 _ b0y
          have hpl : px < w1.heap.size := World.block_lt_of_cell? w1 _ x4y
          clear ha b0x b1x x4 HI hb1
          go_upto_region 9 with fail
          go_cut [13] (fun u13 wc => BoxV w1.heap.size wc u13 HV ∧ Bel w1 wc)
          case first =>
            go_region_with (go_at_call 93; refine (whash_is _ _ _ hk16 (by simp only [ByteArray.size_append]; omega)).mono ?_; rintro e w4 ⟨z0, z1, rfl, hb4, g0, g1, ez⟩; obtain ⟨hq2, hf2⟩ := hb4.cells)
            all_goals
              have EZ : Hid (wv z0 z1 = HV) := by
                have ez' : wv z0 z1 = sipSum key ((what ++ a) ++ idj) := ez
                show wv z0 z1 = HV
                rw [ez', HTX.out]
              clear ez
              go_wp2_with fail
              go_meet
              case rel =>
                have hB4 : Bel w1 w4 := by (repeat (first | exact Bel.refl _ | assumption | refine Bel.step_alloc ?_ _ | refine Bel.step_drew ?_ | refine Bel.step_drewN ?_ _ | refine Bel.step_set ?_ (by simp <;> omega) _ | refine Bel.trans ?_ (by assumption)))
                first
                  | exact ⟨BoxV.new hB4.size g0 g1 EZ.out _, hB4.step_alloc _⟩
                  | exact ⟨BoxV.stored (Nat.le_refl _) ((hq2 _ _ (by simp)).trans (by simp; rfl)) ((hq2 _ _ (by simp)).trans (by simp; rfl)) ((hf2 _ _ (by simp)).trans (by simp)) ((hf2 _ _ (by simp)).trans (by simp)) g0 g1 EZ.out, (hB4.step_set (p := ⟨w1.heap.size, 0, none⟩) (Nat.le_refl _) _).step_set (p := ⟨w1.heap.size, 1, none⟩) (Nat.le_refl _) _⟩
          case rest =>
            obtain ⟨hbx, hbc⟩ := hcut
            obtain ⟨p13, X, Y, rfl, hp13, c0, c1, -, -, hX, hY, hVXY⟩ := hbx
            have HVXY := Hid.mk hVXY
            clear hVXY
            have hI2 := HI1.out.later hbc
            have b0z := hbc.cell b0y
            have HI2 := Hid.mk hI2
            obtain ⟨ao, cap, rfl, hcap, hE⟩ := ents_slice hI2.2.1
            have hL144 : L.length ≤ 200 := by have := hI2.2.2.2; omega
            clear hI2 HI1 hbc b0y x4y hgl hpl
            generalize wc = w2 at *
            go_upto_region 11 with fail
            go_cut [15] (fun u wc => w2 = wc ∧ u = .int .i64 0)
            case first =>
              go_wp2_with fail
              go_meet
              case rel => exact ⟨rfl, rfl⟩
            case rest =>
            obtain ⟨rfl, rfl⟩ := hcut
            go_step
            go_step
            go_cut [15] (fun u wc => Bel w2 wc ∧ ∃ t : Nat, t ≤ L.length ∧ u = .int .i64 t ∧ PtAt HV L t)
            case first =>
              go_wp2
              go_loopg [15] L.length (fun r va wx => Bel w2 wx ∧ ∃ t : Nat, t ≤ L.length ∧ r = L.length - t ∧ va = .int .i64 t ∧ ∀ j (h : j < L.length), j < t → wv L[j].2.1 L[j].2.2 ≤ HV)
              case atStart => exact ⟨Bel.refl _, 0, by omega, by omega, rfl, fun j h hj => by omega⟩
              case round =>
                obtain ⟨hbx, t, ht, hrt, rfl, hbelow⟩ := hrel
                have HBE := Hid.mk hbelow
                clear hbelow
                by_cases htl : t < L.length
                · have htb : decide ((t : Int) < (L.length : Int)) = true := decide_eq_true (by omega)
                  rcases hE.form with ⟨-, hnil⟩ | ⟨g, cap', hv, -, -, hcs⟩
                  · rw [hnil] at htl; simp at htl
                  simp only [Value.slice.injEq, true_and] at hv
                  obtain ⟨rfl, rfl⟩ := hv
                  obtain ⟨-, e1, e2⟩ := hcs t htl
                  have d1 := hbx.cell e1
                  have d2 := hbx.cell e2
                  have d3 := hbx.cell c0
                  have d4 := hbx.cell c1
                  have hgl : g < wr.heap.size := World.block_lt_of_cell? wr _ d1
                  have hpl : p13 < wr.heap.size := World.block_lt_of_cell? wr _ d3
                  clear hcs e1 e2 hE
                  have hg1 := HI2.out.2.2.1 _ (List.getElem_mem htl)
                  obtain ⟨-, hX1, hY1⟩ := hg1
                  have HT1 : Hid (wv L[t].2.1 L[t].2.2 ≤ HV → ∀ j (h : j < L.length), j < t + 1 → wv L[j].2.1 L[j].2.2 ≤ HV) := fun hn j h hj => by
                    by_cases hjt : j = t
                    · subst hjt; exact hn
                    · exact HBE.out j h (by omega)
                  have HT2 : Hid (HV < wv L[t].2.1 L[t].2.2 → PtAt HV L t) := fun hn => ⟨HBE.out, fun _ => hn⟩
                  generalize L[t].2.1 = X1 at *
                  generalize L[t].2.2 = Y1 at *
                  go_upto_region 13 with fail
                  generalize wr = w3 at *
                  go_cut [16] (fun u wc => (∃ b, u = .bool b ∧ IsB (HV < wv X1 Y1) b) ∧ Bel w3 wc)
                  case first =>
                    go_region_with (go_at_call 95; refine (wbelow_is _ _ _ _ _ hX hY hX1 hY1).mono ?_; rintro e w4 ⟨less, rfl, hb4, hless⟩)
                    all_goals
                      have HLS : Hid (IsB (HV < wv X1 Y1) less) := by
                        show IsB _ _
                        rw [← HVXY.out]
                        exact hless
                      clear hless
                      go_wp2_with fail
                      go_meet
                      case rel => exact ⟨⟨_, rfl, HLS.out⟩, by (repeat (first | exact Bel.refl _ | assumption | refine Bel.step_alloc ?_ _ | refine Bel.step_drew ?_ | refine Bel.step_drewN ?_ _ | refine Bel.step_set ?_ (by simp <;> omega) _ | refine Bel.trans ?_ (by assumption)))⟩
                  case rest =>
                    obtain ⟨⟨b, rfl, hlb⟩, hbc2⟩ := hcut
                    have hbx2 := hbx.trans hbc2
                    cases b
                    · have HN := Hid.mk (HT1.out (by
                        rcases Int.lt_or_le HV (wv X1 Y1) with h | h
                        · have := hlb.2 h; cases this
                        · exact h))
                      clear hlb HT1 HT2
                      go_wp2
                      go_roundg (L.length - (t + 1))
                      case measure => omega
                      case rel => exact ⟨hbx2, t + 1, by omega, rfl, by go_num, HN.out⟩
                    · have HN := Hid.mk (HT2.out (hlb.1 rfl))
                      clear hlb HT1 HT2
                      go_wp2
                      go_meet
                      case rel => exact ⟨hbx2, t, ht, rfl, HN.out⟩
                · have htb : decide ((t : Int) < (L.length : Int)) = false := decide_eq_false (by omega)
                  go_wp2
                  go_meet
                  case rel => exact ⟨hbx, t, ht, rfl, HBE.out, fun h => absurd h htl⟩
            case rest =>
              obtain ⟨hbx, t, ht, rfl, hpat⟩ := hcut
              have HPAT := Hid.mk hpat
              clear hpat
              have hE3 := hE.later hbx
              have d0 := hbx.cell c0
              have d1 := hbx.cell c1
              have b0t := hbx.cell b0z
              have HI3 := Hid.mk (HI2.out.later hbx)
              clear hE c0 c1 b0z HI2 hbx
              generalize wc = w3 at *
              have hsl := fun wx => slice_toE wx ao L.length cap t (by omega)
              have hsf := fun wx => slice_fromE wx ao L.length cap t ht
              go_wp2_with (first | (at_builtin; refine wpList_append_src _ rfl _ _ 82 rfl w3.heap.size 131 i0 (.agg #[.string ByteArray.empty, .int .i64 0, .int .i64 0]) 3 32 Tryz.underlying82 hi hz0 hz1 hz2 rfl (by decide) _ 0 [] rfl ?o1 _ t (ecells (L.take t)) rfl ?o2 ?c1 ?c2 ?c3 ?c4 ?c5 ?_))
              case o1 => exact World.ownsRow_nil _ _ _ _
              case o2 => exact srcE_to hE3 ht
              case c1 => rw [ecells_len]; simp; omega
              case c2 => exact ecells_one _
              case c3 => unfold maxLen; omega
              case c4 => omega
              case c5 => exact Nat.le_refl _
              intro v4 w4 hown4 hgrow4
              have hb4 : Bel w3 w4 := (Bel.refl _).grown hgrow4 (fun g hg => by cases hg)
              have hown4p : w4.ownsRow w3.heap.size 131 3 v4 t (ecells (L.take t)) := by simpa using hown4
              have hown4' := Hid.mk hown4p
              have f0 := hb4.cell d0
              have f1 := hb4.cell d1
              have b0u := hb4.cell b0t
              have hE4 := Hid.mk (hE3.later hb4)
              have hsz4 := hb4.size
              have hgl : gB < w4.heap.size := World.block_lt_of_cell? w4 _ b0u
              have hpl : p13 < w4.heap.size := World.block_lt_of_cell? w4 _ f0
              clear hown4 hown4p hgrow4 hsl hE3
              go_upto_region 17 with fail
              go_region_held_law (fun w' => Bel w3 w' ∧ w'.cell? ⟨gB, i * 2, none⟩ = some (.string idj) ∧ w'.cell? ⟨p13, 0, none⟩ = some (.int .i64 X) ∧ w'.cell? ⟨p13, 1, none⟩ = some (.int .i64 Y)) ((exact ⟨by (repeat (first | exact Bel.refl _ | assumption | refine Bel.step_alloc ?_ _ | refine Bel.step_drew ?_ | refine Bel.step_drewN ?_ _ | refine Bel.step_set ?_ (by simp <;> omega) _ | refine Bel.trans ?_ (by assumption))), Bel.cell (a := w3) (by (repeat (first | exact Bel.refl _ | assumption | refine Bel.step_alloc ?_ _ | refine Bel.step_drew ?_ | refine Bel.step_drewN ?_ _ | refine Bel.step_set ?_ (by simp <;> omega) _ | refine Bel.trans ?_ (by assumption)))) b0t, Bel.cell (a := w3) (by (repeat (first | exact Bel.refl _ | assumption | refine Bel.step_alloc ?_ _ | refine Bel.step_drew ?_ | refine Bel.step_drewN ?_ _ | refine Bel.step_set ?_ (by simp <;> omega) _ | refine Bel.trans ?_ (by assumption)))) d0, Bel.cell (a := w3) (by (repeat (first | exact Bel.refl _ | assumption | refine Bel.step_alloc ?_ _ | refine Bel.step_drew ?_ | refine Bel.step_drewN ?_ _ | refine Bel.step_set ?_ (by simp <;> omega) _ | refine Bel.trans ?_ (by assumption)))) d1⟩))
                ((refine step_append_own rfl (.tmp 67) (.tmp 75) 82 rfl w3.heap.size 131 i0 (.agg #[.string ByteArray.empty, .int .i64 0, .int .i64 0]) 3 32 Tryz.underlying82 hi hz0 hz1 hz2 rfl (by decide) v4 t (ecells (L.take t)) (by simp [Act.eval]) (World.ownsRow.alloc hown4'.out _) ⟨w4.heap.size, 0, none⟩ 1 1 [.string idj, .int .i64 X, .int .i64 Y] (by simp [Act.eval]) rfl (cell_three' _ _ _ _ _ _ rfl) (by intro u hu; simp at hu; rcases hu with rfl | rfl | rfl <;> rfl) (by unfold maxLen; omega) (by omega) (by simp; omega) ?_
                  intro v5 w5 hown5 hgrow5
                  have hb5 : Bel w3 w5 := by
                    first
                    | exact ((hb4.step_drew).step_alloc _).grown hgrow5 (fun g hg => (World.ownsRow.lt hown4'.out g hg).1)
                    | exact ((hb4.step_alloc _).step_drew).grown hgrow5 (fun g hg => (World.ownsRow.lt hown4'.out g hg).1)
                  have H5 := Hid.mk hown5
                  clear hown5 hgrow5))
              all_goals
                have hE5 := Hid.mk ((HI3.out.later hb5))
                have hEs : EntsAt w5 (.slice ao L.length cap) L := RowAt.of_owns hE5.out.2.1
                have hsz5 := hb5.size
                clear hE4 d0 d1 b0t f0 f1 b0u
                go_wp2_with (first | (at_builtin; refine wpList_append_src _ rfl _ _ 82 rfl w3.heap.size 131 i0 (.agg #[.string ByteArray.empty, .int .i64 0, .int .i64 0]) 3 32 Tryz.underlying82 hi hz0 hz1 hz2 rfl (by decide) v5 (t + 1) (ecells (L.take t) ++ [.string idj, .int .i64 X, .int .i64 Y]) ?p0 H5.out _ (L.length - t) (ecells (L.drop t)) rfl ?p1 ?p2 ?p3 ?p4 ?p5 ?p6 ?_))
                case p0 => rfl
                case p1 => exact srcE_from hEs ht
                case p2 => rw [ecells_len, List.length_drop]
                case p3 => exact ecells_one _
                case p4 => unfold maxLen; omega
                case p5 => omega
                case p6 => exact hsz5
                intro v6 w6 hown6 hgrow6
                have hb6 : Bel w3 w6 := hb5.grown hgrow6 (fun g hg => (World.ownsRow.lt H5.out g hg).1)
                have H6 : Hid (PtI W B (18 * i + (q + 1)) v6 (L.take t ++ [(idj, X, Y)] ++ L.drop t) w6) := by
                  have hl : (L.take t ++ [(idj, X, Y)] ++ L.drop t).length = t + 1 + (L.length - t) := by simp; omega
                  refine ⟨HI3.out.1.trans hb6, ?_, ?_, ?_⟩
                  · rw [hl, ecells_app, ecells_app]
                    rw [show ecells (L.take t) ++ ecells [(idj, X, Y)] ++ ecells (L.drop t) = ecells (L.take t) ++ Value.string idj :: Value.int .i64 X :: Value.int .i64 Y :: ecells (L.drop t) by simp [ecells]]
                    exact World.ownsRow.mono hown6 HI3.out.1.size
                  · intro x hx
                    rcases List.mem_append.1 hx with h | h
                    · rcases List.mem_append.1 h with h | h
                      · exact HI3.out.2.2.1 x (List.mem_of_mem_take h)
                      · have : x = (idj, X, Y) := by simpa using h
                        rw [this]
                        exact ⟨hmem.out, hX, hY⟩
                    · exact HI3.out.2.2.1 x (List.mem_of_mem_drop h)
                  · rw [hl]
                    have := HI3.out.2.2.2
                    omega
                have H7 : Hid (PtQ key letter per B ((ptsTo key letter per B i).length + (q + 1)) (L.take t ++ [(idj, X, Y)] ++ L.drop t)) := HQS.out q L t X Y HQ.out (by have := HPW.out; omega) ht (by rw [← HHV.out]; exact HPAT.out) (by rw [HVXY.out, HHV.out])
                clear hown6 hgrow6
                go_wp2
                go_roundg (pw - (q + 1))
                case measure => omega
                case rel => exact ⟨q + 1, _, rfl, by omega, by go_num, H6.out, H7.out⟩
        · have hqb : decide ((q : Int) < (pw : Int)) = false := decide_eq_false (by omega)
          obtain rfl : q = pw := by omega
          have HI := Hid.mk hI
          clear hI
          go_wp2
          go_roundg (B.length - (i + 1))
          case measure => omega
          case rel => exact ⟨i + 1, L, rfl, by omega, by go_num, ⟨HI.out.1, HI.out.2.1, HI.out.2.2.1, by have := HI.out.2.2.2; omega⟩, HQN.out q L HQ.out (by have := HPW.out; omega)⟩
    · have hib : decide ((i : Int) < (B.length : Int)) = false := decide_eq_false (by omega)
      clear hI
      go_wp2
      go_ret
      obtain ⟨s1, s2, s3, s4⟩ := HI0.out
      obtain rfl : i = B.length := by omega
      exact ⟨_, L0, rfl, hbel0.trans s1, ⟨RowAt.of_owns s2, fun g hg => Nat.le_trans hbel0.size (World.ownsRow.lt s2 g hg).1⟩, by omega, s3, fun h => absurd HPT.out h, by rw [HPF.out]; exact HQ0.out⟩

end Go.Proofs.YtgfildmmcbjpnabGreat

namespace Go.Proofs.YtgfildmmcbjpnabGreat
open Go.RowKit

theorem RTableE.from {w w1 : World} {c : Cfg} {B : List BK} {e : Ending} {w' : World} (h : RTableE w1 c B e w') (b : Bel w w1) : RTableE w c B e w' := by
  obtain ⟨v, E, h1, h2, h3, h4⟩ := h
  exact ⟨v, E, h1, b.trans h2, ⟨h3.1, fun g hg => Nat.le_trans b.size (h3.2 g hg)⟩, h4⟩
theorem RTableP.tab {w : World} {c : Cfg} {B : List BK} {letter : UInt8} {per : Int} {e : Ending} {w' : World} (h : RTableP w c B letter per e w') (hB : PoolOK B) (hl : (c.alg = 2 ∧ letter = 114 ∧ per = c.points) ∨ (c.alg = 4 ∧ letter = 109 ∧ per = 1)) : RTableE w c B e w' := by
  obtain ⟨v, E, h1, h2, h3, h4, h5, h6, h7⟩ := h
  refine ⟨v, E, h1, h2, h3, h4, h5, h6, ?_⟩
  unfold TabEq
  rw [h7]
  rcases Int.lt_or_le (wSum B) 1 with hw | hw
  · rw [pts_none hB hw]
    unfold mkF
    rw [if_pos hw]
  · unfold mkF
    rw [if_neg (by omega)]
    rcases hl with ⟨h8, rfl, rfl⟩ | ⟨h8, rfl, rfl⟩
    · rw [if_neg (by omega), if_pos h8]
    · rw [if_neg (by omega), if_neg (by omega), if_neg (by omega), if_pos h8]

set_option maxRecDepth 100000 in
set_option maxHeartbeats 1000000 in
theorem dtable_is (c : Cfg) (vB : Value) (B : List BK) (w : World) (hc : c.OK) (hP : PoolAt w vB B) (hB : PoolOK B) :
    Calls Tryz.prog 91 #[.agg c.cells, vB] w (RTableE w c B) := by
  have hsl := fun wx (b : Bel w wx) (ha : c.alg = 1) => dslots_is c vB B wx hc (hP.later b) hB ha
  have hsc := fun wx (b : Bel w wx) (ha : c.alg = 3) => dscores_is c vB B wx hc (hP.later b) hB ha
  have hpr := fun wx (b : Bel w wx) (ha : c.alg = 2) => (dpoints_is c vB B 114 c.points wx hc (hP.later b) hB (by have := hc.2.2.2.2.2.1; omega) hc.2.2.2.2.2.2.1 (Or.inl ha)).mono (fun e w' h => h.tab hB (Or.inl ⟨ha, rfl, rfl⟩))
  have hpm := fun wx (b : Bel w wx) (ha : c.alg = 4) => (dpoints_is c vB B 109 1 wx hc (hP.later b) hB (by decide) (by decide) (Or.inr ha)).mono (fun e w' h => h.tab hB (Or.inr ⟨ha, rfl, rfl⟩))
  have ha : c.alg = 1 ∨ c.alg = 2 ∨ c.alg = 3 ∨ c.alg = 4 := by have := hc.1; have := hc.2.1; omega
  obtain ⟨CC, hCC⟩ : ∃ CC, CC = c := ⟨_, rfl⟩
  have HC := Hid.mk hCC
  clear hCC hP hB hc
  obtain ⟨alg, slots, points, probes, key, formats⟩ := c
  simp only [Cfg.cells] at *
  rcases ha with rfl | rfl | rfl | rfl
  · clear hsc hpr hpm
    replace hsl := fun wx b => hsl wx b rfl
    go_enter Tryz.func91, Tryz.ntmps91
    go_wp2_with fail
    refine (hsl _ (by (repeat (first | exact Bel.refl _ | assumption | refine Bel.step_alloc ?_ _ | refine Bel.step_drew ?_ | refine Bel.step_drewN ?_ _ | refine Bel.step_set ?_ (by simp <;> omega) _ | refine Bel.trans ?_ (by assumption))))).mono ?_
    intro e w2 hr
    have hr2 := RTableE.from (w := w) hr (by (repeat (first | exact Bel.refl _ | assumption | refine Bel.step_alloc ?_ _ | refine Bel.step_drew ?_ | refine Bel.step_drewN ?_ _ | refine Bel.step_set ?_ (by simp <;> omega) _ | refine Bel.trans ?_ (by assumption))))
    obtain ⟨v, E, rfl, -⟩ := id hr2
    have HR := Hid.mk hr2
    clear hr hr2 hsl
    go_wp2
    go_ret
    exact HR.out
  · clear hsc hsl hpm
    replace hpr := fun wx b => hpr wx b rfl
    go_enter Tryz.func91, Tryz.ntmps91
    go_wp2_with fail
    refine (hpr _ (by (repeat (first | exact Bel.refl _ | assumption | refine Bel.step_alloc ?_ _ | refine Bel.step_drew ?_ | refine Bel.step_drewN ?_ _ | refine Bel.step_set ?_ (by simp <;> omega) _ | refine Bel.trans ?_ (by assumption))))).mono ?_
    intro e w2 hr
    have hr2 := RTableE.from (w := w) hr (by (repeat (first | exact Bel.refl _ | assumption | refine Bel.step_alloc ?_ _ | refine Bel.step_drew ?_ | refine Bel.step_drewN ?_ _ | refine Bel.step_set ?_ (by simp <;> omega) _ | refine Bel.trans ?_ (by assumption))))
    obtain ⟨v, E, rfl, -⟩ := id hr2
    have HR := Hid.mk hr2
    clear hr hr2 hpr
    go_wp2
    go_ret
    exact HR.out
  · clear hsl hpr hpm
    replace hsc := fun wx b => hsc wx b rfl
    go_enter Tryz.func91, Tryz.ntmps91
    go_wp2_with fail
    refine (hsc _ (by (repeat (first | exact Bel.refl _ | assumption | refine Bel.step_alloc ?_ _ | refine Bel.step_drew ?_ | refine Bel.step_drewN ?_ _ | refine Bel.step_set ?_ (by simp <;> omega) _ | refine Bel.trans ?_ (by assumption))))).mono ?_
    intro e w2 hr
    have hr2 := RTableE.from (w := w) hr (by (repeat (first | exact Bel.refl _ | assumption | refine Bel.step_alloc ?_ _ | refine Bel.step_drew ?_ | refine Bel.step_drewN ?_ _ | refine Bel.step_set ?_ (by simp <;> omega) _ | refine Bel.trans ?_ (by assumption))))
    obtain ⟨v, E, rfl, -⟩ := id hr2
    have HR := Hid.mk hr2
    clear hr hr2 hsc
    go_wp2
    go_ret
    exact HR.out
  · clear hsc hpr hsl
    replace hpm := fun wx b => hpm wx b rfl
    go_enter Tryz.func91, Tryz.ntmps91
    go_wp2_with fail
    refine (hpm _ (by (repeat (first | exact Bel.refl _ | assumption | refine Bel.step_alloc ?_ _ | refine Bel.step_drew ?_ | refine Bel.step_drewN ?_ _ | refine Bel.step_set ?_ (by simp <;> omega) _ | refine Bel.trans ?_ (by assumption))))).mono ?_
    intro e w2 hr
    have hr2 := RTableE.from (w := w) hr (by (repeat (first | exact Bel.refl _ | assumption | refine Bel.step_alloc ?_ _ | refine Bel.step_drew ?_ | refine Bel.step_drewN ?_ _ | refine Bel.step_set ?_ (by simp <;> omega) _ | refine Bel.trans ?_ (by assumption))))
    obtain ⟨v, E, rfl, -⟩ := id hr2
    have HR := Hid.mk hr2
    clear hr hr2 hpm
    go_wp2
    go_ret
    exact HR.out

set_option maxRecDepth 100000 in
set_option maxHeartbeats 1000000 in
theorem dmade_is (c : Cfg) (gen : Int) (vB : Value) (B : List BK) (w : World) (hc : c.OK) (hP : PoolAt w vB B) (hB : PoolOK B) (hg : I64 gen) :
    Calls Tryz.prog 52 #[.agg c.cells, .int .i64 gen, vB] w (RStateE w c gen vB B) := by
  have htb := fun wx (b : Bel w wx) => dtable_is c vB B wx hc (hP.later b) hB
  obtain ⟨aoB, capB, rfl⟩ : ∃ ao cap, vB = .slice ao B.length cap := by
    obtain ⟨ao, cap, h, _⟩ := hP.open
    exact ⟨ao, cap, h⟩
  have HP := Hid.mk hP
  have HC := Hid.mk hc
  have HB := Hid.mk hB
  clear hP hc hB
  obtain ⟨alg, slots, points, probes, key, formats⟩ := c
  simp only [Cfg.cells] at *
  go_enter Tryz.func52, Tryz.ntmps52
  go_wp2_with fail
  refine (htb _ (by (repeat (first | exact Bel.refl _ | assumption | refine Bel.step_alloc ?_ _ | refine Bel.step_drew ?_ | refine Bel.step_drewN ?_ _ | refine Bel.step_set ?_ (by simp <;> omega) _ | refine Bel.trans ?_ (by assumption))))).mono ?_
  rintro e w1 ⟨v, E, rfl, hb1, hE, hlen, hgood, hsl, htq⟩
  have HTQ := Hid.mk htq
  clear htq
  obtain ⟨aoE, capE, rfl⟩ : ∃ ao cap, v = .slice ao E.length cap := by
    rcases hE.1.form with ⟨rfl, rfl⟩ | ⟨g, cap, rfl, _⟩
    · exact ⟨none, 0, rfl⟩
    · exact ⟨_, cap, rfl⟩
  have hbw : Bel w w1 := (Bel.step_alloc (Bel.refl w) _).trans hb1
  have m0 := hb1.cell (p := ⟨w.heap.size, 0, none⟩) (v := .int .i64 alg) (by simp)
  have m1 := hb1.cell (p := ⟨w.heap.size, 1, none⟩) (v := .int .i64 slots) (by simp)
  have m2 := hb1.cell (p := ⟨w.heap.size, 2, none⟩) (v := .int .i64 points) (by simp)
  have m3 := hb1.cell (p := ⟨w.heap.size, 3, none⟩) (v := .int .i64 probes) (by simp)
  have m4 := hb1.cell (p := ⟨w.heap.size, 4, none⟩) (v := .string key) (by simp)
  have m5 := hb1.cell (p := ⟨w.heap.size, 5, none⟩) (v := .int .i64 formats) (by simp)
  have HH : Hid (EntsNew (w.alloc (.cells #[.int .i64 alg, .int .i64 slots, .int .i64 points, .int .i64 probes, .string key, .int .i64 formats] 30)).heap.size w1 (.slice aoE E.length capE) E ∧ E.length ≤ 140000 ∧ (∀ x ∈ E, GoodE B x) ∧ (¬ Pointed ⟨alg, slots, points, probes, key, formats⟩ → E = [] ∨ (E.length : Int) = slots)) := ⟨hE, hlen, hgood, hsl⟩
  have hs := hbw.size
  clear htb hb1 hE hlen hgood hsl
  go_wp2
  go_ret
  obtain ⟨g1, g2, g3, g4⟩ := HH.out
  refine ⟨w1.heap.size, _, E, rfl, hbw.step_alloc _, hs, ⟨⟨by simp, by simp, by simp, by simp, by simp, by simp⟩, by simp, by simp, by simp, HP.out.later (hbw.step_alloc _), g1.1.later ((Bel.refl _).step_alloc _)⟩, ?_, ⟨HC.out, hg, HB.out, g2, fun x hx => (g3 x hx).1, g4⟩, fun x hx => (g3 x hx).2, HTQ.out⟩
  intro g hg
  have := g1.2 g hg
  simp at this
  omega

end Go.Proofs.YtgfildmmcbjpnabGreat
