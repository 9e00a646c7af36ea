import Derived.Test.YtgfildmmcbjpnabGreatLAB
import Derived.Test.YtgfildmmcbjpnabGreatLAH
import Derived.Test.YtgfildmmcbjpnabGreatLAI
import Derived.Test.YtgfildmmcbjpnabGreatLAO
import Derived.Test.YtgfildmmcbjpnabGreatLAW
import Derived.Test.YtgfildmmcbjpnabGreatLAY
namespace Go.Proofs.YtgfildmmcbjpnabGreat
open Go.RowKit

/-- an entry of the document's, as a point and a name -/
def enV (x : EN) : NI := (wv x.2.1 x.2.2, x.1)
def nmE (B : List BK) (e : EI) : NI := (e.1, nameF B e.2)
/-- the document's table is the program's, by names -/
def TabEq (c : Cfg) (B : List BK) (E : List EN) : Prop := E.map enV = (mkF c B).map (nmE B)
def RTableE (w : World) (c : Cfg) (B : List BK) (e : Ending) (w' : World) : Prop := ∃ (v : Value) (E : List EN), e = .returned v ∧ Bel w w' ∧ EntsNew w.heap.size w' v E ∧ E.length ≤ 140000 ∧ (∀ x ∈ E, GoodE B x) ∧ (¬ Pointed c → E = [] ∨ (E.length : Int) = c.slots) ∧ TabEq c B E
theorem RTableE.any {w : World} {c : Cfg} {B : List BK} {e : Ending} {w' : World} (h : RTableE w c B e w') : RTable w c B e w' := by
  obtain ⟨v, E, h1, h2, h3, h4, h5, h6, -⟩ := h
  exact ⟨v, E, h1, h2, h3, h4, h5, h6⟩
theorem TabEq.none {c : Cfg} {B : List BK} (h : wSum B < 1) : TabEq c B [] := by
  unfold TabEq mkF
  rw [if_pos h]
  rfl
/-- a row of entries, and behind it a word's box with its value -/
def ScE (w : World) (v : Value) (k : Nat) (L : List EN) (u : Value) (X : Int) (wx : World) : Prop := ∃ S : World, Bel w S ∧ S.ownsRow w.heap.size 131 3 v k (ecells L) ∧ Bel S wx ∧ BoxV S.heap.size wx u X
theorem ScE.bel {w : World} {v : Value} {k : Nat} {L : List EN} {u : Value} {X : Int} {wx : World} (h : ScE w v k L u X wx) : Bel w wx := by
  obtain ⟨S, h1, _, h3, _⟩ := h
  exact h1.trans h3
theorem ScE.later {w : World} {v : Value} {k : Nat} {L : List EN} {u : Value} {X : Int} {wx wy : World} (h : ScE w v k L u X wx) (b : Bel wx wy) : ScE w v k L u X wy := by
  obtain ⟨S, h1, h2, h3, h4⟩ := h
  exact ⟨S, h1, h2, h3.trans b, h4.later b⟩
theorem ScE.own {w : World} {v : Value} {k : Nat} {L : List EN} {u : Value} {X : Int} {wx : World} (h : ScE w v k L u X wx) : wx.ownsRow w.heap.size 131 3 v k (ecells L) := by
  obtain ⟨S, _, h2, h3, _⟩ := h
  exact owns_later h2 h3
theorem ScE.open {w : World} {v : Value} {k : Nat} {L : List EN} {u : Value} {X : Int} {wx : World} (h : ScE w v k L u X wx) : ∃ (p : Nat) (x y : Int), u = .pointer (some ⟨p, 0, none⟩) ∧ wx.cell? ⟨p, 0, none⟩ = some (.int .i64 x) ∧ wx.cell? ⟨p, 1, none⟩ = some (.int .i64 y) ∧ wx.frozen? ⟨p, 0, none⟩ = false ∧ wx.frozen? ⟨p, 1, none⟩ = false ∧ W32 x ∧ W32 y ∧ wv x y = X ∧
    ∀ (wy : World) (a b : Int), Bel wx wy → W32 a → W32 b → ScE w v k L u (wv a b) ((wy.setCell ⟨p, 0, none⟩ (.int .i64 a)).setCell ⟨p, 1, none⟩ (.int .i64 b)) := by
  obtain ⟨S, h1, h2, h3, h4⟩ := h
  have h4' := h4
  obtain ⟨p, x, y, hu, hp, c0, c1, f0, f1, hx, hy, hX⟩ := h4
  refine ⟨p, x, y, hu, c0, c1, f0, f1, hx, hy, hX, fun wy a b hb ha hb' => ⟨S, h1, h2, ?_, ?_⟩⟩
  · exact ((h3.trans hb).step_set (p := ⟨p, 0, none⟩) hp _).step_set (p := ⟨p, 1, none⟩) hp _
  · rw [hu]
    exact BoxV.stored hp (hb.cell c0) (hb.cell c1) (hb.frozen c0 f0) (hb.frozen c1 f1) ha hb' rfl
/-- the best so far, on both sides -/
def WinIs (B : List BK) (p : Int × Int) (s : ByteArray) (X : Int) : Prop := s = nameF B p.1 ∧ X = p.2 ∧ (p.1 < 0 ∨ ∃ i, ∃ (_ : i < B.length), p.1 = (i : Nat))
theorem WinIs.emp {B : List BK} {p : Int × Int} {s : ByteArray} {X : Int} (h : WinIs B p s X) (hB : PoolOK B) : s.toList.isEmpty = true ↔ p.1 < 0 := by
  obtain ⟨rfl, -, h3⟩ := h
  rw [isEmpty_iff]
  constructor
  · intro h
    rcases h3 with h3 | ⟨i, hi, he⟩
    · exact h3
    · rw [he, nameF_at hi] at h
      have := (hB.2 _ (List.getElem_mem hi)).1
      omega
  · intro h
    unfold nameF
    rw [if_pos h]
    rfl
theorem winTo_more {key : ByteArray} {s i : Nat} {id : ByteArray} {m : Int × Int} {k : Nat} (h : (winTo key s i id m k).1 < 0 ∨ (winTo key s i id m k).2 < hsh key 104 [s, k] id) : winTo key s i id m (k + 1) = ((i : Int), hsh key 104 [s, k] id) := by
  rw [winTo]
  rw [if_pos h]
theorem winTo_stay {key : ByteArray} {s i : Nat} {id : ByteArray} {m : Int × Int} {k : Nat} (h : ¬ ((winTo key s i id m k).1 < 0 ∨ (winTo key s i id m k).2 < hsh key 104 [s, k] id)) : winTo key s i id m (k + 1) = winTo key s i id m k := by
  rw [winTo]
  rw [if_neg h]
theorem winnerTo_at {key : ByteArray} {s : Nat} {B : List BK} {i : Nat} (h : i < B.length) : winnerTo key s B (i + 1) = winTo key s i B[i].1 (winnerTo key s B i) B[i].2.toNat := by
  rw [winnerTo, List.getElem?_eq_getElem h]
theorem winner_none {key : ByteArray} {s : Nat} {B : List BK} (hB : PoolOK B) (h : (winnerTo key s B B.length).1 < 0) : wSum B < 1 := by
  rcases Int.lt_or_le (wSum B) 1 with h1 | h1
  · exact h1
  · obtain ⟨b, hb, hb1⟩ := wSum_pos h1 (fun b hb => (hB.2 b hb).2.2.1)
    obtain ⟨i, hi, rfl⟩ := List.mem_iff_getElem.1 hb
    have := ((winnerTo_spec key s B B.length (Nat.le_refl _)).2.2 i hi hi 0 (by omega)).1
    omega
theorem winner_some {key : ByteArray} {s : Nat} {B : List BK} (hB : PoolOK B) (h : ¬ (winnerTo key s B B.length).1 < 0) : 1 ≤ wSum B := by
  rcases (winnerTo_spec key s B B.length (Nat.le_refl _)).2.1 with h1 | ⟨p, hp, -, -, j, hj, -⟩
  · rw [h1] at h
    exact absurd (show ((-1 : Int), (0 : Int)).1 < 0 by decide) h
  · exact wSum_ge (List.getElem_mem hp) (by omega) (fun b hb => (hB.2 b hb).2.2.1)
theorem rend_tab {c : Cfg} {B : List BK} {L : List EN} (ha : c.alg = 3) (hw : 1 ≤ wSum B) (hL : L = (List.range c.slots.toNat).map fun s => (nameF B (winnerF c.key B s), 0, 0)) : TabEq c B L := by
  unfold TabEq mkF
  rw [if_neg (by omega), if_neg (by omega), if_neg (by omega), if_pos ha, hL, List.map_map, List.map_map]
  rfl

set_option maxRecDepth 100000 in
set_option maxHeartbeats 4000000 in
theorem dscores_is (c : Cfg) (vB : Value) (B : List BK) (w : World) (hc : c.OK) (hP : PoolAt w vB B) (hB : PoolOK B) (ha3 : c.alg = 3) :
    Calls Tryz.prog 108 #[.agg c.cells, vB] w (RTableE w c B) := by
  have HPO := Hid.mk hB
  have HA3 := Hid.mk ha3
  obtain ⟨i0, hi, hz0, hz1, hz2⟩ := info_parts Tryz.infoEN
  have hc' : Hid c.OK := hc
  obtain ⟨-, -, k3, k4, -, -, -, -, -, k9, -, -⟩ := hc
  obtain ⟨aoB, capB, rfl, hcB⟩ : ∃ ao cap, vB = .slice ao B.length cap ∧ ∀ j (hj : j < B.length), ∃ g, ao = some ⟨g, 0, none⟩ ∧ w.cell? ⟨g, j * 2, none⟩ = some (.string B[j].1) ∧ w.cell? ⟨g, j * 2 + 1, none⟩ = some (.int .i64 B[j].2) := by
    rcases hP.form with ⟨rfl, rfl⟩ | ⟨g, cap, rfl, _, _, hc⟩
    · exact ⟨_, _, rfl, fun j hj => by simp at hj⟩
    · exact ⟨_, _, rfl, fun j hj => ⟨g, rfl, hc j hj⟩⟩
  generalize hcc : c = cc at *
  have HW1 : Hid (∀ k, (winnerTo cc.key k B B.length).1 < 0 → TabEq cc B []) := fun k h => TabEq.none (winner_none HPO.out h)
  have HW2 : Hid (∀ L : List EN, (∃ k, 0 ≤ (winnerTo cc.key k B B.length).1) → L = (List.range cc.slots.toNat).map (fun s => (nameF B (winnerF cc.key B s), 0, 0)) → TabEq cc B L) := fun L ⟨k, hk⟩ hL => rend_tab HA3.out (winner_some HPO.out (show ¬ (winnerTo cc.key k B B.length).1 < 0 by omega)) hL
  clear HA3 ha3
  obtain ⟨alg, slots, points, probes, key, formats⟩ := cc
  simp only at HW1 HW2
  simp only at k3 k4 k9
  simp only [Cfg.cells]
  go_enter Tryz.func108, Tryz.ntmps108
  go_wp2
  have hbox1 : (w.alloc (.cells #[.int .i64 alg, .int .i64 slots, .int .i64 points, .int .i64 probes, .string key, .int .i64 formats] 30)).cell? ⟨w.heap.size, 1, none⟩ = some (.int .i64 slots) := by simp
  have hbox4 : (w.alloc (.cells #[.int .i64 alg, .int .i64 slots, .int .i64 points, .int .i64 probes, .string key, .int .i64 formats] 30)).cell? ⟨w.heap.size, 4, none⟩ = some (.string key) := by simp
  have hbel0 : Bel w (w.alloc (.cells #[.int .i64 alg, .int .i64 slots, .int .i64 points, .int .i64 probes, .string key, .int .i64 formats] 30)) := by (repeat (first | exact Bel.refl _ | assumption | refine Bel.step_alloc ?_ _ | refine Bel.step_drew ?_ | refine Bel.step_drewN ?_ _ | refine Bel.step_set ?_ (by simp <;> omega) _ | refine Bel.trans ?_ (by assumption)))
  have hbx0 : w.heap.size < (w.alloc (.cells #[.int .i64 alg, .int .i64 slots, .int .i64 points, .int .i64 probes, .string key, .int .i64 formats] 30)).heap.size := by simp
  generalize w.alloc (.cells #[.int .i64 alg, .int .i64 slots, .int .i64 points, .int .i64 probes, .string key, .int .i64 formats] 30) = W at *
  generalize hpx : w.heap.size = px at *
  have HPX : Hid (w.heap.size = px) := hpx
  clear hpx
  go_loopg [5, 6] slots.toNat (fun r v i wr => ∃ (k : Nat) (L : List EN), r = slots.toNat - k ∧ (k : Int) ≤ slots ∧ i = .int .i64 k ∧ L.length = k ∧ wr.ownsRow W.heap.size 131 3 v k (ecells L) ∧ Bel W wr ∧ (∀ x ∈ L, GoodE B x) ∧ L = (List.range k).map (fun s => (nameF B (winnerF key B s), 0, 0)) ∧ (0 < k → ∃ j, 0 ≤ (winnerTo key j B B.length).1))
  case atStart => exact ⟨0, [], by omega, by omega, rfl, rfl, World.ownsRow_nil _ _ _ _, Bel.refl _, fun x hx => (by simp at hx), rfl, fun h => by omega⟩
  case round =>
    obtain ⟨k, L, hr, hks, rfl, hL, hown, hb, hall, hLe, hLs⟩ := hrel
    have HLE := Hid.mk hLe
    have HLS := Hid.mk hLs
    clear hLe hLs
    have d1 := hb.cell hbox1
    by_cases hlt : (k : Int) < slots
    · have hltb : decide ((k : Int) < slots) = true := decide_eq_true hlt
      go_wp2_with fail
      have hSc0 : ScE W u5 k L (.pointer (some ⟨wr.heap.size, 0, none⟩)) 0 (wr.alloc (.cells #[.int .i64 0, .int .i64 0] 129)) := ⟨wr, hb, hown, by (repeat (first | exact Bel.refl _ | assumption | refine Bel.step_alloc ?_ _ | refine Bel.step_drew ?_ | refine Bel.step_drewN ?_ _ | refine Bel.step_set ?_ (by simp <;> omega) _ | refine Bel.trans ?_ (by assumption))), BoxV.new (Nat.le_refl _) W32_zero W32_zero rfl _⟩
      clear hown hb d1
      generalize wr.heap.size = p8 at *
      generalize wr.alloc (.cells #[.int .i64 0, .int .i64 0] 129) = w8 at *
      go_loopg [7, 9] B.length (fun r b i wx => ∃ (s : ByteArray) (j : Nat), r = B.length - j ∧ j ≤ B.length ∧ b = .string s ∧ i = .int .i64 j ∧ Best B s ∧ ∃ X, ScE W u5 k L (.pointer (some ⟨p8, 0, none⟩)) X wx ∧ WinIs B (winnerTo key k B j) s X)
      case atStart => exact ⟨_, 0, by omega, by omega, rfl, rfl, Or.inl rfl, 0, hSc0, rfl, rfl, Or.inl (by show (-1 : Int) < 0; decide)⟩
      case round =>
        obtain ⟨s, j, hrj, hj, rfl, rfl, hbest, X, hSc, hwin⟩ := hrel
        have HWIN := Hid.mk hwin
        clear hwin
        by_cases hltj : j < B.length
        · have hltjb : decide ((j : Int) < (B.length : Int)) = true := decide_eq_true (by omega)
          obtain ⟨gB, rfl, b0, b1⟩ := hcB j hltj
          have hmem : Hid (∃ b ∈ B, b.1 = B[j].1) := ⟨B[j], List.getElem_mem hltj, rfl⟩
          obtain ⟨a1, a2, a3, a4⟩ := hB.2 _ (List.getElem_mem hltj)
          have b0W := hbel0.cell b0
          have b1W := hbel0.cell b1
          have hB8 := hB.1
          clear hcB hP b0 b1
          have HNX : Hid (winnerTo key k B (j + 1) = winTo key k j B[j].1 (winnerTo key k B j) B[j].2.toNat) := winnerTo_at hltj
          have HNM : Hid (nameF B (j : Int) = B[j].1) := nameF_at hltj
          have HJL := Hid.mk hltj
          generalize B[j] = bj at *
          obtain ⟨idj, wt⟩ := bj
          simp only at b0W b1W a1 a2 a3 a4 hmem HNX HNM
          go_wp2_with fail
          go_loopg [7, 10] 6 (fun r b i wx => ∃ (s : ByteArray) (q : Nat), r = 6 - q ∧ (q : Int) ≤ wt ∧ b = .string s ∧ i = .int .i64 q ∧ Best B s ∧ ∃ X, ScE W u5 k L (.pointer (some ⟨p8, 0, none⟩)) X wx ∧ WinIs B (winTo key k j idj (winnerTo key k B j) q) s X)
          case atStart => exact ⟨s, 0, by omega, by omega, rfl, rfl, hbest, X, hSc, HWIN.out⟩
          case round =>
            obtain ⟨s', q, hrq, hq, rfl, rfl, hbest', X', hSc', hwin'⟩ := hrel
            have HWIN' := Hid.mk hwin'
            clear hwin'
            have b0x := hSc'.bel.cell b0W
            have b1x := hSc'.bel.cell b1W
            have x4 := hSc'.bel.cell hbox4
            by_cases hltq : (q : Int) < wt
            · go_wp2_with fail
              refine (ones_is _ 2 _ (by omega) (by omega) (by decide)).mono ?_
              rintro e w1 ⟨a, rfl, hb1, ha⟩
              have HA : Hid (a = onesF k 2) := ha
              have ha2 : a.size = 2 := by rw [HA.out, ones2]; rfl
              clear ha
              go_wp2_with fail
              refine (ones_is _ 2 _ (by omega) (by omega) (by decide)).mono ?_
              rintro e w2 ⟨d, rfl, hb2, hd⟩
              have HD : Hid (d = onesF q 2) := hd
              have hd2 : d.size = 2 := by rw [HD.out, ones2]; rfl
              clear hd
              obtain ⟨HV, hHV⟩ : ∃ X, X = hsh key 104 [k, q] idj := ⟨_, rfl⟩
              have HHV := Hid.mk hHV
              have HTX : Hid (sipSum key (((⟨#[104]⟩ ++ a) ++ d) ++ idj) = HV) := by
                show sipSum key _ = HV
                rw [HA.out, HD.out, hHV]
                exact hsh2 key 104 k q idj
              clear hHV
              have hSc2 := (hSc'.later hb1).later hb2
              have hb12 := hb1.trans hb2
              have b0y := hb12.cell b0x
              have x4y := hb12.cell x4
              have hgl : gB < w2.heap.size := World.block_lt_of_cell? w2 _ b0y
              have hpl : px < w2.heap.size := World.block_lt_of_cell? w2 _ x4y
              go_upto_region 15 with fail
              go_cut [13] (fun u13 wc => BoxV w2.heap.size wc u13 HV ∧ Bel w2 wc)
              case first =>
                go_region_with (go_at_call 93; refine (whash_is _ _ _ k9 (by simp only [ByteArray.size_append, show (({ data := #[104] } : ByteArray)).size = 1 from rfl]; omega)).mono ?_; rintro e w3 ⟨z0, z1, rfl, hb3, g0, g1, ez⟩; obtain ⟨hq2, hf2⟩ := hb3.cells)
                all_goals
                  have EZ : Hid (wv z0 z1 = HV) := by
                    have ez' : wv z0 z1 = sipSum key (((⟨#[104]⟩ ++ a) ++ d) ++ idj) := ez
                    show wv z0 z1 = HV
                    rw [ez', HTX.out]
                  clear ez
                  go_wp2_with fail
                  go_meet
                  case rel =>
                    have hB3 : Bel w2 w3 := by (repeat (first | exact Bel.refl _ | assumption | refine Bel.step_alloc ?_ _ | refine Bel.step_drew ?_ | refine Bel.step_drewN ?_ _ | refine Bel.step_set ?_ (by simp <;> omega) _ | refine Bel.trans ?_ (by assumption)))
                    first
                      | exact ⟨BoxV.new hB3.size g0 g1 EZ.out _, hB3.step_alloc _⟩
                      | exact ⟨BoxV.stored (Nat.le_refl _) ((hq2 _ _ (by simp)).trans (by simp; rfl)) ((hq2 _ _ (by simp)).trans (by simp; rfl)) ((hf2 _ _ (by simp)).trans (by simp)) ((hf2 _ _ (by simp)).trans (by simp)) g0 g1 EZ.out, (hB3.step_set (p := ⟨w2.heap.size, 0, none⟩) (Nat.le_refl _) _).step_set (p := ⟨w2.heap.size, 1, none⟩) (Nat.le_refl _) _⟩
              case rest =>
                obtain ⟨hb13, hbc⟩ := hcut
                have hSc3 := hSc2.later hbc
                have b0z := hbc.cell b0y
                obtain ⟨p13, X13, Y13, rfl, hp13, c130, c131, f130, f131, hX13, hY13, hV13⟩ := hb13
                have HV13 := Hid.mk hV13
                clear hV13
                obtain ⟨p8', X8, Y8, E8, c80, c81, f80, f81, hX8, hY8, hV8, hset⟩ := hSc3.open
                have HV8 := Hid.mk hV8
                clear hV8
                simp only [Value.pointer.injEq, Option.some.injEq, Addr.mk.injEq, and_true] at E8
                subst E8
                have HS : Hid (∀ (wy : World) (a b : Int), Bel wc wy → W32 a → W32 b → ScE W u5 k L (.pointer (some ⟨p8, 0, none⟩)) (wv a b) ((wy.setCell ⟨p8, 0, none⟩ (.int .i64 a)).setCell ⟨p8, 1, none⟩ (.int .i64 b))) := hset
                clear hset
                have HTAKE : Hid ((winTo key k j idj (winnerTo key k B j) q).1 < 0 ∨ X' < HV → WinIs B (winTo key k j idj (winnerTo key k B j) (q + 1)) idj (wv X13 Y13)) := fun h => by
                  have hw := HWIN'.out
                  rw [HHV.out, hw.2.1] at h
                  rw [winTo_more h]
                  refine ⟨HNM.out.symm, by rw [HV13.out, HHV.out], Or.inr ⟨j, HJL.out, rfl⟩⟩
                have HSTAY : Hid (¬ ((winTo key k j idj (winnerTo key k B j) q).1 < 0 ∨ X' < HV) → WinIs B (winTo key k j idj (winnerTo key k B j) (q + 1)) s' X') := fun h => by
                  have hw := HWIN'.out
                  rw [HHV.out, hw.2.1] at h
                  rw [winTo_stay h]
                  exact hw
                have HEMP := Hid.mk (HWIN'.out.emp HPO.out)
                cases hemp : s'.toList.isEmpty
                · have hneg : Hid (0 ≤ (winTo key k j idj (winnerTo key k B j) q).1) := by
                    rcases Int.lt_or_le (winTo key k j idj (winnerTo key k B j) q).1 0 with h | h
                    · rw [HEMP.out.2 h] at hemp; cases hemp
                    · exact h
                  go_wp2_with fail
                  refine (wbelow_is _ _ _ _ _ hX8 hY8 hX13 hY13).mono ?_
                  rintro e w4 ⟨less, rfl, hb4, hless⟩
                  have HLESS : Hid (less = true ↔ X' < HV) := by
                    have := hless
                    unfold IsB at this
                    rw [HV8.out, HV13.out] at this
                    exact this
                  clear hless
                  have e130 := hb4.cell c130
                  have e131 := hb4.cell c131
                  have e80 := hb4.cell c80
                  have e81 := hb4.cell c81
                  have g80 := hb4.frozen c80 f80
                  have g81 := hb4.frozen c81 f81
                  have b0t := hb4.cell b0z
                  cases less
                  · go_wp2_with fail
                    go_roundg (6 - (q + 1))
                    case measure => omega
                    case rel => exact ⟨s', q + 1, rfl, by omega, rfl, by go_num, hbest', X', hSc3.later hb4, HSTAY.out (fun h => h.elim (fun h => by have h8 := hneg.out; omega) (fun h => by have h9 := HLESS.out; first | (have := h9.2 h; cases this) | exact h9.2 h | omega | (simp at h9; omega)))⟩
                  · go_wp2_with fail
                    go_roundg (6 - (q + 1))
                    case measure => omega
                    case rel => exact ⟨idj, q + 1, rfl, by omega, rfl, by go_num, Or.inr hmem.out, _, HS.out _ _ _ hb4 hX13 hY13, HTAKE.out (Or.inr (by have h9 := HLESS.out; first | exact h9.1 rfl | exact h9.1 trivial | exact h9 | (simp at h9; omega)))⟩
                · go_wp2_with fail
                  go_roundg (6 - (q + 1))
                  case measure => omega
                  case rel => exact ⟨idj, q + 1, rfl, by omega, rfl, by go_num, Or.inr hmem.out, _, HS.out _ _ _ (Bel.refl _) hX13 hY13, HTAKE.out (Or.inl (HEMP.out.1 hemp))⟩
            · have HFULL : Hid (WinIs B (winnerTo key k B (j + 1)) s' X') := by
                have hw := HWIN'.out
                rw [show q = wt.toNat by omega] at hw
                show WinIs _ _ _ _
                rw [HNX.out]
                exact hw
              go_wp2_with fail
              go_roundg (B.length - (j + 1))
              case measure => omega
              case rel => exact ⟨s', j + 1, rfl, by omega, rfl, by go_num, hbest', X', hSc', HFULL.out⟩
        · obtain rfl : j = B.length := by omega
          have hown2 := hSc.own
          have HEMP := Hid.mk (HWIN.out.emp HPO.out)
          have hbW := hSc.bel
          cases hemp : s.toList.isEmpty
          · have hne : ∃ b ∈ B, b.1 = s := by
              rcases hbest with h | h
              · exfalso
                rw [ByteArray.toList_eq] at hemp
                have hl : s.data.toList.length = 0 := by simpa using h
                rw [List.eq_nil_of_length_eq_zero hl] at hemp
                simp at hemp
              · exact h
            have HNE : Hid (∃ b ∈ B, b.1 = s) := hne
            have HPOS : Hid (0 ≤ (winnerTo key k B B.length).1) := by
              rcases Int.lt_or_le (winnerTo key k B B.length).1 0 with h | h
              · rw [HEMP.out.2 h] at hemp; cases hemp
              · exact h
            have HL2 : Hid (L ++ [(s, 0, 0)] = (List.range (k + 1)).map (fun s => (nameF B (winnerF key B s), 0, 0))) := by
              show L ++ _ = _
              rw [List.range_succ, List.map_append, ← HLE.out, HWIN.out.1]
              rfl
            clear hne hbest
            go_wp2_with (first | (at_builtin; refine wpList_append_own _ rfl _ _ 82 rfl W.heap.size 131 i0 (.agg #[.string ByteArray.empty, .int .i64 0, .int .i64 0]) 3 32 Tryz.underlying82 hi hz0 hz1 hz2 rfl (by decide) _ k (ecells L) rfl ?o1 ⟨wr.heap.size, 0, none⟩ 1 1 [.string s, .int .i64 0, .int .i64 0] rfl rfl ?c1 ?c2 ?c3 ?c4 ?c5 ?_))
            case o1 => exact hown2.alloc _
            try (case c1 => exact cell_three' _ _ _ _ _ _ (by simp))
            case c2 => first | rfl | (intro u hu; simp at hu; rcases hu with rfl | rfl | rfl <;> rfl)
            case c3 => unfold maxLen; omega
            case c4 => omega
            case c5 => have := hbW.size; simp; omega
            intro v' w6 hown' hgrow _
            have hb6 : Bel W w6 := (hbW.step_alloc _).grown hgrow (fun g hg => (hown2.lt g hg).1)
            clear hgrow
            go_wp2_with fail
            go_roundg (slots.toNat - (k + 1))
            case measure => omega
            case rel => exact ⟨k + 1, L ++ [(s, 0, 0)], rfl, by omega, by go_num, by simp [hL], by rw [ecells_snoc]; exact hown', hb6, fun x hx => (by rcases List.mem_append.1 hx with h1 | h1; exact hall x h1; (simp at h1; subst h1; exact ⟨HNE.out, W32_zero, W32_zero⟩)), HL2.out, fun _ => ⟨k, HPOS.out⟩⟩
          · have HNO := Hid.mk (HW1.out k (HEMP.out.1 hemp))
            go_wp2
            go_ret
            exact ⟨_, [], rfl, hbel0.trans hbW, ⟨Or.inl ⟨rfl, rfl, rfl⟩, fun g hg => (by cases hg)⟩, by simp, fun x hx => (by simp at hx), fun _ => Or.inl rfl, HNO.out⟩
    · have hown' := RowAt.of_owns hown
      rw [← hL] at hown'
      have hents : EntsNew px wr _ L := ⟨hown', fun g hg => Nat.le_trans (Nat.le_of_lt hbx0) (World.ownsRow.lt hown g hg).1⟩
      have hkk : (L.length : Int) = slots := by omega
      have HKK : Hid ((L.length : Int) = slots) := hkk
      have HTAB : Hid (TabEq ⟨alg, slots, points, probes, key, formats⟩ B L) := HW2.out L (HLS.out (by omega)) (by
        have := HLE.out
        rw [show k = slots.toNat by omega] at this
        exact this)
      clear hown hown' hkk
      go_wp2
      go_ret
      exact ⟨_, L, rfl, hbel0.trans hb, by rw [HPX.out]; exact hents, by omega, hall, fun _ => Or.inr HKK.out, HTAB.out⟩

end Go.Proofs.YtgfildmmcbjpnabGreat

namespace Go.Proofs.YtgfildmmcbjpnabGreat
open Go.RowKit

/-- a generation, made: a state of its own, over the pool that was given -/
def RStateE (w : World) (c : Cfg) (gen : Int) (vB : Value) (B : List BK) (e : Ending) (w' : World) : Prop := ∃ (q : Nat) (vE : Value) (E : List EN), e = .returned (.pointer (some ⟨q, 0, none⟩)) ∧ Bel w w' ∧ w.heap.size ≤ q ∧
  ((w'.cell? ⟨q, 0, none⟩ = some (.int .i64 c.alg) ∧ w'.cell? ⟨q, 1, none⟩ = some (.int .i64 c.slots) ∧ w'.cell? ⟨q, 2, none⟩ = some (.int .i64 c.points) ∧ w'.cell? ⟨q, 3, none⟩ = some (.int .i64 c.probes) ∧ w'.cell? ⟨q, 4, none⟩ = some (.string c.key) ∧ w'.cell? ⟨q, 5, none⟩ = some (.int .i64 c.formats)) ∧
  w'.cell? ⟨q, 6, none⟩ = some (.int .i64 gen) ∧ w'.cell? ⟨q, 7, none⟩ = some vB ∧ w'.cell? ⟨q, 8, none⟩ = some vE ∧ PoolAt w' vB B ∧ EntsAt w' vE E) ∧ (∀ g, vE.ownBlock = some g → w.heap.size ≤ g) ∧ StateOK c gen B E ∧ (∀ x ∈ E, W32 x.2.1 ∧ W32 x.2.2) ∧ TabEq c B E
/-- what is published: nothing, or the generation of this pool -/
def HasE (w : World) (v : Value) (c : Cfg) (B : List BK) (gen : Int) : Prop := (v = .pointer none ∧ gen = 0) ∨ ∃ (q : Nat) (E : List EN), v = .pointer (some ⟨q, 0, none⟩) ∧ StateAt w q c gen B E ∧ StateOK c gen B E ∧ (∀ x ∈ E, W32 x.2.1 ∧ W32 x.2.2) ∧ TabEq c B E ∧ gen ≠ 0
theorem HasE.later {a w : World} {v : Value} {c : Cfg} {B : List BK} {gen : Int} (h : HasE a v c B gen) (k : Bel a w) : HasE w v c B gen := by
  rcases h with h | ⟨q, E, hv, hs, ho⟩
  · exact Or.inl h
  · exact Or.inr ⟨q, E, hv, hs.later k, ho⟩
theorem HasE.has {w : World} {v : Value} {c : Cfg} {B : List BK} {gen : Int} (h : HasE w v c B gen) : HasAt w v gen := by
  rcases h with h | ⟨q, E, hv, hs, ho, hw, -⟩
  · exact Or.inl h
  · exact Or.inr ⟨q, c, B, E, hv, hs, ho, hw⟩

end Go.Proofs.YtgfildmmcbjpnabGreat

namespace Go.Proofs.YtgfildmmcbjpnabGreat
open Go.RowKit

theorem But.put {M : List Nat} {a w : World} (h : But M a w) {p : Addr} (hp : p.block ∈ M ∨ a.heap.size ≤ p.block) (u : Value) : But M a (w.setCell p u) :=
  But.mk h.os h.tape h.output (by have := h.size; simpa [World.setCell] using this) (fun k hk hm => by
    have hne : k ≠ p.block := fun e => by
      rcases hp with h1 | h1
      · exact hm (e ▸ h1)
      · omega
    rw [Below.heap_setCell _ _ _ _ hne]
    exact h.block k hk hm)
theorem PlaneAt.put0 {w : World} {p : Nat} {speaks : Int} {has : Value} {gen format : Int} {got : Value} {no : Bool} (h : PlaneAt w p speaks has gen format got no) :
    (∀ x : Int, PlaneAt (w.setCell ⟨p, 2, none⟩ (.int .i64 x)) p speaks has x format got no) ∧ (∀ x : Int, PlaneAt (w.setCell ⟨p, 3, none⟩ (.int .i64 x)) p speaks has gen x got no) ∧ (∀ v : Value, PlaneAt (w.setCell ⟨p, 4, none⟩ v) p speaks has gen format v no) ∧
    (∀ b : Bool, PlaneAt (w.setCell ⟨p, 5, none⟩ (.bool b)) p speaks has gen format got b) ∧ ∀ v : Value, PlaneAt (w.setCell ⟨p, 1, none⟩ v) p speaks v gen format got no := by
  obtain ⟨⟨h0, h1, h2, h3, h4, h5⟩, hf⟩ := h
  refine ⟨fun x => ?_, fun x => ?_, fun x => ?_, fun x => ?_, fun x => ?_⟩
  · exact ⟨⟨(set_other (by simp)).trans h0, (set_other (by simp)).trans h1, set_same h2, (set_other (by simp)).trans h3, (set_other (by simp)).trans h4, (set_other (by simp)).trans h5⟩, fun j => by rw [frozen_set]; exact hf j⟩
  · exact ⟨⟨(set_other (by simp)).trans h0, (set_other (by simp)).trans h1, (set_other (by simp)).trans h2, set_same h3, (set_other (by simp)).trans h4, (set_other (by simp)).trans h5⟩, fun j => by rw [frozen_set]; exact hf j⟩
  · exact ⟨⟨(set_other (by simp)).trans h0, (set_other (by simp)).trans h1, (set_other (by simp)).trans h2, (set_other (by simp)).trans h3, set_same h4, (set_other (by simp)).trans h5⟩, fun j => by rw [frozen_set]; exact hf j⟩
  · exact ⟨⟨(set_other (by simp)).trans h0, (set_other (by simp)).trans h1, (set_other (by simp)).trans h2, (set_other (by simp)).trans h3, (set_other (by simp)).trans h4, set_same h5⟩, fun j => by rw [frozen_set]; exact hf j⟩
  · exact ⟨⟨(set_other (by simp)).trans h0, set_same h1, (set_other (by simp)).trans h2, (set_other (by simp)).trans h3, (set_other (by simp)).trans h4, (set_other (by simp)).trans h5⟩, fun j => by rw [frozen_set]; exact hf j⟩
theorem PlaneAt.other {w : World} {p : Nat} {speaks : Int} {has : Value} {gen format : Int} {got : Value} {no : Bool} (h : PlaneAt w p speaks has gen format got no) {a : Addr} (ha : a.block ≠ p) (u : Value) : PlaneAt (w.setCell a u) p speaks has gen format got no := by
  obtain ⟨⟨h0, h1, h2, h3, h4, h5⟩, hf⟩ := h
  have hs : ∀ o : Nat, (w.setCell a u).cell? ⟨p, o, none⟩ = w.cell? ⟨p, o, none⟩ := fun o => set_other (Or.inl ha)
  exact ⟨⟨(hs 0).trans h0, (hs 1).trans h1, (hs 2).trans h2, (hs 3).trans h3, (hs 4).trans h4, (hs 5).trans h5⟩, fun j => by rw [frozen_set]; exact hf j⟩
/-- a plane while a frame comes: what it holds has not changed -/
def PlI (w : World) (p : Nat) (speaks : Int) (has got : Value) (gen format : Int) (got' : Value) (ng : Nat) (no : Bool) (wr : World) : Prop :=
  But (p :: got.ownBlock.toList) w wr ∧ PlaneAt wr p speaks has gen format got' no ∧ I64 gen ∧ I64 format ∧ StrsAt wr got' ng ∧ ng ≤ 65535 ∧ ∀ g, got'.ownBlock = some g → g ≠ p ∧ (got.ownBlock = some g ∨ w.heap.size ≤ g)
def RComes (w : World) (p : Nat) (speaks : Int) (has got : Value) (e : Ending) (w' : World) : Prop := e = .returned (.tuple #[]) ∧ ∃ (has' got' : Value) (hg gen format : Int) (ng : Nat) (no : Bool), PlI w p speaks has' got gen format got' ng no w' ∧
  (has' = has ∨ ∃ q c B E, got'.ownBlock = none ∧ has' = .pointer (some ⟨q, 0, none⟩) ∧ StateN w.heap.size w' q c hg B E ∧ StateOK c hg B E ∧ ∀ x ∈ E, W32 x.2.1 ∧ W32 x.2.2)
theorem PlI.done {w : World} {p : Nat} {speaks : Int} {has got : Value} {gen format : Int} {got' : Value} {ng : Nat} {no : Bool} {wr : World} (h : PlI w p speaks has got gen format got' ng no wr) : RComes w p speaks has got (.returned (.tuple #[])) wr := ⟨rfl, has, got', 0, gen, format, ng, no, h, Or.inl rfl⟩
theorem PlI.later {w : World} {p : Nat} {speaks : Int} {has got : Value} {gen format : Int} {got' : Value} {ng : Nat} {no : Bool} {wr wx : World} (h : PlI w p speaks has got gen format got' ng no wr) (b : Bel wr wx) : PlI w p speaks has got gen format got' ng no wx := by
  obtain ⟨h1, h2, h3, h4, h5, r⟩ := h
  exact ⟨h1.step b, h2.later b, h3, h4, h5.later b, r⟩
theorem StrsAt.put {w : World} {v : Value} {n : Nat} (h : StrsAt w v n) {a : Addr} (ha : v.ownBlock ≠ some a.block) (u : Value) : StrsAt (w.setCell a u) v n := by
  rcases h with h | ⟨g, cap, rfl, hg, hc⟩
  · exact Or.inl h
  · refine Or.inr ⟨g, cap, rfl, by simpa [World.setCell] using hg, fun j hj => ?_⟩
    obtain ⟨s, h1, h2, h3⟩ := hc j hj
    have hne : a.block ≠ g := fun e => ha (by rw [e]; rfl)
    exact ⟨s, (set_other (Or.inl hne)).trans h1, by rw [frozen_set]; exact h2, h3⟩
theorem StrsAt.set {w : World} {g n cap : Nat} (h : StrsAt w (.slice (some ⟨g, 0, none⟩) n cap) n) (k : Nat) (s : ByteArray) (hs : s.size ≤ 48) : StrsAt (w.setCell ⟨g, k, none⟩ (.string s)) (.slice (some ⟨g, 0, none⟩) n cap) n := by
  rcases h with ⟨h, _⟩ | ⟨g', cap', hv, hg, hc⟩
  · cases h
  · simp only [Value.slice.injEq, Option.some.injEq, Addr.mk.injEq, and_true, true_and] at hv
    obtain ⟨rfl, rfl⟩ := hv
    refine Or.inr ⟨g, cap, rfl, by simpa [World.setCell] using hg, fun j hj => ?_⟩
    obtain ⟨x, h1, h2, h3⟩ := hc j hj
    by_cases hjk : k = j
    · subst hjk
      exact ⟨s, set_same h1, by rw [frozen_set]; exact h2, hs⟩
    · exact ⟨x, (set_other (Or.inr hjk)).trans h1, by rw [frozen_set]; exact h2, h3⟩

theorem StrsAt.made {w : World} {base g n : Nat} (h : w.ownsRow base 9 1 (.slice (some ⟨g, 0, none⟩) n n) n (madeCells #[Value.string ByteArray.empty] n).toList) : StrsAt w (.slice (some ⟨g, 0, none⟩) n n) n := by
  refine Or.inr ⟨g, n, rfl, (World.ownsRow.lt h g rfl).2, fun j hj => ⟨ByteArray.empty, ?_, World.ownsRow.frozenAt h j, by decide⟩⟩
  rw [World.ownsRow.cellAt h j (by omega), toList_madeCells_one, List.getElem?_replicate, if_pos (by omega)]
/-- another generation begins to come -/
theorem PlI.fresh {w : World} {p : Nat} {speaks : Int} {has got : Value} {gen format : Int} {got' : Value} {ng : Nat} {no : Bool} {w1 w3 : World} {x y : Int} {n : Nat} (h : PlI w p speaks has got gen format got' ng no w1) (hx : I64 x) (hy : I64 y) (hn : n ≤ 65535) (hb : Bel ((w1.setCell ⟨p, 2, none⟩ (.int .i64 x)).setCell ⟨p, 3, none⟩ (.int .i64 y)) w3)
    (hs : StrsAt w3 (.slice (some ⟨w1.heap.size, 0, none⟩) n n) n) (hp : p < w1.heap.size) : PlI w p speaks has got x y (.slice (some ⟨w1.heap.size, 0, none⟩) n n) n no (w3.setCell ⟨p, 4, none⟩ (.slice (some ⟨w1.heap.size, 0, none⟩) n n)) := by
  obtain ⟨q1, q2, q3, q4, q5, q6, q7⟩ := h
  have b1 : But (p :: got.ownBlock.toList) w w3 := ((q1.put (p := ⟨p, 2, none⟩) (Or.inl (by simp)) _).put (p := ⟨p, 3, none⟩) (Or.inl (by simp)) _).step hb
  refine ⟨b1.put (Or.inl (by simp)) _, (((q2.put0.1 x).put0.2.1 y).later hb).put0.2.2.1 _, hx, hy, hs.put (by simp [Value.ownBlock]; omega) _, hn, fun g hg => ?_⟩
  simp [Value.ownBlock] at hg
  have := q1.size
  exact ⟨by omega, Or.inr (by omega)⟩

/-- a piece is there -/
theorem PlI.piece {w : World} {p : Nat} {speaks : Int} {has got : Value} {gen format : Int} {g n cap : Nat} {no : Bool} {w1 w2 : World} {k : Nat} {s : ByteArray} (h : PlI w p speaks has got gen format (.slice (some ⟨g, 0, none⟩) n cap) n no w1) (hs : s.size ≤ 48) (hb : Bel (w1.setCell ⟨p, 5, none⟩ (.bool false)) w2) :
    PlI w p speaks has got gen format (.slice (some ⟨g, 0, none⟩) n cap) n false (w2.setCell ⟨g, k, none⟩ (.string s)) := by
  obtain ⟨q1, q2, q3, q4, q5, q6, q7⟩ := h
  obtain ⟨g1, g2⟩ := q7 g rfl
  have b1 : But (p :: got.ownBlock.toList) w w2 := (q1.put (p := ⟨p, 5, none⟩) (Or.inl (by simp)) _).step hb
  refine ⟨b1.put ?_ _, (((q2.put0.2.2.2.1 false).later hb).other g1 _), q3, q4, ((q5.put (a := ⟨p, 5, none⟩) (by simpa [Value.ownBlock] using g1) _).later hb).set k s hs, q6, q7⟩
  rcases g2 with h | h
  · exact Or.inl (by simp [h])
  · exact Or.inr h
/-- nothing is coming any more -/
theorem PlI.over {w : World} {p : Nat} {speaks : Int} {has got : Value} {gen format : Int} {got' : Value} {ng : Nat} {no : Bool} {w1 : World} (h : PlI w p speaks has got gen format got' ng no w1) :
    PlI w p speaks has got 0 format (.slice none 0 0) 0 no ((w1.setCell ⟨p, 2, none⟩ (.int .i64 0)).setCell ⟨p, 4, none⟩ (.slice none 0 0)) := by
  obtain ⟨q1, q2, q3, q4, q5, q6, q7⟩ := h
  exact ⟨(q1.put (p := ⟨p, 2, none⟩) (Or.inl (by simp)) _).put (p := ⟨p, 4, none⟩) (Or.inl (by simp)) _, (q2.put0.1 0).put0.2.2.1 _, ⟨by decide, by decide⟩, q4, Or.inl ⟨rfl, rfl⟩, by omega, fun g hg => by cases hg⟩
/-- it holds another generation -/
theorem PlI.holds {w : World} {p : Nat} {speaks : Int} {has got : Value} {gen format : Int} {no : Bool} {w1 : World} {q : Nat} {c : Cfg} {hg : Int} {B : List BK} {E : List EN} {b : Nat} (h : PlI w p speaks has got gen format (.slice none 0 0) 0 no w1) (hS : StateN b w1 q c hg B E) (hb : w.heap.size ≤ b) (hp : p < w.heap.size) (hO : StateOK c hg B E) (hW : ∀ x ∈ E, W32 x.2.1 ∧ W32 x.2.2) :
    RComes w p speaks has got (.returned (.tuple #[])) (w1.setCell ⟨p, 1, none⟩ (.pointer (some ⟨q, 0, none⟩))) := by
  obtain ⟨q1, q2, q3, q4, q5, q6, q7⟩ := h
  refine ⟨rfl, .pointer (some ⟨q, 0, none⟩), .slice none 0 0, hg, gen, format, 0, no, ⟨q1.put (Or.inl (by simp)) _, q2.put0.2.2.2.2 _, q3, q4, q5.put (by simp [Value.ownBlock]) _, q6, q7⟩, Or.inr ⟨q, c, B, E, rfl, rfl, ?_, hO, hW⟩⟩
  obtain ⟨vB, vE, ⟨⟨h0, h1, h2, h3, h4, h5⟩, h6, h7, h8, h9, h10⟩, r1, r2, r3⟩ := hS
  have hs : ∀ o : Nat, (w1.setCell ⟨p, 1, none⟩ (.pointer (some ⟨q, 0, none⟩))).cell? ⟨q, o, none⟩ = w1.cell? ⟨q, o, none⟩ := fun o => set_other (Or.inl (by simp only; omega))
  have hrow : ∀ {v : Value} {n : Nat} {xs : List Value}, RowAt w1 v n xs → (∀ g, v.ownBlock = some g → b ≤ g) → RowAt (w1.setCell ⟨p, 1, none⟩ (.pointer (some ⟨q, 0, none⟩))) v n xs := fun {v n xs} hr hn => by
    rcases hr with hr | ⟨g, cap, rfl, hn', hgl, hc⟩
    · exact Or.inl hr
    · have hgb := hn g rfl
      refine Or.inr ⟨g, cap, rfl, hn', by simpa [World.setCell] using hgl, fun j u hu => (set_other (Or.inl (by simp only; omega))).trans (hc j u hu)⟩
  exact ⟨vB, vE, ⟨⟨(hs 0).trans h0, (hs 1).trans h1, (hs 2).trans h2, (hs 3).trans h3, (hs 4).trans h4, (hs 5).trans h5⟩, (hs 6).trans h6, (hs 7).trans h7, (hs 8).trans h8, hrow h9 r2, hrow h10 r3⟩, by omega, fun g hg => Nat.le_trans hb (r2 g hg), fun g hg => Nat.le_trans hb (r3 g hg)⟩

end Go.Proofs.YtgfildmmcbjpnabGreat
