import Derived.Test.YtpapdkhjdelfcabGreatHAF
import Derived.Deep.AppendLies
set_option maxRecDepth 100000
set_option maxHeartbeats 4000000
namespace Go.Proofs.YtpapdkhjdelfcabGreat
open Go.RowKit
def wcells (l:List (Int×Int)):List Value:=l.flatMap fun b=>[.int .i64 b.1,.int .i64 b.2]
theorem wcells_snoc (L:List (Int×Int)) (b:Int×Int):wcells (L++[b])=wcells L++[.int .i64 b.1,.int .i64 b.2]:=by simp [wcells]
theorem wcells_get (l:List (Int×Int)) (j:Nat) (h:j<l.length):(wcells l)[j * 2]?=some (.int .i64 l[j].1)∧(wcells l)[j * 2+1]?=some (.int .i64 l[j].2):=by
 induction l generalizing j with
 |nil=>simp at h
 |cons b l ih=>
  cases j with
  |zero=>simp [wcells]
  |succ j=>
   obtain ⟨h1,h2⟩:=ih j (by simpa using h);have e1:(j+1) * 2=j * 2+1+1:=by omega
   rw [e1];simp only [wcells,List.flatMap_cons,List.cons_append,List.nil_append,List.getElem?_cons_succ] at h1 h2 ⊢;exact ⟨h1,h2⟩
def OwnW (base:Nat) (w:World) (v:Value) (B:List (Int×Int)):Prop:=w.ownsRow base 211 2 v B.length (wcells B)
theorem OwnW.snoc {base:Nat} {w:World} {v:Value} {L:List (Int×Int)} {b:Int×Int} {n:Nat} (h:w.ownsRow base 211 2 v n (wcells L++[.int .i64 b.1,.int .i64 b.2])) (hn:n=L.length+1):OwnW base w v (L++[b]):=by
 unfold OwnW;rw [wcells_snoc,List.length_append];subst hn;exact h
def RWays (w:World) (L:List (Int×Int)) (e:Ending) (w':World):Prop:=∃v,e= .returned v∧Bel w w'∧OwnW w.heap.size w' v L
theorem ints_nil (w:World):IntsAt w (.slice none 0 0) []:=Or.inl ⟨rfl,rfl,rfl⟩
theorem ways_is (c:Cfg) (B:List BK) (v:Value) (w:World) (hP:PoolAt w v B) (hB:PoolOK B) (hc:c.OK):
  Calls Tryz.prog 181 #[.agg c.cells,v] w (RWays w (B.map (wayOf c))):=by
 obtain ⟨i0,hi,hz0,hz1,hz2⟩:=info_parts Tryz.infoWay;obtain ⟨h8,hall⟩:=hB;obtain ⟨hs1,hs2,hk16⟩:3≤c.slots∧c.slots≤211∧c.key.size=16:=⟨hc.2.2.1,hc.2.2.2.1,hc.2.2.2.2.2.2.2.2.2.1⟩;obtain ⟨ao,cap,rfl,hcell⟩:=hP.open;have hW:∀k (h:k<B.length),(B.take (k+1)).map (wayOf c)=(B.take k).map (wayOf c)++[wayOf c B[k]]:=fun k h=>by rw [List.take_succ_eq_append_getElem h,List.map_append];rfl
 have hF:∀b:BK,wayOf c b=(restF (hsh c.key 111 [] b.1) c.slots,restF (hsh c.key 115 [] b.1) (c.slots - 1)+1):=fun _=>rfl
 have HE:Hid ((B.take B.length).map (wayOf c)=B.map (wayOf c)):=by rw [List.take_length];rfl
 generalize wayOf c=wy at *;obtain ⟨alg,slots,points,probes,key,formats⟩:=c;simp only [Cfg.cells] at *;clear hc;go_enter Tryz.func181,Tryz.ntmps181;go_wp2_with (first|(at_make;refine wpList_make_own _ rfl _ _ 206 rfl (w.heap.size+1) 211 i0 (.agg #[.int .i64 0,.int .i64 0]) 2 Tryz.underlying206 hi hz0 hz1 _ _ _ B.length rfl rfl ?b1 ?b2 ?b3 ?b4 ?_))
 case b1=>rfl
 case b2=>rw [hz2];omega
 case b3=>unfold maxLen;omega
 case b4=>simp
 intro w1 hown1 hgrow1;obtain ⟨wm,hwm⟩:∃wm,wm=w.alloc (.cells #[.int .i64 alg,.int .i64 slots,.int .i64 points,.int .i64 probes,.string key,.int .i64 formats] 34):=⟨_,rfl⟩;have hb1:Bel wm w1:=by rw [hwm];exact (Bel.refl _).grown hgrow1 (fun g hg=>by cases hg)
 have hown:OwnW (w.heap.size+1) w1 (.slice (some ⟨w.heap.size+1,0,none⟩) 0 B.length) []:=hown1;have m1:wm.cell? ⟨w.heap.size,1,none⟩=some (.int .i64 slots):=by rw [hwm];simp
 have m4:wm.cell? ⟨w.heap.size,4,none⟩=some (.string key):=by rw [hwm];simp
 have hwb:Bel w wm:=by rw [hwm];exact (Bel.refl w).step_alloc _
 have hsz:wm.heap.size=w.heap.size+1:=by rw [hwm];simp
 clear hgrow1 hown1 hwm;generalize (Value.slice (some ⟨w.heap.size+1,0,none⟩) 0 B.length)=v1 at *;go_wp2;go_loopg [5,15] B.length (fun r vL n wr=>Bel wm wr∧∃(k:Nat),r=B.length - k∧k≤B.length∧n= .int .i64 k∧OwnW (w.heap.size+1) wr vL ((B.take k).map wy))
 case atStart=>exact ⟨hb1,0,by omega,by omega,rfl,by simpa using hown⟩
 case round=>
  obtain ⟨hb,k,hr,hk,rfl,hL⟩:=hrel;have hwr:=hb.size;have hwl:w.heap.size<wr.heap.size:=by omega
  have hLl:((B.take k).map wy).length≤8:=by simp;omega
  have HO:=Hid.mk hL;have n1:=hb.cell m1;have n4:=hb.cell m4;clear hb1 hown hL;by_cases hlt:k<B.length
  ·obtain ⟨g,rfl,c0,c1⟩:=hcell k hlt;have c0':=(hwb.trans hb).cell c0;have c1':=(hwb.trans hb).cell c1;have HS:=Hid.mk (hW k hlt);have hid:=(hall _ (List.getElem_mem hlt)).2.1;rw [hF] at HS;clear hcell c0 c1 hW hF;generalize B[k]=bk at *;obtain ⟨idk,wk⟩:=bk;simp only at c0' c1' HS hid;have hO:=fun wx=>hash_is key 111 [] (.slice none 0 0) idk wx (ints_nil wx) (by decide) (by omega) (by omega)
   have hZ:=fun wx=>hash_is key 115 [] (.slice none 0 0) idk wx (ints_nil wx) (by decide) (by omega) (by omega)
   have rO:=hsh_range key 111 [] idk;have rZ:=hsh_range key 115 [] idk;generalize hsh key 111 [] idk=x1 at *;generalize hsh key 115 [] idk=x2 at *;generalize (B.take k).map wy=L at *;obtain ⟨rO1,rO2⟩:=rO;obtain ⟨rZ1,rZ2⟩:=rZ;go_wp2_with fail;refine (hO _).mono ?_;rintro e w2 ⟨rfl,hb2⟩;have hbr:Bel wr w2:=Bel.trans (Bel.step_alloc (Bel.refl wr) _) hb2;have b0:w2.cell? ⟨wr.heap.size,0,none⟩=some (.string idk):=hb2.cell (by simp);have q1:=hbr.cell n1;have q4:=hbr.cell n4;clear hb2;go_wp2_with fail;refine (hZ _).mono ?_;rintro e w3 ⟨rfl,hb3⟩;have hbr3:Bel wr w3:=hbr.trans hb3;have s1:=hbr3.cell n1;have hbm3:Bel wm w3:=hb.trans hbr3
   have hO3 : Hid (OwnW (w.heap.size + 1) w3 u5 L) := World.ownsRow.kept HO.out (row := none) ⟨hbr3.below.os, hbr3.below.tape, hbr3.below.output, hbr3.size, fun k hk _ => hbr3.block k hk⟩ (by
     cases hv : u5.ownBlock
     · exact Or.inl rfl
     · exact Or.inr (by simp))
   have hw3:=hbm3.size;clear hO hZ hb3 q1 q4 b0 n1 n4 hbr hbr3 HO;go_wp2_with fail;have y1:=restF_range x1 slots (by omega);have y2:=restF_range x2 (slots - 1) (by omega);obtain ⟨y11,y12⟩:=y1;obtain ⟨y21,y22⟩:=y2;have hR1:=fun wx=>rest_is x1 slots wx (by omega) (by omega) (by omega) (by omega)
   have hR2:=fun wx=>rest_is x2 (slots - 1) wx (by omega) (by omega) (by omega) (by omega)
   generalize restF x1 slots=r1 at *;generalize restF x2 (slots - 1)=r2 at *;have hwa:IntKind.i64.wrap (slots - 1)=slots - 1:=by rw [IntKind.wrap_i64];omega
   have hwb2:IntKind.i64.wrap (r2+1)=r2+1:=by rw [IntKind.wrap_i64];omega
   go_region_held_law (fun w'=>Bel wm w'∧w'.cell? ⟨w.heap.size,1,none⟩=some (.int .i64 slots)) ((exact ⟨by (repeat (first|exact Bel.refl _|assumption|refine Bel.step_alloc ?_ _|refine Bel.step_drew ?_|refine Bel.step_drewN ?_ _|refine Bel.step_set ?_ (by simp <;>omega) _|refine Bel.trans ?_ (by assumption))),Bel.cell (a:=wm) (by (repeat (first|exact Bel.refl _|assumption|refine Bel.step_alloc ?_ _|refine Bel.step_drew ?_|refine Bel.step_drewN ?_ _|refine Bel.step_set ?_ (by simp <;>omega) _|refine Bel.trans ?_ (by assumption)))) m1⟩))
    ((first
      | (go_at_call_of 219 x1; refine (hR1 _).mono ?_; rintro e w4 ⟨rfl, rfl⟩)
      | (go_at_call_of 219 x2; refine (hR2 _).mono ?_; rintro e w4 ⟨rfl, rfl⟩)
      | (refine step_append_own rfl (.tmp 29) (.tmp 41) 206 rfl (w.heap.size + 1) 211 i0 (.agg #[.int .i64 0, .int .i64 0]) 2 16 Tryz.underlying206 hi hz0 hz1 hz2 rfl (by decide) u5 L.length (wcells L) (by simp [Act.eval]) (World.ownsRow.alloc hO3.out _) ⟨w3.heap.size, 0, none⟩ 1 1 [.int .i64 r1, .int .i64 (r2 + 1)] (by simp [Act.eval]) rfl (two_new _ _ _ _ _ rfl) (two_one rfl rfl) (by unfold maxLen; omega) (by omega) (by simp; omega) ?_
         intro v5 w5 hown5 hgrow5
         have hb5 : Bel wm w5 := by
           first
           | exact ((hbm3.step_drew).step_alloc _).grown hgrow5 (fun g hg => by have := (World.ownsRow.lt hO3.out g hg).1; omega)
           | exact ((hbm3.step_alloc _).step_drew).grown hgrow5 (fun g hg => by have := (World.ownsRow.lt hO3.out g hg).1; omega)
         have H5 := Hid.mk (OwnW.snoc (b := (r1, r2 + 1)) hown5 rfl)
         clear hown5 hgrow5)))
   all_goals
    go_wp2_with fail;go_roundg (B.length - (k+1))
    case measure=>omega
    case rel=>exact ⟨hb5,k+1,rfl,by omega,by go_num,by rw [HS.out];exact H5.out⟩
  ·clear hcell;go_wp2;go_ret;exact ⟨_,rfl,hwb.trans hb,by have:=HO.out;rw [show k=B.length by omega,HE.out] at this;exact World.ownsRow.mono this (by omega)⟩
end Go.Proofs.YtpapdkhjdelfcabGreat
namespace Go.Proofs.YtpapdkhjdelfcabGreat
open Go.RowKit
def OwnI (base:Nat) (w:World) (v:Value) (L:List Int):Prop:=w.ownsRow base 3 1 v L.length (L.map (Value.int .i64))
theorem OwnI.row {base:Nat} {w:World} {v:Value} {B:List Int} (h:OwnI base w v B):IRow w v B:=RowAt.of_owns h
theorem OwnI.later {base:Nat} {w w':World} {v:Value} {B:List Int} (h:OwnI base w v B) (k:Bel w w'):OwnI base w' v B:=
 World.ownsRow.kept h (row := none) ⟨k.below.os, k.below.tape, k.below.output, k.size, fun j hj _ => k.block j hj⟩ (by
   cases hv : v.ownBlock
   · exact Or.inl rfl
   · exact Or.inr (by simp))
theorem OwnI.snoc {base:Nat} {w:World} {v:Value} {L:List Int} {b:Int} {n:Nat} (h:w.ownsRow base 3 1 v n (L.map (Value.int .i64)++[.int .i64 b])) (hn:n=L.length+1):OwnI base w v (L++[b]):=by
 unfold OwnI;rw [List.map_append,List.length_append];subst hn;exact h
theorem own_cell_other {base:Nat} {e:TypeId} {s:Nat} {w w':World} {v:Value} {n:Nat} {xs:List Value} {g:Nat} (h:w.ownsRow base e s v n xs) (hg:w.grownBy w' (some g)) (hne:v.ownBlock≠some g):w'.ownsRow base e s v n xs:=World.ownsRow.kept h hg (Or.inr hne)
def sl (g n cap:Nat):Value:= .slice (some ⟨g,0,none⟩) n cap
def TwoI (base ga gb ca cb:Nat) (w:World) (La Lb:List Int):Prop:=OwnI base w (sl ga La.length ca) La∧OwnI base w (sl gb Lb.length cb) Lb∧ga≠gb
theorem TwoI.later {base ga gb ca cb:Nat} {w w':World} {La Lb:List Int} (h:TwoI base ga gb ca cb w La Lb) (k:Bel w w'):TwoI base ga gb ca cb w' La Lb:=⟨h.1.later k,h.2.1.later k,h.2.2⟩
theorem TwoI.app1 {base ga gb ca cb g cap:Nat} {w w':World} {La Lb:List Int} {x:Int} {n:Nat} (h:TwoI base ga gb ca cb w La Lb) (hown:w'.ownsRow base 3 1 (.slice (some ⟨g,0,none⟩) n cap) n (La.map (Value.int .i64)++[.int .i64 x])) (hn:n=La.length+1) (hg:w.grownBy w' (some ga)) (hat:some ga=some g∨w.heap.size≤g):TwoI base g gb cap cb w' (La++[x]) Lb:=by
 refine ⟨?_,own_cell_other h.2.1 hg (fun e=>h.2.2 (by simpa [sl,Value.ownBlock] using e.symm)),?_⟩
 ·have:=OwnI.snoc (b:=x) hown hn;rw [sl,List.length_append];subst hn;exact this
 ·have hlt:=(World.ownsRow.lt h.2.1 gb rfl).2;rcases hat with e|e
  ·simp at e;subst e;exact h.2.2
  ·omega
theorem TwoI.app2 {base ga gb ca cb g cap:Nat} {w w':World} {La Lb:List Int} {x:Int} {n:Nat} (h:TwoI base ga gb ca cb w La Lb) (hown:w'.ownsRow base 3 1 (.slice (some ⟨g,0,none⟩) n cap) n (Lb.map (Value.int .i64)++[.int .i64 x])) (hn:n=Lb.length+1) (hg:w.grownBy w' (some gb)) (hat:some gb=some g∨w.heap.size≤g):TwoI base ga g ca cap w' La (Lb++[x]):=by
 refine ⟨own_cell_other h.1 hg (fun e=>h.2.2 (by simpa [sl,Value.ownBlock] using e)),?_,?_⟩
 ·have:=OwnI.snoc (b:=x) hown hn;rw [sl,List.length_append];subst hn;exact this
 ·have hlt:=(World.ownsRow.lt h.1 ga rfl).2;rcases hat with e|e
  ·simp at e;subst e;exact h.2.2
  ·omega
theorem TwoI.set1 {base ga gb ca cb:Nat} {w:World} {La Lb:List Int} (h:TwoI base ga gb ca cb w La Lb) (j:Nat) (x:Int):TwoI base ga gb ca cb (w.setCell ⟨ga,j,none⟩ (.int .i64 x)) (La.set j x) Lb:=by
 have hs:=World.ownsRow.stored h.1 j (.int .i64 x);refine ⟨?_,own_cell_other h.2.1 hs.2 (fun e=>h.2.2 (by simpa [sl,Value.ownBlock] using e.symm)),h.2.2⟩;unfold OwnI;rw [sl,List.length_set,List.map_set];exact hs.1
theorem TwoI.set2 {base ga gb ca cb:Nat} {w:World} {La Lb:List Int} (h:TwoI base ga gb ca cb w La Lb) (j:Nat) (x:Int):TwoI base ga gb ca cb (w.setCell ⟨gb,j,none⟩ (.int .i64 x)) La (Lb.set j x):=by
 have hs:=World.ownsRow.stored h.2.1 j (.int .i64 x);refine ⟨own_cell_other h.1 hs.2 (fun e=>h.2.2 (by simpa [sl,Value.ownBlock] using e)),?_,h.2.2⟩;unfold OwnI;rw [sl,List.length_set,List.map_set];exact hs.1
theorem bestTo_range (R:List Int) (n:Nat): -1≤(bestTo R n).1∧(bestTo R n).1<n:=by
 induction n with
 |zero=>simp [bestTo]
 |succ n ih=>
  rw [bestTo];split
  ·exact ⟨by simp only;omega,by simp only;omega⟩
  ·omega
theorem bestF_range (R:List Int): -1≤bestF R∧bestF R<R.length:=bestTo_range R R.length
def RInts (w:World) (L:List Int) (e:Ending) (w':World):Prop:=∃v,e= .returned v∧Bel w w'∧OwnI w.heap.size w' v L
theorem shares_is (M:Int) (B:List BK) (v:Value) (w:World) (hP:PoolAt w v B) (hB:PoolOK B) (hM1:0≤M) (hM2:M≤300):
  Calls Tryz.prog 182 #[.int .i64 M,v] w (RInts w (sharesF M B)):=by
 obtain ⟨i0,hi,hz0,hz1,hz2⟩:=info_parts Tryz.infoInt;have hTot:=fun wx hx=>total_is B v wx hx hB
 obtain ⟨h8,hall⟩:=hB;have hT2:=wSum_bound B (fun b hb=>(hall b hb).2.2) B.length;rw [List.take_length] at hT2;obtain ⟨X,hX⟩:∃X,X=sharesF M B:=⟨_,rfl⟩;rw [←hX];rw [sharesF,lowF,remF] at hX;generalize wSum B=T at *;by_cases hT:T<1
 ·rw [if_pos hT] at hX;have HX:=Hid.mk hX;clear hX;go_enter Tryz.func182,Tryz.ntmps182;go_wp2_with fail;refine (hTot _ hP).mono ?_;rintro e w1 ⟨rfl,hb1⟩;go_wp2;go_ret;exact ⟨_,rfl,hb1,by rw [HX.out];exact World.ownsRow_nil _ _ _ _⟩
 rw [if_neg hT] at hX;have HX:=Hid.mk hX;clear hX;obtain ⟨ao,cap,rfl,hcell⟩:=hP.open;go_enter Tryz.func182,Tryz.ntmps182;go_wp2_with fail;refine (hTot _ hP).mono ?_;rintro e w0 ⟨rfl,hb0⟩;have hw0:=hb0.size;clear hTot;go_wp2_with (first|(at_make;refine wpList_make_own _ rfl _ _ 59 rfl w.heap.size 3 i0 (.int .i64 0) 1 Tryz.underlying59 hi hz0 hz1 _ _ _ B.length rfl rfl ?b1 ?b2 ?b3 ?b4 ?_))
 case b1=>rfl
 case b2=>first|omega|(rw [hz2];omega)
 case b3=>unfold maxLen;omega
 case b4=>exact hw0
 intro w1 hown1 hgrow1;have hb1:Bel w0 w1:=(Bel.refl _).grown hgrow1 (fun g hg=>by cases hg);have hw1:=(World.ownsRow.lt hown1 _ rfl).2;have hw01:=hb1.size;go_wp2_with (first|(at_make;refine wpList_make_own _ rfl _ _ 59 rfl w.heap.size 3 i0 (.int .i64 0) 1 Tryz.underlying59 hi hz0 hz1 _ _ _ B.length rfl rfl ?c1 ?c2 ?c3 ?c4 ?_))
 case c1=>rfl
 case c2=>first|omega|(rw [hz2];omega)
 case c3=>unfold maxLen;omega
 case c4=>omega
 intro w2 hown2 hgrow2;have hb2:Bel w1 w2:=(Bel.refl _).grown hgrow2 (fun g hg=>by cases hg);have hT0:TwoI w.heap.size w0.heap.size w1.heap.size B.length B.length w2 [] []:=⟨OwnI.later (w:=w1) (B:=[]) hown1 hb2,hown2,by omega⟩;have hbb:Bel w w2:=hb0.trans (hb1.trans hb2);clear hown1 hown2 hgrow1 hgrow2 hb0 hb1 hb2 hw0 hw1 hw01;go_wp2;go_loopg [6,7,8,26] B.length (fun r va vb vl n wr=>Bel w wr∧∃(k ga gb ca cb:Nat) (La Lb:List Int) (lf:Int),r=B.length - k∧k≤B.length∧n= .int .i64 k∧va=sl ga La.length ca∧vb=sl gb Lb.length cb∧vl= .int .i64 lf∧TwoI w.heap.size ga gb ca cb wr La Lb∧La=(B.take k).map (fun b=>M * b.2 / T)∧Lb=(B.take k).map (fun b=>M * b.2 % T)∧lf=M - La.sum∧(∀x∈La,0≤x∧x≤2000)∧M - 2000 * k≤lf∧lf≤M)
 case atStart=>exact ⟨hbb,0,_,_,_,_,[],[],M,by omega,by omega,rfl,rfl,rfl,rfl,hT0,rfl,rfl,by simp,by simp,by omega,by omega⟩
 case round=>
  obtain ⟨hb,k,ga,gb,ca,cb,La,Lb,lf,hr,hk,rfl,rfl,rfl,rfl,hT2',hLa,hLb,hlf,hbd,hlf1,hlf2⟩:=hrel;have hwr:=hb.size;have hLal:La.length=k:=by rw [hLa];simp;omega
  have hLbl:Lb.length=k:=by rw [hLb];simp;omega
  have HT:=Hid.mk hT2';have hLa8:La.length≤8:=by omega
  have hLb8:Lb.length≤8:=by omega
  have HLa:=Hid.mk hLal;have HLb:=Hid.mk hLbl;clear hT2' hT0 hbb hLal hLbl;by_cases hlt:k<B.length
  ·obtain ⟨g,rfl,c0,c1⟩:=hcell k hlt;have c0':=hb.cell c0;have c1':=hb.cell c1;obtain ⟨hw1,hw2⟩:=(hall _ (List.getElem_mem hlt)).2.2
   have HA:Hid ((B.take (k+1)).map (fun b=>M * b.2 / T)=La++[M * B[k].2 / T]):=by
    show List.map _ _=_;rw [List.take_succ_eq_append_getElem hlt,List.map_append,hLa];rfl
   have HB:Hid ((B.take (k+1)).map (fun b=>M * b.2 % T)=Lb++[M * B[k].2 % T]):=by
    show List.map _ _=_;rw [List.take_succ_eq_append_getElem hlt,List.map_append,hLb];rfl
   have HLF:=Hid.mk hlf;clear hcell c0 c1 hlf hLa hLb;generalize B[k]=bk at *;obtain ⟨idk,wk⟩:=bk;simp only at c0' c1' HA HB hw1 hw2;have hm1:0≤M * wk:=Int.mul_nonneg hM1 hw1;have hm2:M * wk≤300 * 6:=Int.mul_le_mul hM2 hw2 hw1 (by omega);have hd1:0≤M * wk / T:=Int.ediv_nonneg hm1 (by omega);have hd2:M * wk / T≤M * wk:=Int.ediv_le_self _ hm1;have hTn:(T==0)=false:=by rw [beq_eq_false_iff_ne];omega
   go_wp2_with (first|(at_builtin;refine wpList_append_lies _ rfl _ _ 59 rfl w.heap.size 3 i0 (.int .i64 0) 1 8 Tryz.underlying59 hi hz0 hz1 hz2 rfl (by decide) _ (La).length ((La).map (Value.int .i64)) rfl ?p1a ⟨wr.heap.size+1,0,none⟩ 1 1 [.int .i64 (M * wk / T)] rfl rfl ?da1 ?da2 (by decide) ?da3 ?da4 ?da5 _ rfl ?_))
   case p1a=>exact (World.ownsRow.alloc (World.ownsRow.alloc HT.out.1 _) _)
   try (case da1=>exact one_new _ _ _ _ (by simp))
   case da2=>first|rfl|(intro u hu;simp at hu;subst hu;rfl)
   case da3=>unfold maxLen;omega
   case da4=>omega
   case da5=>first|omega|(simp;omega)
   intro g1 cap1 w3 hown3 hgrow3 hat3 hlt3;have H3:=Hid.mk (TwoI.app1 (TwoI.later HT.out ((Bel.step_alloc (Bel.refl wr) _).step_alloc _)) hown3 rfl hgrow3 (hat3.imp id (fun e=>by rw [e];simp)));have hb3:Bel w w3:=((hb.step_alloc _).step_alloc _).grown hgrow3 (fun g hg=>(World.ownsRow.lt HT.out.1 g hg).1);have x1:w3.cell? ⟨wr.heap.size,1,none⟩=some (.int .i64 wk):=cell_grown hgrow3 (by simp) (fun e=>by have:=(World.ownsRow.lt HT.out.1 _ e).2;simp at this);have hw3:=hb3.size;clear hown3 hgrow3 hat3 hlt3 HT;go_wp2_with (first|(at_builtin;refine wpList_append_lies _ rfl _ _ 59 rfl w.heap.size 3 i0 (.int .i64 0) 1 8 Tryz.underlying59 hi hz0 hz1 hz2 rfl (by decide) _ (Lb).length ((Lb).map (Value.int .i64)) rfl ?p1b ⟨w3.heap.size,0,none⟩ 1 1 [.int .i64 (M * wk % T)] rfl rfl ?db1 ?db2 (by decide) ?db3 ?db4 ?db5 _ rfl ?_))
   case p1b=>exact (World.ownsRow.alloc H3.out.2.1 _)
   try (case db1=>exact one_new _ _ _ _ (by simp))
   case db2=>first|rfl|(intro u hu;simp at hu;subst hu;rfl)
   case db3=>unfold maxLen;omega
   case db4=>omega
   case db5=>first|omega|(simp;omega)
   intro g2 cap2 w4 hown4 hgrow4 hat4 hlt4;have H4:=Hid.mk (TwoI.app2 (TwoI.later H3.out (Bel.step_alloc (Bel.refl w3) _)) hown4 rfl hgrow4 (hat4.imp id (fun e=>by rw [e];simp)));have hb4:Bel w w4:=(hb3.step_alloc _).grown hgrow4 (fun g hg=>(World.ownsRow.lt H3.out.2.1 g hg).1);clear hown4 hgrow4 hat4 hlt4 H3 x1;go_wp2;go_roundg (B.length - (k+1))
   case measure=>omega
   case rel=>
    refine ⟨hb4,k+1,g1,g2,cap1,cap2,La++[M * wk / T],Lb++[M * wk % T],lf - M * wk / T,rfl,by omega,by go_num,by simp [sl],by simp [sl],rfl,H4.out,HA.out.symm,HB.out.symm,?_,?_,by omega,by omega⟩
    ·rw [HLF.out];simp;omega
    ·intro x hx;rcases List.mem_append.1 hx with hx|hx
     ·exact hbd x hx
     ·simp at hx;subst hx;omega
  ·have hk2:B.take k=B:=List.take_of_length_le (by omega);rw [hk2] at hLa hLb
   have HF:Hid (X=giveF lf.toNat La Lb):=by
    show X=_;rw [HX.out,hlf,hLa,hLb]
   clear hcell hk2 hLa hLb hlf HX;unfold sl;go_wp2;have hTw:=HT.out;have hlb:La.length=Lb.length:=by rw [HLa.out,HLb.out]
   generalize hna:La.length=na at *;rw [←hlb];go_loopg [8] lf.toNat (fun r vl wz=>Bel w wz∧∃(l:Int) (S R:List Int),r=l.toNat∧vl= .int .i64 l∧TwoI w.heap.size ga gb ca cb wz S R∧S.length=na∧R.length=na∧X=giveF l.toNat S R∧l≤300∧ -20000≤l∧∀x∈S,0≤x∧x≤20000 - l)
   case atStart=>exact ⟨hb,lf,La,Lb,rfl,rfl,hTw,hna,hlb.symm,HF.out,by omega,by omega,fun x hx=>by have:=hbd x hx;omega⟩
   case round=>
    obtain ⟨hbz,l,S,R,hr2,rfl,hTz,hSl,hRl,hXz,hl1,hl2,hbz2⟩:=hrel;have HXZ:=Hid.mk hXz;have HB2:=Hid.mk hbz2;have HTZ:=Hid.mk hTz;have HSl:=Hid.mk hSl;have HRl:=Hid.mk hRl;have hwz:=hbz.size;clear hXz hbz2 HT hTw HF hbd HLa HLb hTz hlb hna hSl hRl;by_cases hl0:0<l
    ·obtain ⟨n,hn⟩:∃n:Nat,l.toNat=n+1:=⟨l.toNat - 1,by omega⟩;have hgr:=greatest_is R (sl gb R.length cb) _ HTZ.out.2.1.row (by rw [HRl.out];omega);have hrg:=bestF_range R;rw [HRl.out] at hgr hrg
     have HG:Hid (X=if bestF R<0 then S else giveF n (S.set (bestF R).toNat (S.getD (bestF R).toNat 0+1)) (R.set (bestF R).toNat (-1))):=by
      show X=_;rw [HXZ.out,hn];rfl
     clear HXZ;generalize bestF R=bi at *;obtain ⟨hbi1,hbi2⟩:=hrg;unfold sl at hgr;have HN:=Hid.mk hn;clear hn;by_cases hneg:bi<0
     ·rw [if_pos hneg] at HG;go_wp2_with fail;refine hgr.mono ?_;rintro e w5 ⟨rfl,hb5⟩;go_wp2;go_ret;exact ⟨_,rfl,hbz.trans hb5,by rw [HG.out];have:=(HTZ.out.1.later hb5);unfold sl at this;rw [HSl.out] at this;exact this⟩
     ·rw [if_neg hneg] at HG;obtain ⟨j,hj⟩:∃j:Nat,bi=(j:Int):=⟨bi.toNat,by omega⟩;subst hj;have hjn:j<na:=by omega
      go_wp2_with fail;refine hgr.mono ?_;rintro e w5 ⟨rfl,hb5⟩;have hT5:=HTZ.out.later hb5;have hjS:j<S.length:=by rw [HSl.out];exact hjn
      have k1:w5.cell? ⟨ga,j,none⟩=some (.int .i64 S[j]):=by
       rw [World.ownsRow.cellAt hT5.1 j (by omega)];simp [hjS]
      have k2:=World.ownsRow.frozenAt hT5.1 j
      have k3:∃y,w5.cell? ⟨gb,j,none⟩=some y:=by
       have hjR:j<R.length:=by rw [HRl.out];exact hjn
       exact ⟨_,by rw [World.ownsRow.cellAt hT5.2.1 j (by omega),List.getElem?_map,List.getElem?_eq_getElem hjR];rfl⟩
      have k4:=World.ownsRow.frozenAt hT5.2.1 j;obtain ⟨y,k3⟩:=k3;have hne:=hT5.2.2;have hSj:=HB2.out _ (List.getElem_mem hjS);have HJ:Hid (S.getD j 0=S[j]):=by show S.getD j 0=S[j];rw [List.getD_eq_getElem?_getD,List.getElem?_eq_getElem hjS];rfl
      have H5:=Hid.mk ((hT5.set1 j (S[j]+1)).set2 j (-1));generalize S[j]=sj at *;have hga:=(World.ownsRow.lt hT5.1 ga rfl).1;have hgb:=(World.ownsRow.lt hT5.2.1 gb rfl).1;clear hT5 HTZ hgr;go_wp2;go_roundg (l - 1).toNat
      case measure=>omega
      case rel=>
       refine ⟨((hbz.trans hb5).step_set hga _).step_set hgb _,l - 1,S.set j (sj+1),R.set j (-1),rfl,rfl,H5.out,by rw [List.length_set];exact HSl.out,by rw [List.length_set];exact HRl.out,?_,by omega,by omega,?_⟩
       ·rw [HG.out,show (l - 1).toNat=n from by have:=HN.out;omega];simp only [Int.toNat_natCast];rw [HJ.out]
       ·intro x hx;rcases List.mem_or_eq_of_mem_set hx with hx|rfl
        ·have:=HB2.out x hx;omega
        ·omega
    ·have HG:Hid (X=S):=by
      show X=S;rw [HXZ.out,show l.toNat=0 by omega];rfl
     go_wp2
     go_ret
     exact ⟨_,rfl,hbz,by rw [HG.out];have:=HTZ.out.1;unfold sl at this;rw [HSl.out] at this;exact this⟩
end Go.Proofs.YtpapdkhjdelfcabGreat
