import Derived.Test.YtpapdkhjdelfcabGreatHAI
import Derived.Test.YtpapdkhjdelfcabGreatHAA
import Derived.Laws.AppendOwnNone
set_option maxRecDepth 100000
set_option maxHeartbeats 4000000
namespace Go.Proofs.YtpapdkhjdelfcabGreat
open Go.RowKit
def OwnS (base g cap:Nat) (w:World) (S:List Int):Prop:=w.ownsRow base 116 2 (sl g S.length cap) S.length (icells (slotE S))
theorem slot_set (S:List Int) (k:Nat) (x:Int):icells (slotE (S.set k x))=(icells (slotE S)).set (k * 2+1) (.int .i64 x):=by
 induction S generalizing k with
 |nil=>simp [slotE,icells]
 |cons s S ih=>
  cases k with
  |zero=>simp [slotE,icells]
  |succ k=>
   have e:(k+1) * 2+1=k * 2+1+1+1:=by omega
   have:=ih k;simp only [slotE,icells,List.set_cons_succ,List.map_cons,List.flatMap_cons,List.cons_append,List.nil_append,e] at this ⊢;rw [this]
theorem OwnS.set {base g cap:Nat} {w:World} {S:List Int} (h:OwnS base g cap w S) (k:Nat) (x:Int):OwnS base g cap (w.setCell ⟨g,k * 2+1,none⟩ (.int .i64 x)) (S.set k x):=by
 have hs:=World.ownsRow.stored h (k * 2+1) (.int .i64 x);unfold OwnS;rw [slot_set,sl,List.length_set];exact hs.1
theorem OwnS.ents {base g cap:Nat} {w:World} {S:List Int} (h:OwnS base g cap w S):EIAt w (sl g S.length cap) (slotE S):=by
 have:=RowAt.of_owns h;unfold EIAt;rw [slotE_len];exact this
theorem own_later {base:Nat} {e:TypeId} {s:Nat} {w w':World} {v:Value} {n:Nat} {xs:List Value} (h:w.ownsRow base e s v n xs) (k:Bel w w'):w'.ownsRow base e s v n xs:=
 World.ownsRow.kept h (row := none) ⟨k.below.os, k.below.tape, k.below.output, k.size, fun j hj _ => k.block j hj⟩ (by
   cases hv : v.ownBlock
   · exact Or.inl rfl
   · exact Or.inr (by simp))
theorem giveF_len (n:Nat) (s r:List Int):(giveF n s r).length=s.length:=by
 induction n generalizing s r with
 |zero=>rfl
 |succ n ih=>
  rw [giveF];split
  ·rfl
  ·rw [ih,List.length_set]
theorem sharesF_len (M:Int) (B:List BK) (h:1≤wSum B):(sharesF M B).length=B.length:=by
 rw [sharesF,if_neg (by omega),giveF_len,lowF,List.length_map]
theorem turnF_len (W:List (Int×Int)) (S:List Int) (i:Nat):(turnF W S i).length=S.length:=by
 unfold turnF;split
 ·rw [List.length_set]
 ·rfl
theorem roundTo_len (W:List (Int×Int)) (sh:List Int) (r:Nat) (S:List Int) (n:Nat):(roundTo W sh r S n).length=S.length:=by
 induction n with
 |zero=>rfl
 |succ n ih=>
  rw [roundTo];split
  ·exact ih
  ·rw [turnF_len,ih]
theorem fillTo_len (W:List (Int×Int)) (sh:List Int) (S:List Int) (n:Nat):(fillTo W sh S n).length=S.length:=by
 induction n with
 |zero=>rfl
 |succ n ih=>rw [fillTo,roundTo_len,ih]
theorem wayOf_range (c:Cfg) (b:BK) (hs:3≤c.slots) (hs2:c.slots≤211):(0≤(wayOf c b).1∧(wayOf c b).1<c.slots)∧1≤(wayOf c b).2∧(wayOf c b).2<c.slots:=by
 have h1:=restF_range (hsh c.key 111 [] b.1) c.slots (by omega);have h2:=restF_range (hsh c.key 115 [] b.1) (c.slots - 1) (by omega);refine ⟨h1,?_,?_⟩<;>simp only [wayOf] <;>omega
theorem freeF_lt {S:List Int} {y:Int×Int} {j:Nat} (h:freeF S y=some j):j<S.length:=by
 have hm:=List.mem_of_find?_eq_some h;obtain ⟨i,hi,rfl⟩:=List.mem_map.1 hm;have:i<S.length:=by simpa using hi
 exact stepOf_lt y i (by omega)
def REnts (w:World) (L:List EI) (e:Ending) (w':World):Prop:=∃v,e= .returned v∧Bel w w'∧OwnE w.heap.size w' v L
def Mag (w w1:World) (g cap:Nat) (vW vS:Value) (W:List (Int×Int)) (sh:List Int) (S:List Int) (wr:World):Prop:=
 Bel w wr∧OwnS (w.heap.size+1) g cap wr S∧OwnW w1.heap.size wr vW W∧OwnI w1.heap.size wr vS sh∧g<w1.heap.size
theorem Mag.later {w w1:World} {g cap:Nat} {vW vS:Value} {W:List (Int×Int)} {sh S:List Int} {wr wx:World} (h:Mag w w1 g cap vW vS W sh S wr) (k:Bel wr wx):Mag w w1 g cap vW vS W sh S wx:=
 ⟨h.1.trans k,own_later h.2.1 k,own_later h.2.2.1 k,own_later h.2.2.2.1 k,h.2.2.2.2⟩
theorem Mag.set {w w1:World} {g cap:Nat} {vW vS:Value} {W:List (Int×Int)} {sh S:List Int} {wr:World} (h:Mag w w1 g cap vW vS W sh S wr) (k:Nat) (x:Int):Mag w w1 g cap vW vS W sh (S.set k x) (wr.setCell ⟨g,k * 2+1,none⟩ (.int .i64 x)):=by
 have hg:=(World.ownsRow.lt h.2.1 g rfl).1;exact ⟨h.1.step_set (by simp only;omega) _,h.2.1.set k x,ownsRow_setCell_below h.2.2.1 h.2.2.2.2 _,ownsRow_setCell_below h.2.2.2.1 h.2.2.2.2 _,h.2.2.2.2⟩
theorem maglev_is (c:Cfg) (B:List BK) (v:Value) (w:World) (hP:PoolAt w v B) (hB:PoolOK B) (hc:c.OK) (hT:1≤wSum B):
  Calls Tryz.prog 141 #[.agg c.cells,v] w (REnts w (slotE (maglevF c B))):=by
 obtain ⟨i0,hi,hz0,hz1,hz2⟩:=info_parts Tryz.infoEI;have hways:=fun wx hx=>ways_is c B v wx hx hB hc
 obtain ⟨hs1,hs2,hk16⟩:3≤c.slots∧c.slots≤211∧c.key.size=16:=⟨hc.2.2.1,hc.2.2.2.1,hc.2.2.2.2.2.2.2.2.2.1⟩;have hsh:=fun wx hx=>shares_is c.slots B v wx hx hB (by omega) (by omega)
 have hshl:=sharesF_len c.slots B hT;have h8:=hB.1
 have hwy:∀y∈B.map (wayOf c),(0≤y.1∧y.1≤300)∧0≤y.2∧y.2≤300:=by
  intro y hy;obtain ⟨b,_,rfl⟩:=List.mem_map.1 hy;have:=wayOf_range c b hs1 hs2;omega
 have hWl:(B.map (wayOf c)).length=B.length:=by simp
 obtain ⟨M,hM⟩:∃M:Nat,c.slots=(M:Int):=⟨c.slots.toNat,by omega⟩;obtain ⟨X,hX⟩:∃X,X=maglevF c B:=⟨_,rfl⟩;rw [←hX];rw [maglevF,hM,Int.toNat_natCast] at hX;rw [hM] at hsh hshl;generalize sharesF (M:Int) B=sh at *;generalize B.map (wayOf c)=W at *;have HX:=Hid.mk hX;obtain ⟨alg,slots,points,probes,key,formats⟩:=c;simp only [Cfg.cells] at *;subst hM;clear hc hX hB;go_enter Tryz.func141,Tryz.ntmps141;go_wp2;obtain ⟨wm,hwm⟩:∃wm,wm=w.alloc (.cells #[.int .i64 alg,.int .i64 (M:Int),.int .i64 points,.int .i64 probes,.string key,.int .i64 formats] 34):=⟨_,rfl⟩;have m0:wm.cell? ⟨w.heap.size,0,none⟩=some (.int .i64 alg):=by rw [hwm];simp
 have m1:wm.cell? ⟨w.heap.size,1,none⟩=some (.int .i64 (M:Int)):=by rw [hwm];simp
 have m2:wm.cell? ⟨w.heap.size,2,none⟩=some (.int .i64 points):=by rw [hwm];simp
 have m3:wm.cell? ⟨w.heap.size,3,none⟩=some (.int .i64 probes):=by rw [hwm];simp
 have m4:wm.cell? ⟨w.heap.size,4,none⟩=some (.string key):=by rw [hwm];simp
 have m5:wm.cell? ⟨w.heap.size,5,none⟩=some (.int .i64 formats):=by rw [hwm];simp
 have hwb:Bel w wm:=by rw [hwm];exact (Bel.refl w).step_alloc _
 have hsz:wm.heap.size=w.heap.size+1:=by rw [hwm];simp
 rw [←hwm];clear hwm;go_loopg [5,6] M (fun r vL n wr=>Bel wm wr∧∃(k:Nat),r=M - k∧k≤M∧n= .int .i64 k∧OwnE (w.heap.size+1) wr vL (slotE (List.replicate k (-1))))
 case atStart=>exact ⟨Bel.refl _,0,by omega,by omega,rfl,World.ownsRow_nil _ _ _ _⟩
 case round=>
  obtain ⟨hb,k,hr,hk,rfl,hL⟩:=hrel;have hwr:=hb.size;have hwl:w.heap.size<wr.heap.size:=by omega
  have n1:=hb.cell m1;have hk300:k≤300:=by omega
  have HO:=Hid.mk hL;clear hL;by_cases hlt:k<M
  ·have hLl:(slotE (List.replicate k (-1))).length=k:=by rw [slotE_len,List.length_replicate]
   have HS:Hid (slotE (List.replicate (k+1) (-1))=slotE (List.replicate k (-1))++[(0, -1)]):=by
    show slotE _=_;rw [List.replicate_succ',slotE,List.map_append];rfl
   generalize slotE (List.replicate k (-1))=L at *;have hLk:L.length≤300:=by omega
   have HLl:=Hid.mk hLl;clear hLl;go_wp2_with (first|(at_builtin;refine wpList_append_own _ rfl _ _ 64 rfl (w.heap.size+1) 116 i0 (.agg #[.int .u64 0,.int .i64 0]) 2 16 Tryz.underlying64 hi hz0 hz1 hz2 rfl (by decide) _ L.length (icells L) rfl ?p1 ⟨wr.heap.size,0,none⟩ 1 1 [.int .u64 0,.int .i64 (-1)] rfl rfl ?d1 ?d2 ?d3 ?d4 ?d5 ?_))
   case p1=>exact World.ownsRow.alloc HO.out _
   try (case d1=>exact two_new _ _ _ _ _ (by simp))
   case d2=>first|exact ⟨rfl,rfl⟩|exact two_one rfl rfl
   case d3=>unfold maxLen;omega
   case d4=>omega
   case d5=>first|omega|(simp;omega)
   intro v2 w2 hown2 hgrow2 _;have hb2:Bel wm w2:=(hb.step_alloc _).grown hgrow2 (fun g hg=>by have:=(World.ownsRow.lt HO.out g hg).1;omega);have H2:=Hid.mk (OwnE.snoc (b:=(0, -1)) hown2 rfl);clear hown2 hgrow2;go_wp2;go_roundg (M - (k+1))
   case measure=>omega
   case rel=>exact ⟨hb2,k+1,rfl,by omega,by go_num,by rw [HS.out];exact H2.out⟩
  ·obtain rfl:k=M:=by omega
   have hLl:(slotE (List.replicate k (-1))).length=k:=by rw [slotE_len,List.length_replicate]
   obtain ⟨g,cap,hv5,hg1,hg2⟩:=World.ownsRow.form HO.out (by rw [hLl];omega);subst hv5;rw [hLl] at HO ⊢;have n0:=hb.cell m0;have n2:=hb.cell m2;have n3:=hb.cell m3;have n4:=hb.cell m4;have n5:=hb.cell m5;have hbw:=hwb.trans hb;go_wp2_with fail;refine (hways _ (hP.later hbw)).mono ?_;rintro e w2 ⟨vW,rfl,hb2,hW2⟩;have p1:=hb2.cell n1;go_wp2_with fail;refine (hsh _ (hP.later (hbw.trans hb2))).mono ?_;rintro e w3 ⟨vS,rfl,hb3,hS3⟩;have hw23:=hb2.size;obtain ⟨wb,hwbr⟩:∃wb,wb=wr:=⟨_,rfl⟩
   have hMag:Mag w wb g cap vW vS W sh (List.replicate k (-1)) w3:=by
    rw [hwbr];refine ⟨hbw.trans (hb2.trans hb3),?_,own_later hW2 hb3,World.ownsRow.mono hS3 hw23,hg2⟩;have:=own_later HO.out (hb2.trans hb3);unfold OwnS sl;rw [List.length_replicate];simpa [hLl] using this
   have p1:=hb3.cell p1;have hb13:=hb2.trans hb3
   obtain ⟨aW,capW,hvW,hcW⟩:∃aW cW,vW= .slice aW B.length cW∧∀wx,OwnW wb.heap.size wx vW W→∀j (hj:j<W.length),∃gw,aW=some ⟨gw,0,none⟩∧wx.cell? ⟨gw,j * 2,none⟩=some (.int .i64 W[j].1)∧wx.cell? ⟨gw,j * 2+1,none⟩=some (.int .i64 W[j].2):=by
    obtain ⟨gw, cw, hv, _, _⟩ := World.ownsRow.form hW2 (by rw [hWl]; exact Nat.pos_of_ne_zero (fun e => by
      have : B = [] := List.eq_nil_of_length_eq_zero e
      subst this; simp [wSum] at hT))
    rw [hWl] at hv;refine ⟨_,cw,hv,fun wx hx j hj=>⟨gw,rfl,?_,?_⟩⟩
    ·have:=World.ownsRow.cells hx (g:=gw) (by rw [hv];rfl) (j * 2) _ (wcells_get W j hj).1;rwa [show (⟨gw,0,none⟩:Addr).add (j * 2)=⟨gw,j * 2,none⟩ by unfold Addr.add;split <;>simp_all] at this
    ·have:=World.ownsRow.cells hx (g:=gw) (by rw [hv];rfl) (j * 2+1) _ (wcells_get W j hj).2;rwa [show (⟨gw,0,none⟩:Addr).add (j * 2+1)=⟨gw,j * 2+1,none⟩ by unfold Addr.add;split <;>simp_all] at this
   obtain ⟨aS,capS,hvS,hcS⟩:∃aS cS,vS= .slice aS B.length cS∧∀wx,OwnI wb.heap.size wx vS sh→∀j (hj:j<sh.length),∃gs,aS=some ⟨gs,0,none⟩∧wx.cell? ⟨gs,j,none⟩=some (.int .i64 sh[j]):=by
    obtain ⟨gs, cs, hv, _, _⟩ := World.ownsRow.form hS3 (by rw [hshl]; exact Nat.pos_of_ne_zero (fun e => by
      have : B = [] := List.eq_nil_of_length_eq_zero e
      subst this; simp [wSum] at hT))
    rw [hshl] at hv;refine ⟨_,cs,hv,fun wx hx j hj=>⟨gs,rfl,?_⟩⟩;have:=World.ownsRow.cells hx (g:=gs) (by rw [hv];rfl) j (.int .i64 sh[j]) (by simp [hj]);rwa [show (⟨gs,0,none⟩:Addr).add j=⟨gs,j,none⟩ by unfold Addr.add;split <;>simp_all] at this
   subst hvW;subst hvS;clear hwbr n0 n2 n3 n4 n5 hb2 hb3 hW2 hS3 hways hsh HO hLl hw23 m0 m1 m2 m3 m4 m5;go_wp2;clear hk hr hlt hk300 hwr hwl hbw hb13 n1;obtain ⟨S0,hS0⟩:∃S0:List Int,S0=List.replicate k (-1):=⟨_,rfl⟩;have hS0l:S0.length=k:=by rw [hS0];simp
   rw [←hS0] at HX hMag;clear hS0;go_loopg [9] k (fun r n wr=>∃q:Nat,r=k - q∧q≤k∧n= .int .i64 q∧Mag w wb g cap (.slice aW B.length capW) (.slice aS B.length capS) W sh (fillTo W sh S0 q) wr∧wr.cell? ⟨w.heap.size,1,none⟩=some (.int .i64 (k:Int)))
   case atStart=>exact ⟨0,by omega,by omega,rfl,hMag,p1⟩
   case round=>
    obtain ⟨q,hr2,hq,rfl,hMg,o1⟩:=hrel;have HM:=Hid.mk hMg;clear hMg hMag p1;by_cases hlt:q<k
    ·have hd:decide ((q:Int)<(k:Int))=true:=decide_eq_true (by omega);have HF:Hid (fillTo W sh S0 (q+1)=roundTo W sh q (fillTo W sh S0 q) sh.length):=rfl;have hSq:(fillTo W sh S0 q).length=k:=by rw [fillTo_len,hS0l]
     have HX2:=HX;generalize fillTo W sh S0 q=Sq at *;go_wp2;go_loopg [38] sh.length (fun r n wr=>∃i:Nat,r=sh.length - i∧i≤sh.length∧n= .int .i64 i∧Mag w wb g cap (.slice aW B.length capW) (.slice aS B.length capS) W sh (roundTo W sh q Sq i) wr∧wr.cell? ⟨w.heap.size,1,none⟩=some (.int .i64 (k:Int)))
     case atStart=>exact ⟨0,by omega,by omega,rfl,HM.out,o1⟩
     case round=>
      obtain ⟨i,hr3,hi3,rfl,hMi,o2⟩:=hrel;by_cases hil:i<sh.length
      ·have hil2:i<B.length:=by omega
       have hiW:i<W.length:=by omega
       obtain ⟨gs,haS,s0⟩:=hcS _ hMi.2.2.2.1 i hil;obtain ⟨gw,haW,y0,y1⟩:=hcW _ hMi.2.2.1 i hiW;obtain ⟨⟨hy1,hy2⟩,hy3,hy4⟩:=hwy _ (List.getElem_mem hiW)
       have HR:Hid (roundTo W sh q Sq (i+1)=if sh[i]≤q then roundTo W sh q Sq i else turnF W (roundTo W sh q Sq i) i):=by
        show roundTo W sh q Sq (i+1)=_;rw [roundTo,List.getD_eq_getElem?_getD,List.getElem?_eq_getElem hil];rfl
       have hRl:(roundTo W sh q Sq i).length=k:=by rw [roundTo_len,hSq]
       have hff:=fun wx hx=>firstFree_is (roundTo W sh q Sq i) (sl g (roundTo W sh q Sq i).length cap) W[i] wx hx (by omega) hy1 hy2 hy3 hy4
       have HT:Hid (turnF W (roundTo W sh q Sq i) i=match freeF (roundTo W sh q Sq i) W[i] with|some k=>(roundTo W sh q Sq i).set k i|none=>roundTo W sh q Sq i):=by
        show turnF _ _ _=_;rw [turnF,List.getD_eq_getElem?_getD,List.getElem?_eq_getElem hiW];rfl
       have HMi:=Hid.mk hMi;have hff:=hff _ hMi.2.1.ents;have hfl:=fun j=>freeF_lt (S:=roundTo W sh q Sq i) (y:=W[i]) (j:=j)
       rw [hRl] at hff hfl;unfold sl at hff;clear hMi;generalize roundTo W sh q Sq i=Si at *;generalize W[i]=yw at *;generalize sh[i]=shi at *;obtain ⟨yo,yk⟩:=yw;simp only at y0 y1 hff HT hy1 hy2 hy3 hy4;subst haS;subst haW;by_cases hge:shi≤(q:Int)
       ·rw [if_pos hge] at HR;have hdg:decide ((q:Int)≥shi)=true:=decide_eq_true hge;go_wp2;go_roundg (sh.length - (i+1))
        case measure=>omega
        case rel=>exact ⟨i+1,rfl,by omega,by go_num,by rw [HR.out];exact HMi.out,o2⟩
       ·rw [if_neg hge,HT.out] at HR;have hdg:decide ((q:Int)≥shi)=false:=decide_eq_false hge;generalize freeF Si (yo,yk)=ff at *;go_wp2_with fail;refine hff.mono ?_;rintro e w5 ⟨rfl,hb5⟩;have o5:=hb5.cell o2;have HM5:=Hid.mk (HMi.out.later hb5);cases ff with
        |none=>
         simp only [freeI];simp only at HR;go_wp2;go_roundg (sh.length - (i+1))
         case measure=>omega
         case rel=>exact ⟨i+1,rfl,by omega,by go_num,by rw [HR.out];exact HM5.out,o5⟩
        |some j=>
         have hj:=hfl j rfl;simp only [freeI];simp only at HR
         have k1:∃y,w5.cell? ⟨g,j * 2+1,none⟩=some y:=by
          have hjl:j<(slotE Si).length:=by rw [slotE_len,hRl];exact hj
          exact ⟨_,by rw [World.ownsRow.cellAt HM5.out.2.1 (j * 2+1) (by rw [hRl];omega)];exact (icells_get _ j hjl).2⟩
         have k2:=World.ownsRow.frozenAt HM5.out.2.1 (j * 2+1);obtain ⟨y,k1⟩:=k1;have hgw:w.heap.size+1≤g:=(World.ownsRow.lt HM5.out.2.1 g rfl).1;go_wp2;go_roundg (sh.length - (i+1))
         case measure=>omega
         case rel=>exact ⟨i+1,rfl,by omega,by go_num,by rw [HR.out];exact HM5.out.set j _,by rw [set_other (by simp;omega)];exact o5⟩
      ·obtain rfl:i=sh.length:=by omega
       have HMi:=Hid.mk hMi;clear hMi;go_wp2;go_roundg (k - (q+1))
       case measure=>omega
       case rel=>exact ⟨q+1,rfl,by omega,by go_num,by rw [HF.out];exact HMi.out,o2⟩
    ·obtain rfl:q=k:=by omega
     have HFi:=Hid.mk HM.out.2.1;have hbf:=HM.out.1;rw [←HX.out] at HFi;have hXl:X.length=q:=by rw [HX.out,fillTo_len,hS0l]
     go_wp2;go_ret;exact ⟨_,rfl,hbf,by have:=HFi.out;unfold OwnS at this;unfold OwnE;rw [slotE_len];rw [sl,hXl] at this;rw [hXl];exact World.ownsRow.mono this (by omega)⟩
end Go.Proofs.YtpapdkhjdelfcabGreat
namespace Go.Proofs.YtpapdkhjdelfcabGreat
open Go.RowKit
theorem ints_two (w:World) (a b:Nat):IntsAt (w.alloc (.cells #[.int .i64 (a:Int),.int .i64 (b:Int)] 3)) (.slice (some ⟨w.heap.size,0,none⟩) 2 2) [a,b]:=by
 refine Or.inr ⟨w.heap.size,2,rfl,by simp,by simp,fun j u hu=>?_⟩;have hl:=(List.getElem?_eq_some_iff.1 hu).1;simp at hl;rcases (show j=0∨j=1 by omega) with rfl|rfl
 ·simp at hu;subst hu;simp
 ·simp at hu;subst hu;simp
theorem ints_one (w:World) (a:Nat):IntsAt (w.alloc (.cells #[.int .i64 (a:Int)] 3)) (.slice (some ⟨w.heap.size,0,none⟩) 1 1) [a]:=by
 refine Or.inr ⟨w.heap.size,1,rfl,by simp,by simp,fun j u hu=>?_⟩;have hl:=(List.getElem?_eq_some_iff.1 hu).1;simp at hl;rcases (show j=0 by omega) with rfl;simp at hu;subst hu;simp
theorem winner_is (key:ByteArray) (s:Nat) (B:List BK) (v:Value) (w:World) (hP:PoolAt w v B) (hB:PoolOK B) (hk:key.size=16):
  Calls Tryz.prog 186 #[.string key,.int .i64 s,v] w (RSum w (winnerF key B s)):=by
 obtain ⟨h8,hall⟩:=hB;obtain ⟨ao,cap,rfl,hcell⟩:=hP.open;obtain ⟨X,hX⟩:∃X,X=winnerF key B s:=⟨_,rfl⟩;rw [←hX];rw [winnerF] at hX;have HX:=Hid.mk hX;clear hX
 have hstep:∀i (h:i<B.length),winnerTo key s B (i+1)=winTo key s i B[i].1 (winnerTo key s B i) B[i].2.toNat:=fun i h=>by
  rw [winnerTo,List.getElem?_eq_getElem h]
 have h0:winnerTo key s B 0=(-1,0):=rfl;generalize winnerTo key s B=wt at *;go_enter Tryz.func186,Tryz.ntmps186;go_wp2;go_loopg [7,8,15] B.length (fun r vb vm n wr=>Bel w wr∧∃k:Nat,r=B.length - k∧k≤B.length∧n= .int .i64 k∧vb= .int .i64 (wt k).1∧vm= .int .u64 (wt k).2)
 case atStart=>exact ⟨Bel.refl _,0,by omega,by omega,rfl,by rw [h0],by rw [h0]⟩
 case round=>
  obtain ⟨hb,k,hr,hkB,rfl,rfl,rfl⟩:=hrel;by_cases hlt:k<B.length
  ·obtain ⟨g,rfl,c0,c1⟩:=hcell k hlt;have c0':=hb.cell c0;have c1':=hb.cell c1;have HS:=Hid.mk (hstep k hlt);obtain ⟨hid1,hid,hw1,hw2⟩:=hall _ (List.getElem_mem hlt);clear hcell c0 c1 hstep;generalize B[k]=bk at *;obtain ⟨idk,wk⟩:=bk;simp only at c0' c1' HS hid hw1 hw2 hid1;obtain ⟨n,hn⟩:∃n:Nat,wk=(n:Int):=⟨wk.toNat,by omega⟩;subst hn;rw [Int.toNat_natCast] at HS;generalize wt k=m0 at *;go_wp2;have hm0:winTo key s k idk m0 0=m0:=rfl;have hwt:∀j,winTo key s k idk m0 (j+1)=if (winTo key s k idk m0 j).1<0∨(winTo key s k idk m0 j).2<hsh key 104 [s,j] idk then ((k:Int),hsh key 104 [s,j] idk) else winTo key s k idk m0 j:=fun _=>rfl
   generalize winTo key s k idk m0=wj at *;obtain ⟨wb,hwb⟩:∃wb,wb=wr.alloc (.cells #[.string idk,.int .i64 (n:Int)] 75):=⟨_,rfl⟩;have d0:wb.cell? ⟨wr.heap.size,0,none⟩=some (.string idk):=by rw [hwb];simp
   have d1:wb.cell? ⟨wr.heap.size,1,none⟩=some (.int .i64 (n:Int)):=by rw [hwb];simp
   have hbb:Bel w wb:=by rw [hwb];exact hb.step_alloc _
   rw [←hwb];generalize wr.heap.size=pb at *;clear hwb hb c0' c1';go_loopg [7,8,11] n (fun r vb vm vk wr=>Bel wb wr∧∃j:Nat,r=n - j∧j≤n∧vk= .int .i64 j∧vb= .int .i64 (wj j).1∧vm= .int .u64 (wj j).2)
   case atStart=>exact ⟨Bel.refl _,0,by omega,by omega,rfl,by rw [hm0],by rw [hm0]⟩
   case round=>
    obtain ⟨hbj,j,hrj,hjn,rfl,rfl,rfl⟩:=hrel;have e0:=hbj.cell d0;have e1:=hbj.cell d1;have hpl:=World.block_lt_of_cell? _ _ e0;by_cases hjl:j<n
    ·have HW:=Hid.mk (hwt j);have hH:=fun wx=>hash_is key 104 [s,j] (.slice (some ⟨wx.heap.size,0,none⟩) 2 2) idk _ (ints_two wx s j) (by simp) (by omega) (by omega)
     clear hwt;generalize hsh key 104 [s,j] idk=x at *;generalize wj j=mj at *;obtain ⟨mb,mm⟩:=mj;simp only at HW;have hd:decide ((j:Int)<(n:Int))=true:=decide_eq_true (by omega);simp only at hpl;go_wp2_with fail;refine (hH _).mono ?_;rintro e w2 ⟨rfl,hb2⟩;have hb3:Bel wb w2:=(hbj.step_alloc _).trans hb2;clear hb2 hH;by_cases hn:mb<0
     ·rw [if_pos (Or.inl hn)] at HW;go_wp2;go_roundg (n - (j+1))
      case measure=>omega
      case rel=>exact ⟨hb3,j+1,rfl,by omega,by go_num,by rw [HW.out],by rw [HW.out]⟩
     ·have hnf:decide (mb<0)=false:=decide_eq_false hn;by_cases hg:mm<x
      ·rw [if_pos (Or.inr hg)] at HW;have hgt:decide (x>mm)=true:=decide_eq_true hg;go_wp2;go_roundg (n - (j+1))
       case measure=>omega
       case rel=>exact ⟨hb3,j+1,rfl,by omega,by go_num,by rw [HW.out],by rw [HW.out]⟩
      ·rw [if_neg (fun h=>h.elim hn hg)] at HW;have hgt:decide (x>mm)=false:=decide_eq_false hg;go_wp2;go_roundg (n - (j+1))
       case measure=>omega
       case rel=>exact ⟨hb3,j+1,rfl,by omega,by go_num,by rw [HW.out],by rw [HW.out]⟩
    ·obtain rfl:j=n:=by omega
     clear hwt;go_wp2;go_roundg (B.length - (k+1))
     case measure=>omega
     case rel=>exact ⟨hbb.trans hbj,k+1,rfl,by omega,by go_num,by rw [HS.out],by rw [HS.out]⟩
  ·obtain rfl:k=B.length:=by omega
   clear hcell hstep;go_wp2;go_ret;exact ⟨ret_int HX.out.symm,hb⟩
theorem rendezvous_is (c:Cfg) (B:List BK) (v:Value) (w:World) (hP:PoolAt w v B) (hB:PoolOK B) (hc:c.OK):
  Calls Tryz.prog 144 #[.agg c.cells,v] w (REnts w (slotE ((List.range c.slots.toNat).map (winnerF c.key B)))):=by
 obtain ⟨i0,hi,hz0,hz1,hz2⟩:=info_parts Tryz.infoEI;obtain ⟨hs1,hs2,hk16⟩:3≤c.slots∧c.slots≤211∧c.key.size=16:=⟨hc.2.2.1,hc.2.2.2.1,hc.2.2.2.2.2.2.2.2.2.1⟩;have hwin:=fun s wx hx=>winner_is c.key s B v wx hx hB hk16
 have hbnd:∀s, -1≤winnerF c.key B s∨True:=fun _=>Or.inr trivial
 obtain ⟨M,hM⟩:∃M:Nat,c.slots=(M:Int):=⟨c.slots.toNat,by omega⟩
 have hrange:∀k,slotE ((List.range (k+1)).map (winnerF c.key B))=slotE ((List.range k).map (winnerF c.key B))++[(0,winnerF c.key B k)]:=fun k=>by
  rw [List.range_succ,List.map_append,slotE,List.map_append];rfl
 have hlen:∀k,(slotE ((List.range k).map (winnerF c.key B))).length=k:=fun k=>by rw [slotE_len];simp
 have h0:slotE ((List.range 0).map (winnerF c.key B))=[]:=rfl;obtain ⟨Lk,hLk⟩:∃Lk:Nat→List EI,Lk=fun k=>slotE ((List.range k).map (winnerF c.key B)):=⟨_,rfl⟩
 have hr2:∀k,Lk (k+1)=Lk k++[(0,winnerF c.key B k)]:=fun k=>by rw [hLk];exact hrange k
 have hl2:∀k,(Lk k).length=k:=fun k=>by rw [hLk];exact hlen k
 have h02:Lk 0=[]:=by rw [hLk];exact h0
 rw [show slotE ((List.range c.slots.toNat).map (winnerF c.key B))=Lk M from by rw [hLk,hM];rfl];generalize winnerF c.key B=wf at *;clear hLk hrange hlen h0 hbnd;obtain ⟨alg,slots,points,probes,key,formats⟩:=c;simp only [Cfg.cells] at *;subst hM;clear hc hB;go_enter Tryz.func144,Tryz.ntmps144;go_wp2;obtain ⟨wm,hwm⟩:∃wm,wm=w.alloc (.cells #[.int .i64 alg,.int .i64 (M:Int),.int .i64 points,.int .i64 probes,.string key,.int .i64 formats] 34):=⟨_,rfl⟩;have m1:wm.cell? ⟨w.heap.size,1,none⟩=some (.int .i64 (M:Int)):=by rw [hwm];simp
 have m4:wm.cell? ⟨w.heap.size,4,none⟩=some (.string key):=by rw [hwm];simp
 have hwb:Bel w wm:=by rw [hwm];exact (Bel.refl w).step_alloc _
 have hsz:wm.heap.size=w.heap.size+1:=by rw [hwm];simp
 rw [←hwm];clear hwm;go_loopg [5,6] M (fun r vL n wr=>Bel wm wr∧∃(k:Nat),r=M - k∧k≤M∧n= .int .i64 k∧OwnE (w.heap.size+1) wr vL (Lk k))
 case atStart=>exact ⟨Bel.refl _,0,by omega,by omega,rfl,by rw [h02];exact World.ownsRow_nil _ _ _ _⟩
 case round=>
  obtain ⟨hb,k,hr,hk,rfl,hL⟩:=hrel;have hwr:=hb.size;have n1:=hb.cell m1;have n4:=hb.cell m4;have HO:=Hid.mk hL;clear hL;by_cases hlt:k<M
  ·have hLl:=hl2 k;have HS:=Hid.mk (hr2 k);have hw:=fun wx hx=>hwin k wx hx
   clear hl2 hr2 h02 hwin;generalize Lk k=L at *;have hLk:L.length≤300:=by omega
   clear hLl;generalize wf k=x at *;go_wp2_with fail;refine (hw _ (hP.later (hwb.trans hb))).mono ?_;rintro e w1 ⟨rfl,hb1⟩;have hO1:=Hid.mk (own_later HO.out hb1);have hbm:=hb.trans hb1;have hw1:=hbm.size;clear HO hw hb1;go_wp2_with (first|(at_builtin;refine wpList_append_own _ rfl _ _ 64 rfl (w.heap.size+1) 116 i0 (.agg #[.int .u64 0,.int .i64 0]) 2 16 Tryz.underlying64 hi hz0 hz1 hz2 rfl (by decide) _ L.length (icells L) rfl ?p1 ⟨w1.heap.size,0,none⟩ 1 1 [.int .u64 0,.int .i64 x] rfl rfl ?d1 ?d2 ?d3 ?d4 ?d5 ?_))
   case p1=>exact World.ownsRow.alloc hO1.out _
   try (case d1=>exact two_new _ _ _ _ _ (by simp))
   case d2=>first|exact ⟨rfl,rfl⟩|exact two_one rfl rfl
   case d3=>unfold maxLen;omega
   case d4=>omega
   case d5=>first|omega|(simp;omega)
   intro v2 w2 hown2 hgrow2 _;have hb2:Bel wm w2:=(hbm.step_alloc _).grown hgrow2 (fun g hg=>by have:=(World.ownsRow.lt hO1.out g hg).1;omega);have H2:=Hid.mk (OwnE.snoc (b:=(0,x)) hown2 rfl);clear hown2 hgrow2;go_wp2;go_roundg (M - (k+1))
   case measure=>omega
   case rel=>exact ⟨hb2,k+1,rfl,by omega,by go_num,by rw [HS.out];exact H2.out⟩
  ·obtain rfl:k=M:=by omega
   clear hl2 hr2 h02 hwin;go_wp2;go_ret;exact ⟨_,rfl,hwb.trans hb,World.ownsRow.mono HO.out (by omega)⟩
end Go.Proofs.YtpapdkhjdelfcabGreat
namespace Go.Proofs.YtpapdkhjdelfcabGreat
open Go.RowKit
def SrcAt (w:World) (x:Value) (m:Nat) (news:List Value):Prop:=
 (x= .slice none 0 0∧m=0∧news=[])∨∃ad c,x= .slice (some ad) m c∧∀j u,news[j]?=some u→w.cell? (ad.add j)=some u
theorem SrcAt.later {a w:World} {x:Value} {m:Nat} {news:List Value} (h:SrcAt a x m news) (k:Bel a w):SrcAt w x m news:=by
 rcases h with h|⟨ad,c,hx,hc⟩
 ·exact Or.inl h
 ·exact Or.inr ⟨ad,c,hx,fun j u hu=>k.cell (hc j u hu)⟩
theorem wpList_append_src {P:Program} (w:World) {ops:Array Oper} {rest:List Oper} {o:Oper} {a:Act} {Q:Exit→Act→World→Prop} (hgd:o.guard=none) (s x:Operand) (t:TypeId)
  (ho:o.op= .call {callee:= .builtin .append,args:=#[s,x],argTypes:=#[t,t]})
  (base:Nat) (e:TypeId) (i:TypeInfo) (z:Value) (size bytes:Nat) (ht:P.underlying t=some (.slice e)) (hi:P.info? e=some i) (hz:i.zero=some z)
  (hsize:i.size=size) (hby:i.bytes=bytes) (hzs:z.cells.size=size) (hsz:0<size)
  (v:Value) (n:Nat) (xs:List Value) (hs:a.eval s=v) (hown:w.ownsRow base e size v n xs)
  (xv:Value) (m:Nat) (news:List Value) (hx:a.eval x=xv) (hsrc:SrcAt w xv m news) (hl:news.length=m * size) (h1:∀u∈news,u.oneCell'=true)
  (h63:n+m≤maxLen) (hbytes:(n+m) * bytes≤140737488355328) (hbase:base≤w.heap.size)
  (h:∀v' w',w'.ownsRow base e size v' (n+m) (xs++news)→w.grownBy w' v.ownBlock→wpList P ops Q rest (a.put o.dst v') w'):wpList P ops Q (o::rest) a w:=by
 rcases hsrc with ⟨rfl,rfl,rfl⟩|⟨ad,c,rfl,hc⟩
 ·refine wpList_append_own_none hgd s x t ho base e i size ht hi v n xs hs hown hx ?_;exact h v w (by simpa using hown) (World.grownBy.refl w _)
 ·exact wpList_append_own w hgd s x t ho base e i z size bytes ht hi hz hsize hby hzs hsz v n xs hs hown ad m c news hx hl hc h1 h63 hbytes hbase (fun v' w' h2 h3 _=>h v' w' h2 h3)
end Go.Proofs.YtpapdkhjdelfcabGreat
