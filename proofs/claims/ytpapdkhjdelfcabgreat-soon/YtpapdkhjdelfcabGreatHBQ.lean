import Derived.Test.YtpapdkhjdelfcabGreatHBP
set_option maxRecDepth 100000
set_option maxHeartbeats 4000000
namespace Go.Proofs.YtpapdkhjdelfcabGreat
open Go.RowKit
def ShAll:Prop:=∀(c:Cfg) (B:List BK),c.OK→Good B→c.alg=1→SharedOK B c.slots.toNat (namesF B (mkF c B))
def MvOne (id:ByteArray) (was now:Int) (b a:ByteArray):Prop:=b=a∨¬((was<now∧a≠id)∨(now<was∧b≠id)∨now=was)
def MvAll:Prop:=∀(c:Cfg) (B:List BK) (g:Int) (id:ByteArray) (was now:Int),c.OK→Good B→Good (lawPool id now (decide (now<0)) B)→c.alg≠1→was=weightF B id→(0≤was∨0≤now)→ -1≤now→now≤6→(g=0→B=[])→0≤g→∀k,k<12→MvOne id was now (localF c B g (keyF k)).1 (localF c (lawPool id now (decide (now<0)) B) (g+1) (keyF k)).1
def RStep (W0:World) (p s:Nat) (F:Int→Prop) (e:Ending) (w':World):Prop:=(e= .returned (.bool true)∧∃k,KInv W0 p s k w'∧k.Rdy s)∨(e= .returned (.bool false)∧Bel W0 w'∧∃part,F part∧w'.cell? ⟨p,0,none⟩=some (.int .i64 part))
theorem size_setCell (w:World) (a:Addr) (u:Value):(w.setCell a u).heap.size=w.heap.size:=by simp [World.setCell]
theorem texts_open {w:World} {v:Value} {L:List ByteArray} (h:RowAt w v L.length (L.map Value.string)):∃ao cap,v= .slice ao L.length cap∧∀j (hj:j<L.length),∃g,ao=some ⟨g,0,none⟩∧w.cell? ⟨g,j,none⟩=some (.string L[j]):=by
 rcases h with ⟨h1,h2,_⟩|⟨g,cap,hv,hn,hg,hc⟩
 ·exact ⟨none,0,by rw [h1,h2],fun j hj=>by omega⟩
 ·exact ⟨_,cap,hv,fun j hj=>⟨g,rfl,hc j _ (by simp [hj])⟩⟩
def FD (part:Int):Prop:=(part=32∧¬ShAll)∨(part=16∧¬MvAll)
theorem weightF_there {B:List BK} {id:ByteArray} (h:atName id B<B.length):weightF B id=B[atName id B].2:=by rw [weightF,List.getElem?_eq_getElem h]
theorem weightF_none {B:List BK} {id:ByteArray} (h:¬atName id B<B.length):weightF B id= -1:=by rw [weightF,List.getElem?_eq_none (by omega)]
theorem KInv.pq {W0:World} {p s:Nat} {k:KI} {w:World} (h:KInv W0 p s k w):p≠k.q:=fun e=>by
 have a1:=h.le p;have a2:1≤(k.svp.own k.q).count p:=cnt_mem.1 (by rw [e];simp [Svp.own]);have a3:1≤[p].count p:=cnt_mem.1 (by simp);omega
def DSw (k:KI) (id:ByteArray) (w:World) (v12 v13:Value) (wc:World):Prop:=v12= .int .i64 0∧∃now:Int,v13= .int .i64 now∧But [k.q] w wc∧Good (lawPool id now (decide (now<0)) k.B)∧SvpAt k.M k.q ⟨k.on,lawPool id now (decide (now<0)) k.B,k.g+1,k.L,k.pp⟩ wc∧ -1≤now∧now≤6∧(0≤weightF k.B id∨0≤now)
theorem mkF_len (c:Cfg) (B:List BK) (hc:c.OK) (hB:PoolOK B):(mkF c B).length≤65536:=by
 have hall:=fun b hb=>(hB.2 b hb).2.2
 have hs2:c.slots≤211:=hc.2.2.2.1
 have hl:∀n (L:List EI),(sortTo L n).length≤n:=by
  intro n L
  induction n with
  |zero=>simp [sortTo]
  |succ n ih=>
   rw [sortTo];split
   ·rw [insE_len];omega
   ·omega
 have h8:=hB.1;rw [mkF];split
 ·simp
 split
 ·rw [List.length_map,maglevF,fillTo_len,List.length_replicate];omega
 split
 ·have h1:=ptsTo_len c.key 114 c.points B hc.2.2.2.2.2.2.1 hall B.length;have h2:=hl (ptsTo c.key 114 c.points B B.length).length (ptsTo c.key 114 c.points B B.length);rw [pointsF];omega
 split
 ·simp;omega
 split
 ·have h1:=ptsTo_len c.key 109 1 B (by omega) hall B.length;have h2:=hl (ptsTo c.key 109 1 B B.length).length (ptsTo c.key 109 1 B B.length);rw [pointsF];omega
 ·simp
theorem Tryz.infoSS:(Tryz.prog.info? 40).map (fun i=>(i.zero,i.size,i.bytes))=some (some (.slice none 0 0),1,24):=by kernel_rfl
theorem delta_is (W0:World) (p s:Nat) (k:KI) (kind n:Int) (id:ByteArray) (w:World) (h:KInv W0 p s k w) (hR:k.Rdy s) (hs:s≤65600) (hkind:I64 kind) (hn:I64 n) (hid:id.size≤maxLen):
  Calls Tryz.prog 72 #[.pointer (some ⟨p,0,none⟩),.int .i64 kind,.string id,.int .i64 n] w (RStep W0 p (s+1) FD):=by
 have HI:=Hid.mk h;have HR:=Hid.mk (hR.up (Nat.le_succ s));unfold maxLen at hid;clear h hR;go_enter Tryz.func72,Tryz.ntmps72;go_upto_if 18 with fail
 generalize hie:id.toList.isEmpty=ie;go_cut [2] (fun v wc=>w=wc∧∃id1:ByteArray,v= .string id1∧1≤id1.size∧id1.size≤9223372036854775807)
 case first=>
  cases ie
  ·have hsz : 1 ≤ id.size := Nat.pos_of_ne_zero (fun h0 => by
     rw [ByteArray.toList_eq] at hie
     have hl : id.data.toList.length = 0 := by simpa using h0
     rw [List.eq_nil_of_length_eq_zero hl] at hie
     cases hie)
   clear hie
   go_wp2_with fail
   go_meet
   case rel=>exact ⟨rfl,id,rfl,hsz,by omega⟩
  ·clear hie;go_wp2_with fail;go_meet
   case rel=>exact ⟨rfl,_,rfl,by decide,by decide⟩
 case rest=>
  obtain ⟨rfl,id1,rfl,hi1,hi2⟩:=hcut;clear hie;go_upto_if 21 with fail
  go_cut [2] (fun v wc=>w=wc∧∃id1:ByteArray,v= .string id1∧1≤id1.size∧id1.size≤8)
  case first=>
   by_cases h8:8<id1.size
   ·go_wp2_with fail;go_meet
    case rel=>refine ⟨rfl,_,rfl,?_,?_⟩<;>simp <;>omega
   ·go_wp2_with fail;go_meet
    case rel=>exact ⟨rfl,_,rfl,hi1,by omega⟩
  case rest=>
   obtain ⟨rfl,id2,rfl,hj1,hj2⟩:=hcut;clear hi1 hi2 id1 hid id ie;have hW:=HI.out.at_;have hM:=HI.out.lt;have hS:=HI.out.svc;have hP:=HI.out.pool;have hG:=HI.out.good;have honOK:=HI.out.onok;have hEl:=mkF_len k.on k.B honOK hG.1;have c7:=hW.1 7 _ rfl;have c14:=hW.1 14 _ rfl;have hpk:=fun wx=>pick_is n 7 wx hn (by omega) (by omega)
   obtain ⟨hp1,hp2⟩:=pickF_range n 7 (by omega);generalize pickF n 7=n7 at *;have hown:=owners_is k.M k.q k.on k.B k.g w hS hEl honOK;have hgn:=fun wx (b:Bel w wx)=>gen_v k.M k.q k.on k.B k.g wx (hS.later b)
   have hwt:=fun wx (b:Bel w wx)=>weight_is k.B k.vb id2 wx (hP.unmask.later b) (by have:=hG.1.1;omega)
   have hpk3:=fun wx=>pick_is kind 3 wx hkind (by omega) (by omega)
   obtain ⟨hr1,hr2⟩:=pickF_range kind 3 (by omega);generalize pickF kind 3=k3 at *;have HO4:Hid (ownersF k.on k.B k.g=(List.range 12).map fun j=>(localF k.on k.B k.g (keyF j)).1):=rfl;generalize ownersF k.on k.B k.g=OB at *;obtain ⟨aob,capb,hkvb⟩:∃a c,k.vb= .slice a k.B.length c:=by obtain ⟨a,c,h, -⟩:=hP.unmask.open;exact ⟨a,c,h⟩
   have HMw:=Hid.mk (fun j hj=>(hM j hj).2);clear hW hM hS hP hEl honOK;generalize hwas:weightF k.B id2=was at *;have HWas:=Hid.mk hwas;clear hwas;have hG':=Hid.mk hG;clear hG;generalize hkg:k.g=kg at *;generalize hkq:k.q=kq at *;rw [hkvb] at c14 hwt;have HKG:=Hid.mk hkg;have HKQ:=Hid.mk hkq;have HKV:=Hid.mk hkvb;clear hkg hkq hkvb;go_wp2_with fail;refine (hpk _).mono ?_;rintro e w' ⟨rfl,rfl⟩;go_wp2_with fail;refine hown.mono ?_;rintro e w1 ⟨v9,rfl,hb1,hO9⟩;have d7:=hb1.cell c7;have d14:=hb1.cell c14;clear hown hpk;go_wp2_with fail;refine (hgn _ hb1).mono ?_;rintro e w' ⟨rfl,rfl⟩;go_wp2_with fail;refine (hwt _ hb1).mono ?_;rintro e w2 ⟨rfl,hb2⟩;clear hwt hgn;go_upto_region 10 with fail
   go_cut [13] (fun v wc=>w2=wc∧v= .int .i64 n7)
   case first=>
    go_wp2_with fail;go_meet
    case rel=>exact ⟨rfl,rfl⟩
   case rest=>
    obtain ⟨rfl,rfl⟩:=hcut;go_step;go_step;go_cut [12,13] (DSw k id2 w2)
    case first=>as_aux_lemma=>
     have hIw:=HI.out.later (hb1.trans hb2);have hM2:=hIw.lt;have hS2:=hIw.svc;have honOK:=hIw.onok;have hg2:=hIw.gen;have hG:=hG'.out;have hwr:Hid (∀b∈k.B,0≤b.2):=fun b hb=>(hG.1.2 b hb).2.2.1
     have f7:=hb2.cell d7;go_wp2_with fail;refine (hpk3 _).mono ?_;rintro e w' ⟨rfl,rfl⟩;rcases (show k3=0∨k3=1∨k3=2 by omega) with rfl|rfl|rfl
     ·have had:=add_v k.M k.q k.on k.B k.g id2 n7 w2 hS2 (fun j hj=>(hM2 j hj).2) honOK hG (by omega) (by omega);by_cases ht:atName id2 k.B<k.B.length
      ·have he:addE k.B id2 n7=3:=by unfold addE;rw [if_neg (by omega),if_neg (by omega),if_pos ht]
       have hw0:0≤was:=by rw [←HWas.out,weightF_there ht];exact hwr.out _ (List.getElem_mem ht)
       have hin:addB k.B id2 n7=k.B:=by unfold addB;rw [he];rfl
       rw [he,hin] at had;simp only [show ((3:Int)=0)=False from by simp,if_false] at had;have f14:=(hb1.trans hb2).cell c14;have hpq:p≠k.q:=hIw.pq;rw [HKQ.out] at had hpq;clear hM2 hS2 honOK hg2 hpk3;go_wp2_with fail;refine had.mono ?_;rintro e w3 ⟨rfl,hbt,hS3⟩;have g7:=hbt.cell f7 (by simpa using hpq);have g14:=hbt.cell f14 (by simpa using hpq);have hgn:=gen_v _ _ _ _ _ w3 hS3;rw [HKG.out] at hgn;have hfin:=Hid.mk (hIw.svcSame (w':=w3) (by rw [HKQ.out];exact hbt) (by rw [HKQ.out];exact hS3));clear had hbt hS3;go_wp2_with fail;refine hgn.mono ?_;rintro e w4 ⟨rfl,rfl⟩;go_wp2;go_ret;exact Or.inl ⟨rfl,k,hfin.out,HR.out⟩
      ·by_cases hl:8≤k.B.length
       ·have he:addE k.B id2 n7=6:=by unfold addE;rw [if_neg (by omega),if_neg (by omega),if_neg ht,if_pos hl]
        have hw0:was<0:=by rw [←HWas.out,weightF_none ht];decide
        have hl8:((k.B.length:Int)==8)=true:=by rw [beq_iff_eq];have:=hG.1.1;omega
        have hin:addB k.B id2 n7=k.B:=by unfold addB;rw [he];rfl
        rw [he,hin] at had;simp only [show ((6:Int)=0)=False from by simp,if_false] at had;have f14:=(hb1.trans hb2).cell c14;have hpq:p≠k.q:=hIw.pq;rw [HKQ.out] at had hpq;clear hM2 hS2 honOK hg2 hpk3;go_wp2_with fail;refine had.mono ?_;rintro e w3 ⟨rfl,hbt,hS3⟩;have g7:=hbt.cell f7 (by simpa using hpq);have g14:=hbt.cell f14 (by simpa using hpq);have hgn:=gen_v _ _ _ _ _ w3 hS3;rw [HKG.out] at hgn;have hfin:=Hid.mk (hIw.svcSame (w':=w3) (by rw [HKQ.out];exact hbt) (by rw [HKQ.out];exact hS3));clear had hbt hS3;go_wp2_with fail;refine hgn.mono ?_;rintro e w4 ⟨rfl,rfl⟩;go_wp2;go_ret;exact Or.inl ⟨rfl,k,hfin.out,HR.out⟩
       ·have he:addE k.B id2 n7=0:=by unfold addE;rw [if_neg (by omega),if_neg (by omega),if_neg ht,if_neg hl]
        have hw0:was<0:=by rw [←HWas.out,weightF_none ht];decide
        have hl8:((k.B.length:Int)==8)=false:=by rw [beq_eq_false_iff_ne];omega
        have hin:addB k.B id2 n7=lawPool id2 (n7) (decide ((n7)<0)) k.B:=by rw [show decide (n7<0)=false from decide_eq_false (by omega)];unfold addB;rw [if_pos he];exact (lawPool_ins (not_there ht)).symm
        have hgd:Good (addB k.B id2 n7):=hG.add id2 n7;rw [hin] at hgd;rw [he,hin] at had;simp only [if_true] at had;have f14:=(hb1.trans hb2).cell c14;rw [HKQ.out] at had;clear hM2 hS2 honOK hpk3;have HGD:=Hid.mk hgd;clear hgd hin;generalize hlp:lawPool id2 (n7) (decide ((n7)<0)) k.B=LP at had;have HLP:=Hid.mk hlp;clear hlp;go_wp2_with fail;refine had.mono ?_;rintro e w3 ⟨rfl,hbt,hS3⟩;have hpq:p≠k.q:=hIw.pq;rw [HKQ.out] at hpq;have g7:=hbt.cell f7 (by simpa using hpq);have g14:=hbt.cell f14 (by simpa using hpq);clear had;go_wp2_with fail;go_meet
        case rel=>exact ⟨rfl,_,rfl,by rw [HKQ.out];exact hbt,HGD.out,by rw [HLP.out,HKQ.out];exact hS3,by omega,by omega,Or.inr (by omega)⟩
     ·have had:=remove_v k.M k.q k.on k.B k.g id2 w2 hS2 (fun j hj=>(hM2 j hj).2) honOK hG (by omega) (by omega);by_cases ht:atName id2 k.B<k.B.length
      ·have he:remE k.B id2=0:=by unfold remE;rw [if_pos ht]
       have hw0:0≤was:=by rw [←HWas.out,weightF_there ht];exact hwr.out _ (List.getElem_mem ht)
       have hin:remB k.B id2=lawPool id2 (-1) (decide ((-1)<0)) k.B:=by rw [show decide ((-1:Int)<0)=true from rfl];unfold remB;rw [if_pos he];exact (lawPool_erase hG.2 ht (atName_is ht)).symm
       have hgd:Good (remB k.B id2):=hG.rem id2;rw [hin] at hgd;rw [he,hin] at had;simp only [if_true] at had;have f14:=(hb1.trans hb2).cell c14;rw [HKQ.out] at had;clear hM2 hS2 honOK hpk3;have HGD:=Hid.mk hgd;clear hgd hin;generalize hlp:lawPool id2 (-1) (decide ((-1)<0)) k.B=LP at had;have HLP:=Hid.mk hlp;clear hlp;go_wp2_with fail;refine had.mono ?_;rintro e w3 ⟨rfl,hbt,hS3⟩;have hpq:p≠k.q:=hIw.pq;rw [HKQ.out] at hpq;have g7:=hbt.cell f7 (by simpa using hpq);have g14:=hbt.cell f14 (by simpa using hpq);clear had;go_wp2_with fail;go_meet
       case rel=>exact ⟨rfl,_,rfl,by rw [HKQ.out];exact hbt,HGD.out,by rw [HLP.out,HKQ.out];exact hS3,by omega,by omega,Or.inl (by rw [HWas.out];omega)⟩
      ·have he:remE k.B id2=4:=by unfold remE;rw [if_neg ht]
       have hw0:was<0:=by rw [←HWas.out,weightF_none ht];decide
       have hin:remB k.B id2=k.B:=by unfold remB;rw [he];rfl
       rw [he,hin] at had;simp only [show ((4:Int)=0)=False from by simp,if_false] at had;have f14:=(hb1.trans hb2).cell c14;have hpq:p≠k.q:=hIw.pq;rw [HKQ.out] at had hpq;clear hM2 hS2 honOK hg2 hpk3;go_wp2_with fail;refine had.mono ?_;rintro e w3 ⟨rfl,hbt,hS3⟩;have g7:=hbt.cell f7 (by simpa using hpq);have g14:=hbt.cell f14 (by simpa using hpq);have hgn:=gen_v _ _ _ _ _ w3 hS3;rw [HKG.out] at hgn;have hfin:=Hid.mk (hIw.svcSame (w':=w3) (by rw [HKQ.out];exact hbt) (by rw [HKQ.out];exact hS3));clear had hbt hS3;go_wp2_with fail;refine hgn.mono ?_;rintro e w4 ⟨rfl,rfl⟩;go_wp2;go_ret;exact Or.inl ⟨rfl,k,hfin.out,HR.out⟩
     ·have had:=set_v k.M k.q k.on k.B k.g id2 n7 w2 hS2 (fun j hj=>(hM2 j hj).2) honOK hG (by omega) (by omega);by_cases ht:atName id2 k.B<k.B.length
      ·have he:setE k.B id2 n7=0:=by unfold setE;rw [if_neg (by omega),if_pos ht]
       have hw0:0≤was:=by rw [←HWas.out,weightF_there ht];exact hwr.out _ (List.getElem_mem ht)
       have hin:setB k.B id2 n7=lawPool id2 (n7) (decide ((n7)<0)) k.B:=by rw [show decide (n7<0)=false from decide_eq_false (by omega)];unfold setB;rw [if_pos he];exact (lawPool_set hG.2 ht (atName_is ht)).symm
       have hgd:Good (setB k.B id2 n7):=hG.set id2 n7;rw [hin] at hgd;rw [he,hin] at had;simp only [if_true] at had;have f14:=(hb1.trans hb2).cell c14;rw [HKQ.out] at had;clear hM2 hS2 honOK hpk3;have HGD:=Hid.mk hgd;clear hgd hin;generalize hlp:lawPool id2 (n7) (decide ((n7)<0)) k.B=LP at had;have HLP:=Hid.mk hlp;clear hlp;go_wp2_with fail;refine had.mono ?_;rintro e w3 ⟨rfl,hbt,hS3⟩;have hpq:p≠k.q:=hIw.pq;rw [HKQ.out] at hpq;have g7:=hbt.cell f7 (by simpa using hpq);have g14:=hbt.cell f14 (by simpa using hpq);clear had;go_wp2_with fail;go_meet
       case rel=>exact ⟨rfl,_,rfl,by rw [HKQ.out];exact hbt,HGD.out,by rw [HLP.out,HKQ.out];exact hS3,by omega,by omega,Or.inr (by omega)⟩
      ·have he:setE k.B id2 n7=4:=by unfold setE;rw [if_neg (by omega),if_neg ht]
       have hw0:was<0:=by rw [←HWas.out,weightF_none ht];decide
       have hin:setB k.B id2 n7=k.B:=by unfold setB;rw [he];rfl
       rw [he,hin] at had;simp only [show ((4:Int)=0)=False from by simp,if_false] at had;have f14:=(hb1.trans hb2).cell c14;have hpq:p≠k.q:=hIw.pq;rw [HKQ.out] at had hpq;clear hM2 hS2 honOK hg2 hpk3;go_wp2_with fail;refine had.mono ?_;rintro e w3 ⟨rfl,hbt,hS3⟩;have g7:=hbt.cell f7 (by simpa using hpq);have g14:=hbt.cell f14 (by simpa using hpq);have hgn:=gen_v _ _ _ _ _ w3 hS3;rw [HKG.out] at hgn;have hfin:=Hid.mk (hIw.svcSame (w':=w3) (by rw [HKQ.out];exact hbt) (by rw [HKQ.out];exact hS3));clear had hbt hS3;go_wp2_with fail;refine hgn.mono ?_;rintro e w4 ⟨rfl,rfl⟩;go_wp2;go_ret;exact Or.inl ⟨rfl,k,hfin.out,HR.out⟩
    case rest=>as_aux_lemma=>
     obtain ⟨rfl,now,rfl,hbt,hGd,hS3,hn1,hn2,hor⟩:=hcut;obtain ⟨LP,hLP⟩:∃LP,LP=lawPool id2 now (decide (now<0)) k.B:=⟨_,rfl⟩;rw [←hLP] at hGd hS3;have hIw:=HI.out.later (hb1.trans hb2);have hK3:=hIw.keep [k.q] hbt (fun j hj=>by rw [List.mem_singleton.1 hj];exact hIw.q_in);have hpq:=hIw.pq;have hW3:=hK3.at_ (by simpa using hpq);have hM3:=hK3.lt;have hbel3:=hK3.bel;have hP3:=hK3.pool
     have hwent3 := hK3.went (fun j hj e => by
       have a1 := hIw.le j
       have a2 := cnt_mem.1 hj
       have a3 : 1 ≤ (k.svp.own k.q).count j := cnt_mem.1 (by rw [List.mem_singleton.1 e]; simp [Svp.own])
       omega)
     have hpM:=hIw.inM _ hIw.p_in;have hqM:=hIw.inM _ hIw.q_in;have hcOK:=hIw.cok;have honOK:=hIw.onok;have hgr:=hIw.gen
     have hgw:∀g,k.vw.ownBlock=some g→g∈k.M∧g≠p:=fun g hg=>by
      have e:g∈gl k.vw:=by have:gl k.vw=k.vw.ownBlock.toList:=rfl;rw [this,hg];simp
      exact ⟨hIw.inM g (cnt_mem.2 (by rw [KI.count];have:=cnt_mem.1 e;omega)),hIw.apart.1 g e⟩
     have hvl:=hIw.wlen;have HIw:=Hid.mk hIw;have HBT:=Hid.mk hbt;have hgr1:=hgr.1;have hgr2:=hgr.2.1;have e7:=hW3.1 7 _ rfl;have e8:=hW3.1 8 _ rfl;have e14:=hW3.1 14 _ rfl;have e15:=hW3.1 15 _ rfl;have g14:=hW3.2 14 (by rw [wl_len];decide);have g15:=hW3.2 15 (by rw [wl_len];decide);have hgn:=gen_v k.M k.q k.on LP (k.g+1) wc hS3;have hpo:=pool_is k.B k.vb id2 now wc hP3.unmask hG'.out.1.1;rw [←hLP] at hpo;rw [HKQ.out] at e7;rw [HKQ.out,HKG.out] at hgn;rw [HKV.out] at e14 hpo;have hkg0:0≤kg:=by rw [←HKG.out];exact hgr1
     have hkg1:kg≤65600:=by rw [←HKG.out];omega
     clear hpk3;have H:=Hid.mk (And.intro hW3 (And.intro hM3 (And.intro hbel3 hwent3)));have HS3:=Hid.mk hS3;have HGd:=Hid.mk hGd;have HOK:=Hid.mk (And.intro hcOK honOK);have HPQ:=Hid.mk (And.intro hpM (And.intro hqM hpq));clear hW3 hM3 hbel3 hwent3 hP3 hS3 hGd hcOK honOK hpM hqM hpq hIw HI hK3;have HLP:=Hid.mk hLP;have HGR:=Hid.mk hgr;clear hLP hgr;go_wp2_with fail;refine hgn.mono ?_;rintro e w' ⟨rfl,rfl⟩;go_wp2_with fail;refine hpo.mono ?_;rintro e w4 ⟨v4,rfl,hb4,hO4⟩;obtain ⟨a4,cap4,rfl⟩:=own_slice hO4;have e8b:=hb4.cell e8;have e7b:=hb4.cell e7;have e14b:=hb4.cell e14;have e15b:=hb4.cell e15;have g14b:=hb4.frozen e14 g14;have g15b:=hb4.frozen e15 g15;have hS5:SvpAt k.M k.q ⟨k.on,LP,k.g+1,k.L,k.pp⟩ (w4.setCell ⟨p,14,none⟩ (.slice a4 LP.length cap4)):=(HS3.out.later hb4).but (M':=[p]) ((But.refl _ _).set (by simp) _) (fun j hj e=>HIw.out.apart.2.2.2.2 j e (List.mem_singleton.1 hj)) (fun j hj=>Or.inl (by simp at hj;subst hj;exact HPQ.out.1));have how:=owners_is k.M k.q k.on LP (k.g+1) _ hS5 (mkF_len k.on LP HOK.out.2 HGd.out.1) HOK.out.2;have HOA:Hid (ownersF k.on LP (k.g+1)=(List.range 12).map fun j=>(localF k.on LP (k.g+1) (keyF j)).1):=rfl;generalize ownersF k.on LP (k.g+1)=OA at *;rw [HKQ.out] at how;clear hpo hgn hS5;go_wp2_with fail;refine how.mono ?_;rintro e w6 ⟨v14,rfl,hb6,hO14⟩;obtain ⟨a14,cap14,rfl⟩:=own_slice hO14;have e8c:w6.cell? ⟨p,8,none⟩=some (.int .i64 k.on.alg):=hb6.cell (by rw [set_other (by simp)];exact e8b);have e7c:w6.cell? ⟨p,7,none⟩=some (.pointer (some ⟨kq,0,none⟩)):=hb6.cell (by rw [set_other (by simp)];exact e7b);have e15d:(w4.setCell ⟨p,14,none⟩ (.slice a4 LP.length cap4)).cell? ⟨p,15,none⟩=some k.vw:=by rw [set_other (by simp)];exact e15b
     have e15c:=hb6.cell e15d;have g15c:=hb6.frozen e15d (by rw [frozen_set];exact g15b);have hrow:=H.out.2.2.2;obtain ⟨nw,hnwe⟩:∃nw,nw=k.vr.length+1:=⟨_,rfl⟩;obtain ⟨xw,hxw⟩:∃xw,xw=Value.slice none 0 0::k.vr:=⟨_,rfl⟩;rw [←hnwe,←hxw] at hrow;have hnw:nw≤65601:=by omega
     have hrow6:Hid (w6.ownsRow W0.heap.size 40 1 k.vw nw xw):=own_later (ownB_but (own_later hrow hb4) (M:=[p]) ((But.refl _ _).set (by simp) _) (fun g hg=>by simpa using (hgw g (by simpa [gl] using hg)).2)) hb6
     have hb06:Hid (Bel W0 w6):=by
      have:=H.out.2.2.1;exact (Bel.step_set (this.trans hb4) (H.out.2.1 p HPQ.out.1).1 _).trans hb6
     have hw06:=hb06.out.size;have HGW:=Hid.mk hgw;obtain ⟨iS,hiS,hzS0,hzS1,hzS2⟩:=info_parts Tryz.infoSS;clear hrow hgw how e7b e8b e14b e15b g14b g15b e7 e8 e14 e15 g14 g15;go_wp2_with (first|(at_builtin;refine wpList_append_lies _ rfl _ _ 44 rfl W0.heap.size 40 iS (.slice none 0 0) 1 24 Tryz.underlying44 hiS hzS0 hzS1 hzS2 rfl (by decide) _ nw xw rfl ?p1 ⟨w6.heap.size,0,none⟩ 1 1 [.slice a14 OA.length cap14] rfl rfl ?d1 ?d2 (by decide) ?d3 ?d4 ?d5 _ rfl ?_))
     case p1=>exact World.ownsRow.alloc hrow6.out _
     try (case d1=>exact one_new _ _ _ _ (by simp))
     case d2=>first|rfl|(intro u hu;simp at hu;subst hu;rfl)
     case d3=>unfold maxLen;omega
     case d4=>omega
     case d5=>first|omega|(simp;omega)
     intro g7 cap7 w7 hown7 hgrow7 hat7 hlt7;subst hnwe;have hp7:k.vw.ownBlock≠some p:=fun e=>(HGW.out p e).2 rfl
     have e8e:w7.cell? ⟨p,8,none⟩=some (.int .i64 k.on.alg):=cell_grown hgrow7 ((Bel.step_alloc (Bel.refl w6) _).cell e8c) hp7;have e15e:=cell_grown hgrow7 ((Bel.step_alloc (Bel.refl w6) _).cell e15c) hp7;have g15e:=frozen_grown hgrow7 ((Bel.step_alloc (Bel.refl w6) _).cell e15c) ((Bel.step_alloc (Bel.refl w6) _).frozen e15c g15c) hp7;have hT12:OA.length=12:=by rw [HOA.out];simp
     have hK8:=Hid.mk (delta_inv HIw.out HBT.out HS3.out HGd.out hb4 hO4 hb6 (by simpa only [size_setCell] using hO14) hT12 (by rw [HOA.out];rfl) (by first|exact hown7|(rw [←hxw];exact hown7)|(subst hxw;exact hown7)) hgrow7 (hat7.imp id (fun e=>by rw [e];simp)) hlt7);have hv9:RowAt (mask k.M w1) v9 OB.length (OB.map Value.string):=mask_row hO9 (fun j hj=>HMw.out j hj)
     have b18:But k.M w1 (w7.setCell ⟨p,15,none⟩ (.slice (some ⟨g7,0,none⟩) (k.vr.length+1+1) cap7)):=by
      have a1:But k.M w1 wc:=(But.of_bel hb2).trans (hbt.mono (fun j hj=>Or.inl (by simp at hj;subst hj;exact HPQ.out.2.1)));have a2:But k.M wc (w6.alloc (.cells #[.slice a14 OA.length cap14] 40)):=((But.of_bel hb4).set HPQ.out.1 _).step (hb6.step_alloc _);have a3:But k.M (w6.alloc (.cells #[.slice a14 OA.length cap14] 40)) w7:=(grown_but hgrow7).mono (fun j hj=>Or.inl (HGW.out j (by simpa using hj)).1);exact (a1.trans (a2.trans a3)).set HPQ.out.1 _
     have b68:But k.M w6 (w7.setCell ⟨p,15,none⟩ (.slice (some ⟨g7,0,none⟩) (k.vr.length+1+1) cap7)):=by
      have a3:But k.M (w6.alloc (.cells #[.slice a14 OA.length cap14] 40)) w7:=(grown_but hgrow7).mono (fun j hj=>Or.inl (HGW.out j (by simpa using hj)).1);exact ((But.of_bel (Bel.step_alloc (Bel.refl w6) _)).trans a3).set HPQ.out.1 _
     have hv9b:=RowAt.unmask (hv9.later b18);have hv14:RowAt (mask k.M w6) (.slice a14 OA.length cap14) OA.length (OA.map Value.string):=mask_row hO14 (fun j hj=>by have:=(H.out.2.1 j hj).2;have:=hb4.size;simp only [size_setCell];omega);have hv14b:=RowAt.unmask (hv14.later b68);have H9:=Hid.mk hv9b;have H14:=Hid.mk hv14b;clear hv9 hv9b hv14 hv14b b18 b68 hown7 hgrow7 hat7 hlt7 H HS3 hb4 hO4 hb6 hO14 hrow6 hb06 HGW hO9 hbt HIw HBT;obtain ⟨w8,hw8⟩:∃w8,w8=w7.setCell ⟨p,15,none⟩ (.slice (some ⟨g7,0,none⟩) (k.vr.length+1+1) cap7):=⟨_,rfl⟩;have e8f:w8.cell? ⟨p,8,none⟩=some (.int .i64 k.on.alg):=by rw [hw8,set_other (by simp)];exact e8e
     rw [←hw8] at hK8 H9 H14;obtain ⟨k8,hk8⟩:∃k8:KI,k8={k with M:=g7::k.M,B:=LP,g:=k.g+1,vb:= .slice a4 LP.length cap4,vw:= .slice (some ⟨g7,0,none⟩) (k.vr.length+1+1) cap7,vr:=k.vr++[.slice a14 OA.length cap14],bs:=k.bs++[LP]}:=⟨_,rfl⟩;rw [←hk8] at hK8
     have HR8:Hid (k8.Rdy (s+1)):=by
      have hq:=hK8.out.gen.2.1;rw [hk8] at hq ⊢;exact ⟨HR.out.1,HR.out.2.1,HR.out.2.2.1,HR.out.2.2.2.1,HR.out.2.2.2.2.1.grow _,TruP.grow HR.out.2.2.2.2.2 HGd.out (by have:k.g+1≤((s+1:Nat):Int):=hq;omega)⟩
     have hS8:Hid (SvpAt (g7::k.M) k.q ⟨k.on,LP,k.g+1,k.L,k.pp⟩ w8):=by have:=hK8.out.svc;rw [hk8] at this;exact this
     have hP8:Hid (PoolAt w8 (.slice a4 LP.length cap4) LP):=by have:=hK8.out.pool.unmask;rw [hk8] at this;exact this
     have hWw:Hid (WAt p (wl k.part k.c k.q k.on (.slice a4 LP.length cap4) (.slice (some ⟨g7,0,none⟩) (k.vr.length+1+1) cap7) k.vs k.vh k.vf k.img) w8):=by have:=hK8.out.at_;rw [hk8] at this;exact this
     have hB0:Hid (Bel W0 w8):=hK8.out.bel;have hp0:Hid (W0.heap.size≤p):=(hK8.out.lt p (hK8.out.inM p hK8.out.p_in)).1;have hsl:3≤k.on.slots∧k.on.slots≤211:=⟨HOK.out.2.2.2.1,HOK.out.2.2.2.2.1⟩;clear hk8 e15c g15c e8c;by_cases halg:k.on.alg=1
     ·have halg1:(k.on.alg==1)=true:=by rw [beq_iff_eq];exact halg
      have hsh:=shared_is p _ (g7::k.M) k.q k.on LP (k.g+1) _ k.on.slots.toNat w8 hWw.out rfl (by rw [Int.toNat_of_nonneg (by omega)];rfl) rfl hS8.out hP8.out HGd.out.1 (mkF_len k.on LP HOK.out.2 HGd.out.1) (by omega);have HNS:Hid (¬SharedOK LP k.on.slots.toNat (namesF LP (mkF k.on LP))→¬ShAll):=fun h h2=>h (h2 k.on LP HOK.out.2 HGd.out halg)
      generalize SharedOK LP k.on.slots.toNat (namesF LP (mkF k.on LP))=SP at *;generalize k.on.alg=oa at *;clear halg hsl;rw [hw8] at hsh;go_wp2_with fail;refine hsh.mono ?_;rintro e w9 ⟨x,rfl,hb9,hx⟩;rw [←hw8] at hb9;have hW9:=hWw.out.later hb9;cases x
      ·have hnsh:=Hid.mk (HNS.out (fun h=>by cases hx.2 h));have hfa:=fails_is p _ 32 w9 hW9 (by rw [wl_len];decide);have HW9:=Hid.mk hW9;clear hx hW9 hsh;go_wp2_with fail;refine hfa.mono ?_;rintro e w10 ⟨rfl,rfl⟩;go_wp2;go_ret;exact Or.inr ⟨rfl,(hB0.out.trans hb9).step_set hp0.out _,32,Or.inl ⟨rfl,hnsh.out⟩,set_same (HW9.out.1 0 _ rfl)⟩
      ·clear hx hW9 hsh;go_wp2;go_ret;exact Or.inl ⟨rfl,k8,hK8.out.later hb9,HR8.out⟩
     ·have halg1:(k.on.alg==1)=false:=by rw [beq_eq_false_iff_ne];exact halg
      have hOBl:OB.length=12:=by rw [HO4.out];simp
      have hOAl:OA.length=12:=by rw [HOA.out];simp
      obtain ⟨a9,cap9,hva9,h9c⟩:=texts_open H9.out;obtain ⟨a14',cap14',hva14,h14c⟩:=texts_open H14.out;rw [hOBl] at hva9;subst hva9;simp only [Value.slice.injEq] at hva14;obtain ⟨rfl, -,rfl⟩:=hva14
      have HMV:Hid (MvAll→∀j (h1:j<OB.length) (h2:j<OA.length),MvOne id2 was now OB[j] OA[j]):=by
       intro hmv j h1 h2;have h12:j<12:=by omega
       have h:=hmv k.on k.B k.g id2 was now HOK.out.2 hG'.out (by rw [←HLP.out];exact HGd.out) halg HWas.out.symm (by rw [HWas.out] at hor;exact hor) hn1 hn2 HGR.out.2.2 HGR.out.1 j h12;rw [←HLP.out] at h;have e1:OB[j]=(localF k.on k.B k.g (keyF j)).1:=by simp [HO4.out,HKG.out]
       have e2:OA[j]=(localF k.on LP (k.g+1) (keyF j)).1:=by simp [HOA.out]
       rw [e1,e2];exact h
      generalize k.on.alg=oa at *;clear halg hsl H9 H14;rw [hOAl];go_wp2;rw [←hw8];clear hw8 e8e e15e g15e e8f;go_loopg [16] 12 (fun r ni wr=>Bel w8 wr∧∃j:Nat,r=12 - j∧j≤12∧ni= .int .i64 j)
      case atStart=>exact ⟨Bel.refl _,0,by omega,by omega,rfl⟩
      case round=>
       obtain ⟨hbj,j,hrj,hj,rfl⟩:=hrel;by_cases hjl:j<12
       ·obtain ⟨g9,rfl,x9⟩:=h9c j (by omega);obtain ⟨g14,rfl,x14⟩:=h14c j (by omega);have x9':=hbj.cell x9;have x14':=hbj.cell x14;have HMJ:Hid (MvAll→MvOne id2 was now (OB[j]'(by omega)) (OA[j]'(by omega))):=fun h=>HMV.out h j (by omega) (by omega)
        clear x9 x14 h9c h14c HMV;generalize OB[j]'(by omega)=bj at *;generalize OA[j]'(by omega)=aj at *;cases heq:bj.toList==aj.toList
        ·have hne:¬(bj.toList==aj.toList)=true:=by rw [heq];decide
         have HEA:Hid (((aj.toList==id2.toList)=true)↔aj=id2):=str_eq;have HEB:Hid (((bj.toList==id2.toList)=true)↔bj=id2):=str_eq;go_wp2_with fail;go_quiet (fail);by_cases h1:was<now
         ·have hd1:decide (now>was)=true:=decide_eq_true h1;have hd2:decide (now<was)=false:=decide_eq_false (by omega);have hd3:(now==was)=false:=by rw [beq_eq_false_iff_ne];omega
          cases hea:aj.toList==id2.toList
          ·have hea2:aj≠id2:=fun e=>by rw [HEA.out.2 e] at hea;cases hea
           have HBD:Hid (¬MvOne id2 was now bj aj):=fun h=>h.elim (fun e=>hne (str_eq.2 e)) (fun h=>h (Or.inl ⟨h1,hea2⟩))
           have hfa:=fails_is p _ 16 _ (hWw.out.later (hbj.step_drewN nq)) (by rw [wl_len];decide);have hWj:=Hid.mk (hWw.out.later (hbj.step_drewN nq));go_wp2_with fail;refine hfa.mono ?_;rintro e w10 ⟨rfl,rfl⟩;go_wp2;go_ret;exact Or.inr ⟨rfl,((hB0.out.trans hbj).step_drewN nq).step_set hp0.out _,16,Or.inr ⟨rfl,fun h=>HBD.out (HMJ.out h)⟩,set_same (hWj.out.1 0 _ rfl)⟩
          ·go_wp2;go_roundg (12 - (j+1))
           case measure=>omega
           case rel=>exact ⟨by (repeat (first|exact Bel.refl _|assumption|refine Bel.step_alloc ?_ _|refine Bel.step_drew ?_|refine Bel.step_drewN ?_ _|refine Bel.step_set ?_ (by simp <;>omega) _|refine Bel.trans ?_ (by assumption))),j+1,rfl,by omega,by go_num⟩
         ·have hd1:decide (now>was)=false:=decide_eq_false h1;by_cases h2:now<was
          ·have hd2:decide (now<was)=true:=decide_eq_true h2;have hd3:(now==was)=false:=by rw [beq_eq_false_iff_ne];omega
           cases heb:bj.toList==id2.toList
           ·have heb2:bj≠id2:=fun e=>by rw [HEB.out.2 e] at heb;cases heb
            have HBD:Hid (¬MvOne id2 was now bj aj):=fun h=>h.elim (fun e=>hne (str_eq.2 e)) (fun h=>h (Or.inr (Or.inl ⟨h2,heb2⟩)))
            have hfa:=fails_is p _ 16 _ (hWw.out.later (hbj.step_drewN nq)) (by rw [wl_len];decide);have hWj:=Hid.mk (hWw.out.later (hbj.step_drewN nq));go_wp2_with fail;refine hfa.mono ?_;rintro e w10 ⟨rfl,rfl⟩;go_wp2;go_ret;exact Or.inr ⟨rfl,((hB0.out.trans hbj).step_drewN nq).step_set hp0.out _,16,Or.inr ⟨rfl,fun h=>HBD.out (HMJ.out h)⟩,set_same (hWj.out.1 0 _ rfl)⟩
           ·go_wp2;go_roundg (12 - (j+1))
            case measure=>omega
            case rel=>exact ⟨by (repeat (first|exact Bel.refl _|assumption|refine Bel.step_alloc ?_ _|refine Bel.step_drew ?_|refine Bel.step_drewN ?_ _|refine Bel.step_set ?_ (by simp <;>omega) _|refine Bel.trans ?_ (by assumption))),j+1,rfl,by omega,by go_num⟩
          ·have hd2:decide (now<was)=false:=decide_eq_false h2;have hd3:(now==was)=true:=by rw [beq_iff_eq];omega
           have HBD:Hid (¬MvOne id2 was now bj aj):=fun h=>h.elim (fun e=>hne (str_eq.2 e)) (fun h=>h (Or.inr (Or.inr (by omega))))
           have hfa:=fails_is p _ 16 _ (hWw.out.later (hbj.step_drewN nq)) (by rw [wl_len];decide);have hWj:=Hid.mk (hWw.out.later (hbj.step_drewN nq));go_wp2_with fail;refine hfa.mono ?_;rintro e w10 ⟨rfl,rfl⟩;go_wp2;go_ret;exact Or.inr ⟨rfl,((hB0.out.trans hbj).step_drewN nq).step_set hp0.out _,16,Or.inr ⟨rfl,fun h=>HBD.out (HMJ.out h)⟩,set_same (hWj.out.1 0 _ rfl)⟩
        ·go_wp2_with fail;go_quiet (fail);go_wp2;go_roundg (12 - (j+1))
         case measure=>omega
         case rel=>exact ⟨by (repeat (first|exact Bel.refl _|assumption|refine Bel.step_alloc ?_ _|refine Bel.step_drew ?_|refine Bel.step_drewN ?_ _|refine Bel.step_set ?_ (by simp <;>omega) _|refine Bel.trans ?_ (by assumption))),j+1,rfl,by omega,by go_num⟩
       ·obtain rfl:j=12:=by omega
        clear h9c h14c HMV;go_wp2;go_ret;exact Or.inl ⟨rfl,k8,hK8.out.later hbj,HR8.out⟩
end Go.Proofs.YtpapdkhjdelfcabGreat
