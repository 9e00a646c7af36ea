import Derived.Test.YtpapdkhjdelfcabGreatHAK
set_option maxRecDepth 100000
set_option maxHeartbeats 4000000
namespace Go.Proofs.YtpapdkhjdelfcabGreat
open Go.RowKit
theorem probed_nil (c:Cfg) (v:Value) (k:ByteArray) (w:World) (hP:EIAt w v []) (hc:c.OK) (hk:k.size≤4611686018427386000):
  Calls Tryz.prog 217 #[.agg c.cells,v,.string k] w (RNat w 0):=by
 obtain ⟨hp1,hp2,hk16⟩:1≤c.probes∧c.probes≤5∧c.key.size=16:=⟨hc.2.2.2.2.2.2.2.1,hc.2.2.2.2.2.2.2.2.1,hc.2.2.2.2.2.2.2.2.2.1⟩;have hnx:=fun h wx hx=>next_is [] v h wx hx (by simp)
 have hn0:∀h,nextF [] h=0:=fun _=>rfl
 obtain ⟨alg,slots,points,probes,key,formats⟩:=c;simp only [Cfg.cells] at *;obtain ⟨ao,cap,rfl, -⟩:=hP.open;have hH:∀wx:World,Calls Tryz.prog 184 #[.string key,.int .u8 112,.slice (some ⟨wx.heap.size,0,none⟩) 1 1,.string k] (wx.alloc (.cells #[.int .i64 0] 3)) (RHash (wx.alloc (.cells #[.int .i64 0] 3)) (hsh key 112 [0] k)):=fun wx=>hash_is key 112 [0] (.slice (some ⟨wx.heap.size,0,none⟩) 1 1) k _ (ints_one wx 0) (by simp) (by omega) hk
 generalize hsh key 112 [0] k=x at *;have hnx:=hnx x;rw [hn0] at hnx;clear hc hn0;have hd:decide ((0:Int)<probes)=true:=decide_eq_true (by omega);go_enter Tryz.func217,Tryz.ntmps217;go_wp2;obtain ⟨wm,hwm⟩:∃wm,wm=w.alloc (.cells #[.int .i64 alg,.int .i64 slots,.int .i64 points,.int .i64 probes,.string key,.int .i64 formats] 34):=⟨_,rfl⟩;have m3:wm.cell? ⟨w.heap.size,3,none⟩=some (.int .i64 probes):=by rw [hwm];simp
 have m4:wm.cell? ⟨w.heap.size,4,none⟩=some (.string key):=by rw [hwm];simp
 have hwb:Bel w wm:=by rw [hwm];exact (Bel.refl w).step_alloc _
 rw [←hwm];clear hwm;refine wp_loop_rounds 1 ?_;rw [rounds_succ];go_wp2_with fail;refine (hH _).mono ?_;rintro e w2 ⟨rfl,hb2⟩;have hb3:Bel w w2:=(hwb.step_alloc _).trans hb2;clear hb2;go_wp2_with fail;refine (hnx _ (hP.later hb3)).mono ?_;rintro e w3 ⟨rfl,hb4⟩;go_wp2;go_ret;exact ⟨rfl,hb3.trans hb4⟩
theorem find_is (q:Nat) (c:Cfg) (vP vE:Value) (E:List EI) (k:ByteArray) (w:World) (hT:TabAt w q c vP vE) (hE:EIAt w vE E) (hB:E.length≤65536) (hc:c.OK) (hk:k.size≤4611686018427386000):
  Calls Tryz.prog 178 #[.pointer (some ⟨q,0,none⟩),.string k] w (RNat w (findF c E k)):=by
 obtain ⟨⟨h0c,h1c,h2c,h3c,h4c,h5c⟩,h6,h7⟩:=hT;have hk16:c.key.size=16:=hc.2.2.2.2.2.2.2.2.2.1;obtain ⟨X,hX⟩:∃X,X=findF c E k:=⟨_,rfl⟩;rw [←hX];by_cases h4:c.alg=4
 ·have hpr:∀wx,EIAt wx vE E→Calls Tryz.prog 217 #[.agg c.cells,vE,.string k] wx (RNat wx X):=by
   intro wx hx;by_cases hE0:E.length=0
   ·have:E=[]:=List.eq_nil_of_length_eq_zero hE0;subst this;rw [hX,findF,if_pos (show ([]:List EI).length=0 from rfl)];exact probed_nil c vE k wx hx hc hk
   ·rw [hX,findF,if_neg hE0,if_pos h4];exact probed_is c E vE k wx hx hB hc hk (by omega)
  clear hX
  obtain ⟨alg,slots,points,probes,key,formats⟩:=c
  simp only [Cfg.cells] at *
  subst h4
  go_enter Tryz.func178,Tryz.ntmps178
  go_wp2_with fail
  go_region_held3 (fun w'=>Bel w w'∧w'.cell? ⟨q,0,none⟩=some (.int .i64 4)∧w'.cell? ⟨q,1,none⟩=some (.int .i64 slots)∧w'.cell? ⟨q,2,none⟩=some (.int .i64 points)∧w'.cell? ⟨q,3,none⟩=some (.int .i64 probes)∧w'.cell? ⟨q,4,none⟩=some (.string key)∧w'.cell? ⟨q,5,none⟩=some (.int .i64 formats)∧w'.cell? ⟨q,7,none⟩=some vE) ((exact ⟨by (repeat (first|exact Bel.refl _|assumption|refine Bel.step_alloc ?_ _|refine Bel.step_drew ?_|refine Bel.step_drewN ?_ _|refine Bel.step_set ?_ (by simp <;>omega) _|refine Bel.trans ?_ (by assumption))),Bel.cell (by (repeat (first|exact Bel.refl _|assumption|refine Bel.step_alloc ?_ _|refine Bel.step_drew ?_|refine Bel.step_drewN ?_ _|refine Bel.step_set ?_ (by simp <;>omega) _|refine Bel.trans ?_ (by assumption)))) h0c,Bel.cell (by (repeat (first|exact Bel.refl _|assumption|refine Bel.step_alloc ?_ _|refine Bel.step_drew ?_|refine Bel.step_drewN ?_ _|refine Bel.step_set ?_ (by simp <;>omega) _|refine Bel.trans ?_ (by assumption)))) h1c,Bel.cell (by (repeat (first|exact Bel.refl _|assumption|refine Bel.step_alloc ?_ _|refine Bel.step_drew ?_|refine Bel.step_drewN ?_ _|refine Bel.step_set ?_ (by simp <;>omega) _|refine Bel.trans ?_ (by assumption)))) h2c,Bel.cell (by (repeat (first|exact Bel.refl _|assumption|refine Bel.step_alloc ?_ _|refine Bel.step_drew ?_|refine Bel.step_drewN ?_ _|refine Bel.step_set ?_ (by simp <;>omega) _|refine Bel.trans ?_ (by assumption)))) h3c,Bel.cell (by (repeat (first|exact Bel.refl _|assumption|refine Bel.step_alloc ?_ _|refine Bel.step_drew ?_|refine Bel.step_drewN ?_ _|refine Bel.step_set ?_ (by simp <;>omega) _|refine Bel.trans ?_ (by assumption)))) h4c,Bel.cell (by (repeat (first|exact Bel.refl _|assumption|refine Bel.step_alloc ?_ _|refine Bel.step_drew ?_|refine Bel.step_drewN ?_ _|refine Bel.step_set ?_ (by simp <;>omega) _|refine Bel.trans ?_ (by assumption)))) h5c,Bel.cell (by (repeat (first|exact Bel.refl _|assumption|refine Bel.step_alloc ?_ _|refine Bel.step_drew ?_|refine Bel.step_drewN ?_ _|refine Bel.step_set ?_ (by simp <;>omega) _|refine Bel.trans ?_ (by assumption)))) h7⟩)) ((go_at_call 217;refine (hpr _ (hE.later (by (repeat (first|exact Bel.refl _|assumption|refine Bel.step_alloc ?_ _|refine Bel.step_drew ?_|refine Bel.step_drewN ?_ _|refine Bel.step_set ?_ (by simp <;>omega) _|refine Bel.trans ?_ (by assumption)))))).mono ?_;rintro e w2 ⟨rfl,hb2⟩))
  all_goals
   go_wp2
   go_ret
   exact ⟨rfl,by (repeat (first|exact Bel.refl _|assumption|refine Bel.step_alloc ?_ _|refine Bel.step_drew ?_|refine Bel.step_drewN ?_ _|refine Bel.step_set ?_ (by simp <;>omega) _|refine Bel.trans ?_ (by assumption)))⟩
 ·have h4b:(c.alg==4)=false:=by rw [beq_eq_false_iff_ne];exact h4
  have hH:=fun wx=>hash_is c.key 107 [] (.slice none 0 0) k wx (ints_nil wx) (by decide) (by omega) hk
  have hr:=hsh_range c.key 107 [] k;by_cases h2:c.alg=2
  ·have hX2:X=nextF E (hsh c.key 107 [] k):=by
    rw [hX,findF];by_cases hE0:E.length=0
    ·have:E=[]:=List.eq_nil_of_length_eq_zero hE0;subst this;rfl
    ·rw [if_neg hE0,if_neg h4,if_pos h2]
   have hnx:=fun wx hx=>next_is E vE (hsh c.key 107 [] k) wx hx hB
   rw [←hX2] at hnx
   generalize hsh c.key 107 [] k=x at *
   clear hX hX2
   obtain ⟨alg,slots,points,probes,key,formats⟩:=c
   simp only at *
   subst h2
   go_enter Tryz.func178,Tryz.ntmps178
   go_wp2_with fail
   refine (hH _).mono ?_
   rintro e w2 ⟨rfl,hb2⟩
   have k0:=hb2.cell h0c
   have k7:=hb2.cell h7
   go_wp2_with fail
   refine (hnx _ (hE.later hb2)).mono ?_
   rintro e w3 ⟨rfl,hb3⟩
   go_wp2
   go_ret
   exact ⟨rfl,hb2.trans hb3⟩
  ·have h2b:(c.alg==2)=false:=by rw [beq_eq_false_iff_ne];exact h2
   have hX2:(X:Int)=restF (hsh c.key 107 [] k) (E.length:Int):=by
    rw [hX,findF,restF];by_cases hE0:E.length=0
    ·rw [if_pos hE0,if_pos (by omega)];rfl
    ·rw [if_neg hE0,if_neg h4,if_neg h2,if_neg (by omega)];exact Int.toNat_of_nonneg (Int.emod_nonneg _ (by omega))
   have hrs:=fun wx=>rest_is (hsh c.key 107 [] k) (E.length:Int) wx hr.1 hr.2 (by omega) (by omega)
   rw [←hX2] at hrs;generalize hsh c.key 107 [] k=x at *;clear hX hX2;obtain ⟨ao,cap,rfl, -⟩:=hE.open;obtain ⟨alg,slots,points,probes,key,formats⟩:=c;simp only at *;go_enter Tryz.func178,Tryz.ntmps178;go_wp2_with fail;refine (hH _).mono ?_;rintro e w2 ⟨rfl,hb2⟩;have k0:=hb2.cell h0c;have k7:=hb2.cell h7;go_wp2_with fail;refine (hrs _).mono ?_;rintro e w3 ⟨rfl,rfl⟩;go_wp2;go_ret;exact ⟨rfl,hb2⟩
end Go.Proofs.YtpapdkhjdelfcabGreat
namespace Go.Proofs.YtpapdkhjdelfcabGreat
open Go.RowKit
def ownE (c:Cfg) (B:List BK) (E:List EI) (k:ByteArray):ByteArray×Int:=match E[findF c E k]? with
 |some e=>(nameF B e.2,0)
 |none=>(ByteArray.empty,8)
theorem ownerF_eq (c:Cfg) (B:List BK) (k:ByteArray):ownerF c B k=ownE c B (mkF c B) k:=rfl
def RStrErr (w:World) (x:ByteArray×Int) (e:Ending) (w':World):Prop:=e= .returned (.tuple #[.string x.1,.int .i64 x.2])∧Bel w w'
theorem owner_is (q:Nat) (c:Cfg) (vP vE:Value) (B:List BK) (E:List EI) (k:ByteArray) (w:World) (hT:TabAt w q c vP vE) (hP:PoolAt w vP B) (hE:EIAt w vE E) (hB:E.length≤65536) (hc:c.OK) (hk:k.size≤4611686018427386000):
  Calls Tryz.prog 127 #[.pointer (some ⟨q,0,none⟩),.string k] w (RStrErr w (ownE c B E k)):=by
 have hfi:=find_is q c vP vE E k w hT hE hB hc hk;have hnm:=fun x wx (h:Bel w wx)=>name_is q c vP vE B x wx (hT.later h) (hP.later h)
 obtain ⟨X,hX⟩:∃X,X=ownE c B E k:=⟨_,rfl⟩;rw [←hX];rw [ownE] at hX;generalize findF c E k=p at *;obtain ⟨-, -,h7⟩:=hT;obtain ⟨ao,cap,rfl,hcell⟩:=hE.open;have hdn:decide ((p:Int)<0)=false:=decide_eq_false (by omega);by_cases hlt:p<E.length
 ·rw [List.getElem?_eq_getElem hlt] at hX;simp only at hX;obtain ⟨g,rfl,c0,c1⟩:=hcell p hlt;clear hcell c0;generalize E[p].2=o at *;have hnm:=hnm o;generalize nameF B o=nm at *;subst hX;have hdg:decide ((p:Int)≥(E.length:Int))=false:=decide_eq_false (by omega);go_enter Tryz.func127,Tryz.ntmps127;go_wp2_with fail;refine hfi.mono ?_;rintro e w2 ⟨rfl,hb2⟩;have k7:=hb2.cell h7;have k1:=hb2.cell c1;have hnm:=hnm w2 hb2;clear hfi;go_wp2_with fail
  first
  |refine hnm.mono ?_
  |(go_quiet (fail);go_wp2_with fail;refine (hnm.mono ?_))
  rintro e w3 ⟨rfl,hb3⟩;go_wp2;go_ret2;exact ⟨rfl,hb2.trans hb3⟩
 ·rw [List.getElem?_eq_none (by omega)] at hX;simp only at hX;subst hX;clear hcell hnm;have hdg:decide ((p:Int)≥(E.length:Int))=true:=decide_eq_true (by omega);go_enter Tryz.func127,Tryz.ntmps127;go_wp2_with fail;refine hfi.mono ?_;rintro e w2 ⟨rfl,hb2⟩;have k7:=hb2.cell h7;go_wp2_with fail
  first
  |(go_ret2;exact ⟨rfl,hb2⟩)
  |(go_quiet (fail);go_wp2;go_ret2;exact ⟨rfl,by (repeat (first|exact Bel.refl _|assumption|refine Bel.step_alloc ?_ _|refine Bel.step_drew ?_|refine Bel.step_drewN ?_ _|refine Bel.step_set ?_ (by simp <;>omega) _|refine Bel.trans ?_ (by assumption)))⟩)
def OwnT (base:Nat) (w:World) (v:Value) (L:List ByteArray):Prop:=w.ownsRow base 9 1 v L.length (L.map Value.string)
theorem OwnT.snoc {base:Nat} {w:World} {v:Value} {L:List ByteArray} {b:ByteArray} {n:Nat} (h:w.ownsRow base 9 1 v n (L.map Value.string++[.string b])) (hn:n=L.length+1):OwnT base w v (L++[b]):=by
 unfold OwnT;rw [List.map_append,List.length_append];subst hn;exact h
def RTexts (w:World) (L:List ByteArray) (e:Ending) (w':World):Prop:=∃v,e= .returned v∧Bel w w'∧OwnT w.heap.size w' v L∧(L=[]→v= .slice none 0 0)∧(L≠[]→∃g,v= .slice (some ⟨g,0,none⟩) L.length L.length)
def namesF (B:List BK) (E:List EI):List ByteArray:=E.map fun e=>nameF B e.2
theorem names_is (q:Nat) (c:Cfg) (vP vE:Value) (B:List BK) (E:List EI) (w:World) (hT:TabAt w q c vP vE) (hP:PoolAt w vP B) (hE:EIAt w vE E) (hB:E.length≤65536):
  Calls Tryz.prog 43 #[.pointer (some ⟨q,0,none⟩)] w (RTexts w (namesF B E)):=by
 obtain ⟨i0,hi,hz0,hz1,hz2⟩:=info_parts Tryz.infoStr;have hnm:=fun x wx (h:Bel w wx)=>name_is q c vP vE B x wx (hT.later h) (hP.later h)
 obtain ⟨-, -,h7⟩:=hT;obtain ⟨ao,cap,rfl,hcell⟩:=hE.open;by_cases hE0:E.length=0
 ·have:E=[]:=List.eq_nil_of_length_eq_zero hE0;subst this;clear hcell hnm hE0;go_enter Tryz.func43,Tryz.ntmps43;go_wp2;go_ret;exact ⟨_,rfl,Bel.refl _,World.ownsRow_nil _ _ _ _,fun _=>rfl,fun h=>absurd rfl h⟩
 ·have hE0b:((E.length:Int)==0)=false:=by rw [beq_eq_false_iff_ne];omega
  have hst:∀k (h:k<E.length),namesF B (E.take (k+1))=namesF B (E.take k)++[nameF B E[k].2]:=fun k h=>by
   rw [List.take_succ_eq_append_getElem h,namesF,List.map_append];rfl
  have hln:∀k,k≤E.length→(namesF B (E.take k)).length=k:=fun k h=>by simp [namesF];omega
  have HE:Hid (namesF B (E.take E.length)=namesF B E):=by rw [List.take_length];rfl
  have HNE:Hid (namesF B E≠[]):=fun h=>by
   have:=congrArg List.length h;simp [namesF] at this;subst this;exact hE0 rfl
  generalize namesF B E=NL at *;obtain ⟨nl,hnl⟩:∃nl:Nat→List ByteArray,nl=fun k=>namesF B (E.take k):=⟨_,rfl⟩
  have hst2:∀k (h:k<E.length),nl (k+1)=nl k++[nameF B E[k].2]:=fun k h=>by rw [hnl];exact hst k h
  have hln2:∀k,k≤E.length→(nl k).length=k:=fun k h=>by rw [hnl];exact hln k h
  have h02:nl 0=[]:=by rw [hnl];rfl
  have HE2:Hid (nl E.length=NL):=by rw [hnl];exact HE.out
  clear hst hln HE hnl;go_enter Tryz.func43,Tryz.ntmps43;go_wp2_with (first|(at_make;refine wpList_make_own _ rfl _ _ 40 rfl w.heap.size 9 i0 (.string ByteArray.empty) 1 Tryz.underlying40 hi hz0 hz1 _ _ _ E.length rfl rfl ?b1 ?b2 ?b3 ?b4 ?_))
  case b1=>rfl
  case b2=>first|omega|(rw [hz2];omega)
  case b3=>unfold maxLen;omega
  case b4=>exact Nat.le_refl _
  intro w1 hown1 hgrow1;have hb1:Bel w w1:=(Bel.refl _).grown hgrow1 (fun g hg=>by cases hg);have hown:OwnT w.heap.size w1 (.slice (some ⟨w.heap.size,0,none⟩) 0 E.length) []:=hown1;have k7:=hb1.cell h7;clear hgrow1 hown1;go_wp2;go_loopg [3,23] E.length (fun r vL n wr=>Bel w wr∧∃(k:Nat),r=E.length - k∧k≤E.length∧n= .int .i64 k∧vL= .slice (some ⟨w.heap.size,0,none⟩) k E.length∧OwnT w.heap.size wr vL (nl k))
  case atStart=>exact ⟨hb1,0,by omega,by omega,rfl,rfl,by rw [h02];exact hown⟩
  case round=>
   obtain ⟨hb,k,hr,hk,rfl,rfl,hL⟩:=hrel;have HO:=Hid.mk hL;have hwr:=hb.size;clear hL hown hb1 k7;by_cases hlt:k<E.length
   ·obtain ⟨g,rfl,c0,c1⟩:=hcell k hlt;have c0':=hb.cell c0;have c1':=hb.cell c1;have HS:=Hid.mk (hst2 k hlt);have hlk:=hln2 k hk;clear hcell hst2 hln2 h02 c0 c1;generalize nl k=L at *;have hL65:L.length≤65536:=by omega
    have HLk:=Hid.mk hlk;have hO0:wr.ownsRow w.heap.size 9 1 (.slice (some ⟨w.heap.size,0,none⟩) k E.length) k (L.map Value.string):=by have:=HO.out;unfold OwnT at this;rw [hlk] at this;exact this
    clear HO hlk;have HO:=Hid.mk hO0;clear hO0;generalize E[k].1=ep at *;generalize E[k].2=eo at *;have hnm:=hnm eo;generalize nameF B eo=nm at *;go_wp2_with fail;refine (hnm _ (by (repeat (first|exact Bel.refl _|assumption|refine Bel.step_alloc ?_ _|refine Bel.step_drew ?_|refine Bel.step_drewN ?_ _|refine Bel.step_set ?_ (by simp <;>omega) _|refine Bel.trans ?_ (by assumption))))).mono ?_;rintro e w2 ⟨rfl,hb2⟩;have hbr:Bel wr w2:=(Bel.step_alloc (Bel.refl wr) _).trans hb2;have hO2:=Hid.mk (own_later HO.out hbr);have hbw:=hb.trans hbr;have hw2:=hbw.size;clear HO hb2 hnm;go_wp2_with (first|(at_builtin;refine wpList_append_fits _ rfl _ _ 40 rfl w.heap.size 9 i0 1 Tryz.underlying40 hi hz1 w.heap.size k E.length (L.map Value.string) rfl ?p1 ⟨w2.heap.size,0,none⟩ 1 1 [.string nm] rfl rfl ?d1 ?d2 ?d3 ?_))
    case p1=>exact World.ownsRow.alloc hO2.out _
    try (case d1=>exact one_new _ _ _ _ (by simp))
    case d2=>first|rfl|(intro u hu;simp at hu;subst hu;rfl)
    case d3=>omega
    intro w3 hown3 hgrow3;have hb3:Bel w w3:=(hbw.step_alloc _).grown hgrow3 (fun g hg=>(World.ownsRow.lt hO2.out g hg).1);have H3:=Hid.mk (OwnT.snoc (b:=nm) (L:=L) hown3 (by rw [HLk.out]));clear hown3 hgrow3;go_wp2;go_roundg (E.length - (k+1))
    case measure=>omega
    case rel=>exact ⟨hb3,k+1,rfl,by omega,by go_num,rfl,by rw [HS.out];exact H3.out⟩
   ·obtain rfl:k=E.length:=by omega
    have HLN:Hid (NL.length=E.length):=by show NL.length=_;rw [←HE2.out];exact hln2 _ (Nat.le_refl _)
    clear hcell hst2 hln2 h02;go_wp2;go_ret;exact ⟨_,rfl,hb,by rw [←HE2.out];exact HO.out,fun h=>absurd h HNE.out,fun _=>⟨w.heap.size,by rw [HLN.out];rfl⟩⟩
end Go.Proofs.YtpapdkhjdelfcabGreat
