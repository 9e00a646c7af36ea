import Derived.Test.YtpapdkhjdelfcabGreatHAL
import Derived.Test.YtpapdkhjdelfcabGreatHAN
import Derived.Test.YtpapdkhjdelfcabGreatHAO
import Derived.Test.YtpapdkhjdelfcabGreatHAF
set_option maxRecDepth 100000
set_option maxHeartbeats 4000000
namespace Go.Proofs.YtpapdkhjdelfcabGreat
open Go.RowKit
def Tab2At (w:World) (q:Nat) (c:Cfg) (vP vE:Value):Prop:=
 (w.cell? ⟨q,2,none⟩=some (.int .i64 c.alg)∧w.cell? ⟨q,3,none⟩=some (.int .i64 c.slots)∧w.cell? ⟨q,4,none⟩=some (.int .i64 c.points)∧w.cell? ⟨q,5,none⟩=some (.int .i64 c.probes)∧w.cell? ⟨q,6,none⟩=some (.string c.key)∧w.cell? ⟨q,7,none⟩=some (.int .i64 c.formats))∧
 w.cell? ⟨q,8,none⟩=some vP∧w.cell? ⟨q,9,none⟩=some vE
theorem Tab2At.later {a w:World} {q:Nat} {c:Cfg} {vP vE:Value} (h:Tab2At a q c vP vE) (k:Bel a w):Tab2At w q c vP vE:=by
 obtain ⟨⟨h0,h1,h2,h3,h4,h5⟩,h6,h7⟩:=h;exact ⟨⟨k.cell h0,k.cell h1,k.cell h2,k.cell h3,k.cell h4,k.cell h5⟩,k.cell h6,k.cell h7⟩
theorem name2_is (q:Nat) (c:Cfg) (vP vE:Value) (B:List BK) (x:Int) (w:World) (hT:Tab2At w q c vP vE) (hP:PoolAt w vP B):
  Calls Tryz.prog 84 #[.pointer (some ⟨q,2,none⟩),.int .i64 x] w (RText w (nameF B x)):=by
 obtain ⟨-,h6, -⟩:=hT;obtain ⟨ao,cap,rfl,hc⟩:=hP.open;obtain ⟨X,hX⟩:∃X,X=nameF B x:=⟨_,rfl⟩;rw [←hX];by_cases hneg:x<0
 ·have HX:Hid (X=ByteArray.empty):=by show X=_;rw [hX,nameF,if_pos hneg]
  have hd:decide (x<0)=true:=decide_eq_true hneg;clear hc hX;go_enter Tryz.func84,Tryz.ntmps84;go_wp2_with fail
  first
  |(go_ret;exact ⟨ret_str HX.out.symm,by (repeat (first|exact Bel.refl _|assumption|refine Bel.step_alloc ?_ _|refine Bel.step_drew ?_|refine Bel.step_drewN ?_ _|refine Bel.step_set ?_ (by simp <;>omega) _|refine Bel.trans ?_ (by assumption)))⟩)
  |(go_quiet (fail);go_wp2;go_ret;exact ⟨ret_str HX.out.symm,by (repeat (first|exact Bel.refl _|assumption|refine Bel.step_alloc ?_ _|refine Bel.step_drew ?_|refine Bel.step_drewN ?_ _|refine Bel.step_set ?_ (by simp <;>omega) _|refine Bel.trans ?_ (by assumption)))⟩)
 ·obtain ⟨k,rfl⟩:∃k:Nat,x=(k:Int):=⟨x.toNat,by omega⟩;have hd:decide ((k:Int)<0)=false:=decide_eq_false hneg;by_cases hlt:k<B.length
  ·obtain ⟨g,rfl,c0,c1⟩:=hc k hlt;have HX:Hid (X=B[k].1):=by show X=_;rw [hX,nameF,if_neg hneg,Int.toNat_natCast,List.getElem?_eq_getElem hlt];rfl
   have hg:decide ((k:Int)≥(B.length:Int))=false:=decide_eq_false (by omega);clear hc hX;generalize B[k].1=idk at *;go_enter Tryz.func84,Tryz.ntmps84;go_wp2_with fail
   first
   |(go_ret;exact ⟨ret_str HX.out.symm,by (repeat (first|exact Bel.refl _|assumption|refine Bel.step_alloc ?_ _|refine Bel.step_drew ?_|refine Bel.step_drewN ?_ _|refine Bel.step_set ?_ (by simp <;>omega) _|refine Bel.trans ?_ (by assumption)))⟩)
   |(go_quiet (fail);go_wp2;go_ret;exact ⟨ret_str HX.out.symm,by (repeat (first|exact Bel.refl _|assumption|refine Bel.step_alloc ?_ _|refine Bel.step_drew ?_|refine Bel.step_drewN ?_ _|refine Bel.step_set ?_ (by simp <;>omega) _|refine Bel.trans ?_ (by assumption)))⟩)
  ·have HX:Hid (X=ByteArray.empty):=by show X=_;rw [hX,nameF,if_neg hneg,Int.toNat_natCast,List.getElem?_eq_none (by omega)];rfl
   have hg:decide ((k:Int)≥(B.length:Int))=true:=decide_eq_true (by omega);clear hc hX;go_enter Tryz.func84,Tryz.ntmps84;go_wp2_with fail
   first
   |(go_ret;exact ⟨ret_str HX.out.symm,by (repeat (first|exact Bel.refl _|assumption|refine Bel.step_alloc ?_ _|refine Bel.step_drew ?_|refine Bel.step_drewN ?_ _|refine Bel.step_set ?_ (by simp <;>omega) _|refine Bel.trans ?_ (by assumption)))⟩)
   |(go_quiet (fail);go_wp2;go_ret;exact ⟨ret_str HX.out.symm,by (repeat (first|exact Bel.refl _|assumption|refine Bel.step_alloc ?_ _|refine Bel.step_drew ?_|refine Bel.step_drewN ?_ _|refine Bel.step_set ?_ (by simp <;>omega) _|refine Bel.trans ?_ (by assumption)))⟩)
theorem probed2_is (c:Cfg) (E:List EI) (v:Value) (k:ByteArray) (w:World) (hP:EIAt w v E) (hB:E.length≤65536) (hc:c.TOK) (hk:k.size≤4611686018427386000) (hE:0<E.length):
  Calls Tryz.prog 217 #[.agg c.cells,v,.string k] w (RNat w (probeTo c E k c.probes.toNat).1):=by
 obtain ⟨hp1,hp2,hk16⟩:1≤c.probes∧c.probes≤5∧c.key.size=16:=⟨hc.2.2.2.2.2.2.2.1,hc.2.2.2.2.2.2.2.2.1,hc.2.2.2.2.2.2.2.2.2⟩;have hnx:=fun h wx hx=>next_is E v h wx hx hB
 have hnl:=fun h=>nextF_lt E h hE
 obtain ⟨n,hn⟩:∃n:Nat,c.probes=(n:Int):=⟨c.probes.toNat,by omega⟩;rw [hn,Int.toNat_natCast];obtain ⟨pf,hpf⟩:∃pf,pf=probeTo c E k:=⟨_,rfl⟩;have h0:pf 0=(0,0):=by rw [hpf];rfl
 have hs:∀j,pf (j+1)=if j=0∨((E.getD (nextF E (hsh c.key 112 [j] k)) (0,0)).1 - hsh c.key 112 [j] k) % 18446744073709551616<(pf j).2 then (nextF E (hsh c.key 112 [j] k),((E.getD (nextF E (hsh c.key 112 [j] k)) (0,0)).1 - hsh c.key 112 [j] k) % 18446744073709551616) else pf j:=fun j=>by rw [hpf];rfl
 rw [←hpf];clear hpf;obtain ⟨alg,slots,points,probes,key,formats⟩:=c;simp only [Cfg.cells] at *;subst hn;obtain ⟨ao,cap,rfl,hcell⟩:=hP.open;clear hc;go_enter Tryz.func217,Tryz.ntmps217;go_wp2;obtain ⟨wm,hwm⟩:∃wm,wm=w.alloc (.cells #[.int .i64 alg,.int .i64 slots,.int .i64 points,.int .i64 (n:Int),.string key,.int .i64 formats] 34):=⟨_,rfl⟩;have m3:wm.cell? ⟨w.heap.size,3,none⟩=some (.int .i64 (n:Int)):=by rw [hwm];simp
 have m4:wm.cell? ⟨w.heap.size,4,none⟩=some (.string key):=by rw [hwm];simp
 have hwb:Bel w wm:=by rw [hwm];exact (Bel.refl w).step_alloc _
 rw [←hwm];clear hwm;go_loopg [7,8,9] n (fun r vb vl vi wr=>Bel wm wr∧∃j:Nat,r=n - j∧j≤n∧vi= .int .i64 j∧vb= .int .i64 ((pf j).1:Int)∧vl= .int .u64 (pf j).2)
 case atStart=>exact ⟨Bel.refl _,0,by omega,by omega,rfl,by rw [h0];rfl,by rw [h0]⟩
 case round=>
  obtain ⟨hb,j,hr,hjn,rfl,rfl,rfl⟩:=hrel;have n3:=hb.cell m3;have n4:=hb.cell m4;by_cases hjl:j<n
  ·have HS:=Hid.mk (hs j);have hH:=fun wx=>hash_is key 112 [j] (.slice (some ⟨wx.heap.size,0,none⟩) 1 1) k _ (ints_one wx j) (by simp) (by omega) hk
   clear hs h0;generalize hsh key 112 [j] k=x at *;have hnx:=hnx x;have hnl:=hnl x;generalize nextF E x=p at *;obtain ⟨g,rfl,c0,c1⟩:=hcell p hnl;have HG:Hid (E.getD p (0,0)=E[p]):=by show E.getD p (0,0)=E[p];rw [List.getD_eq_getElem?_getD,List.getElem?_eq_getElem hnl];rfl
   rw [HG.out] at HS;clear HG hcell;generalize pf j=mj at *;obtain ⟨mb,mm⟩:=mj;simp only at HS;have hge:decide ((p:Int)≥(E.length:Int))=false:=decide_eq_false (by omega);have hd:decide ((j:Int)<(n:Int))=true:=decide_eq_true (by omega);go_wp2_with fail;refine (hH _).mono ?_;rintro e w2 ⟨rfl,hb2⟩;have hb3:Bel wm w2:=(hb.step_alloc _).trans hb2;have hbw:=hwb.trans hb3;have hE2:=EIAt.later hP hbw;have e0:=hbw.cell c0;clear hb2 hH;go_wp2_with fail;refine (hnx _ hE2).mono ?_;rintro e w3 ⟨rfl,hb4⟩;have hb5:=hb3.trans hb4;have f0:=hb4.cell e0;clear hE2 hb4 e0 c0 c1;generalize E[p].1=ep at *;generalize hdd:(ep - x) % 18446744073709551616=dd at *;have hwd:IntKind.u64.wrap (ep - x)=dd:=by rw [IntKind.wrap_u64];exact hdd
   clear hdd;by_cases hj0:j=0
   ·subst hj0;rw [if_pos (Or.inl rfl)] at HS;go_wp2;go_roundg (n - 1)
    case measure=>omega
    case rel=>exact ⟨hb5,1,rfl,by omega,by go_num,by rw [HS.out],by rw [HS.out]⟩
   ·have hj0b:((j:Int)==0)=false:=by rw [beq_eq_false_iff_ne];omega
    by_cases hg:dd<mm
    ·rw [if_pos (Or.inr hg)] at HS;have hgt:decide (dd<mm)=true:=decide_eq_true hg;go_wp2;go_roundg (n - (j+1))
     case measure=>omega
     case rel=>exact ⟨hb5,j+1,rfl,by omega,by go_num,by rw [HS.out],by rw [HS.out]⟩
    ·rw [if_neg (fun h=>h.elim hj0 hg)] at HS;have hgt:decide (dd<mm)=false:=decide_eq_false hg;go_wp2;go_roundg (n - (j+1))
     case measure=>omega
     case rel=>exact ⟨hb5,j+1,rfl,by omega,by go_num,by rw [HS.out],by rw [HS.out]⟩
  ·obtain rfl:j=n:=by omega
   clear hs h0 hcell;go_wp2;go_ret;exact ⟨rfl,hwb.trans hb⟩
theorem probed2_nil (c:Cfg) (v:Value) (k:ByteArray) (w:World) (hP:EIAt w v []) (hc:c.TOK) (hk:k.size≤4611686018427386000):
  Calls Tryz.prog 217 #[.agg c.cells,v,.string k] w (RNat w 0):=by
 obtain ⟨hp1,hp2,hk16⟩:1≤c.probes∧c.probes≤5∧c.key.size=16:=⟨hc.2.2.2.2.2.2.2.1,hc.2.2.2.2.2.2.2.2.1,hc.2.2.2.2.2.2.2.2.2⟩;have hnx:=fun h wx hx=>next_is [] v h wx hx (by simp)
 have hn0:∀h,nextF [] h=0:=fun _=>rfl
 obtain ⟨alg,slots,points,probes,key,formats⟩:=c;simp only [Cfg.cells] at *;obtain ⟨ao,cap,rfl, -⟩:=hP.open;have hH:∀wx:World,Calls Tryz.prog 184 #[.string key,.int .u8 112,.slice (some ⟨wx.heap.size,0,none⟩) 1 1,.string k] (wx.alloc (.cells #[.int .i64 0] 3)) (RHash (wx.alloc (.cells #[.int .i64 0] 3)) (hsh key 112 [0] k)):=fun wx=>hash_is key 112 [0] (.slice (some ⟨wx.heap.size,0,none⟩) 1 1) k _ (ints_one wx 0) (by simp) (by omega) hk
 generalize hsh key 112 [0] k=x at *;have hnx:=hnx x;rw [hn0] at hnx;clear hc hn0;have hd:decide ((0:Int)<probes)=true:=decide_eq_true (by omega);go_enter Tryz.func217,Tryz.ntmps217;go_wp2;obtain ⟨wm,hwm⟩:∃wm,wm=w.alloc (.cells #[.int .i64 alg,.int .i64 slots,.int .i64 points,.int .i64 probes,.string key,.int .i64 formats] 34):=⟨_,rfl⟩;have m3:wm.cell? ⟨w.heap.size,3,none⟩=some (.int .i64 probes):=by rw [hwm];simp
 have m4:wm.cell? ⟨w.heap.size,4,none⟩=some (.string key):=by rw [hwm];simp
 have hwb:Bel w wm:=by rw [hwm];exact (Bel.refl w).step_alloc _
 rw [←hwm];clear hwm;refine wp_loop_rounds 1 ?_;rw [rounds_succ];go_wp2_with fail;refine (hH _).mono ?_;rintro e w2 ⟨rfl,hb2⟩;have hb3:Bel w w2:=(hwb.step_alloc _).trans hb2;clear hb2;go_wp2_with fail;refine (hnx _ (hP.later hb3)).mono ?_;rintro e w3 ⟨rfl,hb4⟩;go_wp2;go_ret;exact ⟨rfl,hb3.trans hb4⟩
theorem find2_is (q:Nat) (c:Cfg) (vP vE:Value) (E:List EI) (k:ByteArray) (w:World) (hT:Tab2At w q c vP vE) (hE:EIAt w vE E) (hB:E.length≤65536) (hc:c.TOK) (hk:k.size≤4611686018427386000):
  Calls Tryz.prog 178 #[.pointer (some ⟨q,2,none⟩),.string k] w (RNat w (findF c E k)):=by
 obtain ⟨⟨h0c,h1c,h2c,h3c,h4c,h5c⟩,h6,h7⟩:=hT;have hk16:c.key.size=16:=hc.2.2.2.2.2.2.2.2.2;obtain ⟨X,hX⟩:∃X,X=findF c E k:=⟨_,rfl⟩;rw [←hX];by_cases h4:c.alg=4
 ·have hpr:∀wx,EIAt wx vE E→Calls Tryz.prog 217 #[.agg c.cells,vE,.string k] wx (RNat wx X):=by
   intro wx hx;by_cases hE0:E.length=0
   ·have:E=[]:=List.eq_nil_of_length_eq_zero hE0;subst this;rw [hX,findF,if_pos (show ([]:List EI).length=0 from rfl)];exact probed2_nil c vE k wx hx hc hk
   ·rw [hX,findF,if_neg hE0,if_pos h4];exact probed2_is c E vE k wx hx hB hc hk (by omega)
  clear hX
  obtain ⟨alg,slots,points,probes,key,formats⟩:=c
  simp only [Cfg.cells] at *
  subst h4
  go_enter Tryz.func178,Tryz.ntmps178
  go_wp2_with fail
  go_region_held3 (fun w'=>Bel w w'∧w'.cell? ⟨q,2,none⟩=some (.int .i64 4)∧w'.cell? ⟨q,3,none⟩=some (.int .i64 slots)∧w'.cell? ⟨q,4,none⟩=some (.int .i64 points)∧w'.cell? ⟨q,5,none⟩=some (.int .i64 probes)∧w'.cell? ⟨q,6,none⟩=some (.string key)∧w'.cell? ⟨q,7,none⟩=some (.int .i64 formats)∧w'.cell? ⟨q,9,none⟩=some vE) ((exact ⟨by (repeat (first|exact Bel.refl _|assumption|refine Bel.step_alloc ?_ _|refine Bel.step_drew ?_|refine Bel.step_drewN ?_ _|refine Bel.step_set ?_ (by simp <;>omega) _|refine Bel.trans ?_ (by assumption))),Bel.cell (by (repeat (first|exact Bel.refl _|assumption|refine Bel.step_alloc ?_ _|refine Bel.step_drew ?_|refine Bel.step_drewN ?_ _|refine Bel.step_set ?_ (by simp <;>omega) _|refine Bel.trans ?_ (by assumption)))) h0c,Bel.cell (by (repeat (first|exact Bel.refl _|assumption|refine Bel.step_alloc ?_ _|refine Bel.step_drew ?_|refine Bel.step_drewN ?_ _|refine Bel.step_set ?_ (by simp <;>omega) _|refine Bel.trans ?_ (by assumption)))) h1c,Bel.cell (by (repeat (first|exact Bel.refl _|assumption|refine Bel.step_alloc ?_ _|refine Bel.step_drew ?_|refine Bel.step_drewN ?_ _|refine Bel.step_set ?_ (by simp <;>omega) _|refine Bel.trans ?_ (by assumption)))) h2c,Bel.cell (by (repeat (first|exact Bel.refl _|assumption|refine Bel.step_alloc ?_ _|refine Bel.step_drew ?_|refine Bel.step_drewN ?_ _|refine Bel.step_set ?_ (by simp <;>omega) _|refine Bel.trans ?_ (by assumption)))) h3c,Bel.cell (by (repeat (first|exact Bel.refl _|assumption|refine Bel.step_alloc ?_ _|refine Bel.step_drew ?_|refine Bel.step_drewN ?_ _|refine Bel.step_set ?_ (by simp <;>omega) _|refine Bel.trans ?_ (by assumption)))) h4c,Bel.cell (by (repeat (first|exact Bel.refl _|assumption|refine Bel.step_alloc ?_ _|refine Bel.step_drew ?_|refine Bel.step_drewN ?_ _|refine Bel.step_set ?_ (by simp <;>omega) _|refine Bel.trans ?_ (by assumption)))) h5c,Bel.cell (by (repeat (first|exact Bel.refl _|assumption|refine Bel.step_alloc ?_ _|refine Bel.step_drew ?_|refine Bel.step_drewN ?_ _|refine Bel.step_set ?_ (by simp <;>omega) _|refine Bel.trans ?_ (by assumption)))) h7⟩)) ((go_at_call 217;refine (hpr _ (hE.later (by (repeat (first|exact Bel.refl _|assumption|refine Bel.step_alloc ?_ _|refine Bel.step_drew ?_|refine Bel.step_drewN ?_ _|refine Bel.step_set ?_ (by simp <;>omega) _|refine Bel.trans ?_ (by assumption)))))).mono ?_;rintro e w2 ⟨rfl,hb2⟩))
  all_goals
   go_wp2
   go_ret
   exact ⟨rfl,by (repeat (first|exact Bel.refl _|assumption|refine Bel.step_alloc ?_ _|refine Bel.step_drew ?_|refine Bel.step_drewN ?_ _|refine Bel.step_set ?_ (by simp <;>omega) _|refine Bel.trans ?_ (by assumption)))⟩
 ·have h4b:(c.alg==4)=false:=by rw [beq_eq_false_iff_ne];exact h4
  have hH:=fun wx=>hash_is c.key 107 [] (.slice none 0 0) k wx (ints_nil wx) (by decide) (by omega) hk
  have hr:=hsh_range c.key 107 [] k;by_cases h2:c.alg=2
  ·have hX2:X=nextF E (hsh c.key 107 [] k):=by
    rw [hX,findF];by_cases hE0:E.length=0
    ·have:E=[]:=List.eq_nil_of_length_eq_zero hE0;subst this;rfl
    ·rw [if_neg hE0,if_neg h4,if_pos h2]
   have hnx:=fun wx hx=>next_is E vE (hsh c.key 107 [] k) wx hx hB
   rw [←hX2] at hnx
   generalize hsh c.key 107 [] k=x at *
   clear hX hX2
   obtain ⟨alg,slots,points,probes,key,formats⟩:=c
   simp only at *
   subst h2
   go_enter Tryz.func178,Tryz.ntmps178
   go_wp2_with fail
   refine (hH _).mono ?_
   rintro e w2 ⟨rfl,hb2⟩
   have k0:=hb2.cell h0c
   have k7:=hb2.cell h7
   go_wp2_with fail
   refine (hnx _ (hE.later hb2)).mono ?_
   rintro e w3 ⟨rfl,hb3⟩
   go_wp2
   go_ret
   exact ⟨rfl,hb2.trans hb3⟩
  ·have h2b:(c.alg==2)=false:=by rw [beq_eq_false_iff_ne];exact h2
   have hX2:(X:Int)=restF (hsh c.key 107 [] k) (E.length:Int):=by
    rw [hX,findF,restF];by_cases hE0:E.length=0
    ·rw [if_pos hE0,if_pos (by omega)];rfl
    ·rw [if_neg hE0,if_neg h4,if_neg h2,if_neg (by omega)];exact Int.toNat_of_nonneg (Int.emod_nonneg _ (by omega))
   have hrs:=fun wx=>rest_is (hsh c.key 107 [] k) (E.length:Int) wx hr.1 hr.2 (by omega) (by omega)
   rw [←hX2] at hrs;generalize hsh c.key 107 [] k=x at *;clear hX hX2;obtain ⟨ao,cap,rfl, -⟩:=hE.open;obtain ⟨alg,slots,points,probes,key,formats⟩:=c;simp only at *;go_enter Tryz.func178,Tryz.ntmps178;go_wp2_with fail;refine (hH _).mono ?_;rintro e w2 ⟨rfl,hb2⟩;have k0:=hb2.cell h0c;have k7:=hb2.cell h7;go_wp2_with fail;refine (hrs _).mono ?_;rintro e w3 ⟨rfl,rfl⟩;go_wp2;go_ret;exact ⟨rfl,hb2⟩
theorem owner2_is (q:Nat) (c:Cfg) (vP vE:Value) (B:List BK) (E:List EI) (k:ByteArray) (w:World) (hT:Tab2At w q c vP vE) (hP:PoolAt w vP B) (hE:EIAt w vE E) (hB:E.length≤65536) (hc:c.TOK) (hk:k.size≤4611686018427386000):
  Calls Tryz.prog 127 #[.pointer (some ⟨q,2,none⟩),.string k] w (RStrErr w (ownE c B E k)):=by
 have hfi:=find2_is q c vP vE E k w hT hE hB hc hk;have hnm:=fun x wx (h:Bel w wx)=>name2_is q c vP vE B x wx (hT.later h) (hP.later h)
 obtain ⟨X,hX⟩:∃X,X=ownE c B E k:=⟨_,rfl⟩;rw [←hX];rw [ownE] at hX;generalize findF c E k=p at *;obtain ⟨-, -,h7⟩:=hT;obtain ⟨ao,cap,rfl,hcell⟩:=hE.open;have hdn:decide ((p:Int)<0)=false:=decide_eq_false (by omega);by_cases hlt:p<E.length
 ·rw [List.getElem?_eq_getElem hlt] at hX;simp only at hX;obtain ⟨g,rfl,c0,c1⟩:=hcell p hlt;clear hcell c0;generalize E[p].2=o at *;have hnm:=hnm o;generalize nameF B o=nm at *;subst hX;have hdg:decide ((p:Int)≥(E.length:Int))=false:=decide_eq_false (by omega);go_enter Tryz.func127,Tryz.ntmps127;go_wp2_with fail;refine hfi.mono ?_;rintro e w2 ⟨rfl,hb2⟩;have k7:=hb2.cell h7;have k1:=hb2.cell c1;have hnm:=hnm w2 hb2;clear hfi;go_wp2_with fail
  first
  |refine hnm.mono ?_
  |(go_quiet (fail);go_wp2_with fail;refine (hnm.mono ?_))
  rintro e w3 ⟨rfl,hb3⟩;go_wp2;go_ret2;exact ⟨rfl,hb2.trans hb3⟩
 ·rw [List.getElem?_eq_none (by omega)] at hX;simp only at hX;subst hX;clear hcell hnm;have hdg:decide ((p:Int)≥(E.length:Int))=true:=decide_eq_true (by omega);go_enter Tryz.func127,Tryz.ntmps127;go_wp2_with fail;refine hfi.mono ?_;rintro e w2 ⟨rfl,hb2⟩;have k7:=hb2.cell h7;go_wp2_with fail
  first
  |(go_ret2;exact ⟨rfl,hb2⟩)
  |(go_quiet (fail);go_wp2;go_ret2;exact ⟨rfl,by (repeat (first|exact Bel.refl _|assumption|refine Bel.step_alloc ?_ _|refine Bel.step_drew ?_|refine Bel.step_drewN ?_ _|refine Bel.step_set ?_ (by simp <;>omega) _|refine Bel.trans ?_ (by assumption)))⟩)
end Go.Proofs.YtpapdkhjdelfcabGreat
namespace Go.Proofs.YtpapdkhjdelfcabGreat
open Go.RowKit
def inE (B B2:List BK) (e:EI):EI:=(e.1,placeF B2 (nameF B e.2))
def REntI (w:World) (L:List EI) (e:Ending) (w':World):Prop:=∃v,e= .returned v∧Bel w w'∧OwnE w.heap.size w' v L
theorem entsin_is (q:Nat) (c:Cfg) (vP vE v2:Value) (B B2:List BK) (E:List EI) (w:World) (hT:Tab2At w q c vP vE) (hP:PoolAt w vP B) (hE:EIAt w vE E) (hP2:PoolAt w v2 B2) (hB2:B2.length≤9) (hlen:E.length≤65536):
  Calls Tryz.prog 196 #[.pointer (some ⟨q,2,none⟩),v2] w (REntI w (E.map (inE B B2))):=by
 obtain ⟨i0,hi,hz0,hz1,hz2⟩:=info_parts Tryz.infoEI;have HT:=Hid.mk hT;have HP:=Hid.mk hP;have HP2:=Hid.mk hP2;obtain ⟨-, -,t9⟩:=hT;obtain ⟨aE,capE,rfl,hcE⟩:=hE.open;clear hP hP2;go_enter Tryz.func196,Tryz.ntmps196;go_wp2_with (first|(at_make;refine wpList_make_own _ rfl _ _ 64 rfl w.heap.size 116 i0 (.agg #[.int .u64 0,.int .i64 0]) 2 Tryz.underlying64 hi hz0 hz1 _ _ _ E.length rfl rfl ?b1 ?b2 ?b3 ?b4 ?_))
 case b1=>rfl
 case b2=>rw [hz2];omega
 case b3=>unfold maxLen;omega
 case b4=>exact Nat.le_refl _
 intro w1 hown1 hgrow1;have hb1:Bel w w1:=(Bel.refl _).grown hgrow1 (fun g hg=>by cases hg);have hown:OwnE w.heap.size w1 (.slice (some ⟨w.heap.size,0,none⟩) 0 E.length) []:=hown1;have s9:=hb1.cell t9;clear hgrow1 hown1;generalize (Value.slice (some ⟨w.heap.size,0,none⟩) 0 E.length)=v1 at *;go_wp2;go_loopg [5,20] E.length (fun r u n wr=>Bel w wr∧∃(k:Nat) (v:Value),v=u∧r=E.length - k∧k≤E.length∧n= .int .i64 k∧OwnE w.heap.size wr v ((E.take k).map (inE B B2)))
 case atStart=>exact ⟨hb1,0,_,rfl,by omega,by omega,rfl,by simpa using hown⟩
 case round=>
  obtain ⟨hb,k,v,rfl,hr,hk,rfl,hL⟩:=hrel;have hwr:=hb.size;have hLl:((E.take k).map (inE B B2)).length≤65536:=by rw [List.length_map];exact Nat.le_trans (List.length_take_le' _ _) hlen
  have HO:=Hid.mk hL;have hvn:Hid (v.ownBlock≠some wr.heap.size):=fun e=>by have:=(World.ownsRow.lt hL _ e).2;omega
  clear hb1 hown hL s9;by_cases hlt:k<E.length
  ·obtain ⟨g,rfl,c0,c1⟩:=hcE k hlt;have c0':=hb.cell c0;have c1':=hb.cell c1
   have HS:Hid ((E.take (k+1)).map (inE B B2)=(E.take k).map (inE B B2)++[(E[k].1,placeF B2 (nameF B E[k].2))]):=by
    show _=_;rw [List.take_succ_eq_append_getElem hlt,List.map_append];rfl
   have hnm:=fun wx h1 h2=>name2_is q c vP (.slice (some ⟨g,0,none⟩) E.length capE) B E[k].2 wx h1 h2
   have hpl:=fun wx h=>place_is B2 v2 (nameF B E[k].2) wx h hB2
   clear hcE c0 c1;generalize nameF B E[k].2=nm at *;generalize E[k].1=pt at *;generalize E[k].2=ow at *;generalize (E.take k).map (inE B B2)=L at *;go_wp2_with fail;refine (hnm _ (HT.out.later (hb.step_alloc _)) (HP.out.later (hb.step_alloc _))).mono ?_;rintro e w2 ⟨rfl,hb2⟩;have X2:=(BoxC.new wr 116 #[.int .u64 pt,.int .i64 ow]).bel hb2;have HBw2:=Hid.mk ((hb.step_alloc _).trans hb2);replace HO:=Hid.mk (own_laterW (World.ownsRow.alloc HO.out (.cells #[.int .u64 pt,.int .i64 ow] 116)) hb2);have HX2:=Hid.mk X2;clear X2 hb2;go_wp2_with fail;refine (hpl _ (HP2.out.later HBw2.out)).mono ?_;rintro e w3 ⟨rfl,hb3⟩;have X3:=HX2.out.bel hb3;have HBw3:=Hid.mk (HBw2.out.trans hb3);replace HO:=Hid.mk (own_laterW HO.out hb3);have x0:=X3.cell 0 rfl;have x1:=X3.cell 1 rfl;have f0:=X3.free 0;have f1:=X3.free 1;have hs3:=HBw3.out.size;have hs3b:=X3.lt;replace HO:=Hid.mk (ownsRow_setCell_other HO.out hvn.out (a:=⟨wr.heap.size,1,none⟩) (.int .i64 (placeF B2 nm)));have HBx:=Hid.mk (HBw3.out.step_set (p:=⟨wr.heap.size,1,none⟩) hwr (.int .i64 (placeF B2 nm)));clear X3 hb3 HX2 HBw2 HBw3 hnm hpl;go_wp2_with (first|(at_builtin;refine wpList_append_own _ rfl _ _ 64 rfl w.heap.size 116 i0 (.agg #[.int .u64 0,.int .i64 0]) 2 16 Tryz.underlying64 hi hz0 hz1 hz2 rfl (by decide) _ L.length (icells L) rfl ?p1a ⟨w3.heap.size,0,none⟩ 1 1 [.int .u64 pt,.int .i64 (placeF B2 nm)] rfl rfl ?da1 ?da2 ?da3 ?da4 ?da5 ?_))
   case p1a=>exact World.ownsRow.alloc HO.out _
   try (case da1=>exact two_new _ _ _ _ _ (by simp))
   case da2=>first|exact ⟨rfl,rfl⟩|exact two_one rfl rfl|(intro u hu;simp at hu;rcases hu with rfl|rfl <;>rfl)
   case da3=>unfold maxLen;omega
   case da4=>omega
   case da5=>first|omega|(simp;omega)
   intro v5 w5 hown5 hgrow5 _;have hb5:Bel w w5:=(HBx.out.step_alloc _).grown hgrow5 (fun g hg=>(World.ownsRow.lt HO.out g hg).1);have HO5:Hid (OwnE w.heap.size w5 v5 (L++[(pt,(placeF B2 nm))])):=OwnE.snoc (b:=(pt,(placeF B2 nm))) hown5 rfl;clear hown5 hgrow5;go_wp2;go_roundg (E.length - (k+1))
   case measure=>omega
   case rel=>exact ⟨hb5,k+1,_,rfl,rfl,by omega,by go_num,by rw [HS.out];exact HO5.out⟩
  ·have HE:Hid ((E.take k).map (inE B B2)=E.map (inE B B2)):=by rw [List.take_of_length_le (by omega)];rfl
   clear hcE;go_wp2;go_ret;exact ⟨_,rfl,hb,by rw [←HE.out];exact HO.out⟩
end Go.Proofs.YtpapdkhjdelfcabGreat
