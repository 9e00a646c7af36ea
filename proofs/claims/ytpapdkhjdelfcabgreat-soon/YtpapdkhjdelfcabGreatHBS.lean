import Derived.Test.YtpapdkhjdelfcabGreatHBQ
import Derived.Test.YtpapdkhjdelfcabGreatHBR
import Derived.Deep.RegionHeld3
import Derived.Lib.LazyBuf
set_option maxRecDepth 100000
set_option maxHeartbeats 4000000
namespace Go.Proofs.YtpapdkhjdelfcabGreat
open Go.RowKit
def tt:ByteArray:=⟨#[126,126]⟩
theorem ownersF_gen (c:Cfg) (B:List BK) (g g':Int) (h:g=0→B=[]) (h':g'=0→B=[]):ownersF c B g=ownersF c B g':=by
 have key:∀(g:Int) (k:ByteArray),(g=0→B=[])→(localF c B g k).1=(ownerF c B k).1:=by
  intro g k hg;unfold localF;by_cases h0:g=0
  ·rw [if_pos h0];have hB:=hg h0;subst hB;rw [ownerF_eq,mkF_nil];rfl
  ·rw [if_neg h0]
 unfold ownersF;apply List.map_congr_left;intro k _;rw [key g _ h,key g' _ h']
theorem fresh_addE {B:List BK} (h:Good B) {i:Nat} (hi:i<B.length):addE ((B.drop (i+1)).map offW) B[i].1 ((B[i].2+1) % 7)=0:=by
 by_cases he:addE ((B.drop (i+1)).map offW) B[i].1 ((B[i].2+1) % 7)=0
 ·exact he
 ·have h1:=fresh_add h hi;unfold addB at h1;rw [if_neg he] at h1;have:=congrArg List.length h1;simp at this;omega
theorem offW_good {B:List BK} (h:Good B) (i:Nat):Good ((B.drop i).map offW):=by
 have hsub:Srt (B.drop i):=List.Pairwise.sublist (List.drop_sublist i B) h.2;refine ⟨⟨by simp;have:=h.1.1;omega,fun b hb=>?_⟩,?_⟩
 ·obtain ⟨x,hx,rfl⟩:=List.mem_map.1 hb;have:=h.1.2 x (List.mem_of_mem_drop hx);refine ⟨this.1,this.2.1,?_,?_⟩<;>simp only [offW] <;>omega
 ·exact List.pairwise_map.2 hsub
theorem genz_add {B:List BK} {g:Int} {id:ByteArray} {n:Int} (h:g=0→B=[]) (h0:0≤g):(if addE B id n=0 then g+1 else g)=0→addB B id n=[]:=by
 unfold addB;split
 ·intro h;omega
 ·exact h
theorem genz_rem {B:List BK} {g:Int} {id:ByteArray} (h:g=0→B=[]) (h0:0≤g):(if remE B id=0 then g+1 else g)=0→remB B id=[]:=by
 unfold remB;split
 ·intro h;omega
 ·exact h
theorem genz_set {B:List BK} {g:Int} {id:ByteArray} {n:Int} (h:g=0→B=[]) (h0:0≤g):(if setE B id n=0 then g+1 else g)=0→setB B id n=[]:=by
 unfold setB;split
 ·intro h;omega
 ·exact h
theorem weightF_neg {B:List BK} (h:PoolOK B) {id:ByteArray} (hw:weightF B id<0):¬atName id B<B.length:=fun ht=>by
 rw [weightF_there ht] at hw;have:=(h.2 _ (List.getElem_mem ht)).2.2.1;omega
theorem atName_off (B:List BK) (id:ByteArray):atName id (B.map offW)=atName id B:=by
 unfold atName;rw [List.findIdx_map];rfl
theorem drop_is (v:Value) (w:World):Calls Tryz.prog 49 #[v] w fun e w'=>e= .returned (.tuple #[])∧w=w':=by
 go_enter Tryz.func49,Tryz.ntmps49;go_wp2;go_end0;exact ⟨rfl,rfl⟩
theorem RowAt.masked {M:List Nat} {w:World} {v:Value} {n:Nat} {xs:List Value} (h:RowAt w v n xs) (hM:∀k∈M,w.heap.size≤k):RowAt (mask M w) v n xs:=by
 rcases h with h1|⟨g,cap,hv,hn,hg,hc⟩
 ·exact Or.inl h1
 ·exact Or.inr ⟨g,cap,hv,hn,by rw [mask_size];exact hg,fun j u hu=>mask_cell.2 ⟨hc j u hu,fun hm=>by have:=hM g hm;omega⟩⟩
def FrI (w w3:World) (q2:Nat) (on:Cfg) (B:List BK) (i:Nat) (wr:World):Prop:=∃(Bx:List BK) (gx:Int),SvcAt (.slice none 0 0) [q2] q2 on Bx gx wr∧Good Bx∧Bel w wr∧But [q2] w3 wr∧0≤gx∧gx≤20+(i:Int)∧(gx=0→Bx=[])∧(weightF B tt<0→Bx=B.take i++(B.drop i).map offW)
theorem fresh_is (W0:World) (p s:Nat) (k:KI) (w:World) (h:KInv W0 p s k w):
  Calls Tryz.prog 73 #[.pointer (some ⟨p,0,none⟩)] w (RBool w fun x=>x=true):=by
 have hW:=h.at_;have hS:=h.svc;have hP:=h.pool;have hG:=h.good;have honOK:=h.onok;have hg:=h.gen;clear h;have hEl:=mkF_len k.on k.B honOK hG.1;have hsl:=slots_v k.M k.q k.on k.B k.g w hS hEl;have how:=fun wx (b:Bel w wx)=>owners_is k.M k.q k.on k.B k.g wx (hS.later b) hEl honOK
 have hnw:=fun wx=>new_is k.on wx honOK
 have hwt:=fun wx (b:Bel w wx)=>weight_is k.B k.vb tt wx (hP.unmask.later b) (by have:=hG.1.1;omega)
 have c7:=hW.1 7 _ rfl;have c8:=hW.1 8 _ rfl;have c9:=hW.1 9 _ rfl;have c10:=hW.1 10 _ rfl;have c11:=hW.1 11 _ rfl;have c12:=hW.1 12 _ rfl;have c13:=hW.1 13 _ rfl;have c14:=hW.1 14 _ rfl;have h8:=hG.1.1;obtain ⟨ab,cb,hvb,hcell⟩:=hP.unmask.open;rw [hvb] at c14 hwt;have HGB:Hid (k.g=0→k.B=[]):=hg.2.2;have HG:=Hid.mk hG;have HON:=Hid.mk honOK;have HEl:=Hid.mk hEl;obtain ⟨NL,hNL⟩:∃NL,NL=namesF k.B (mkF k.on k.B):=⟨_,rfl⟩;obtain ⟨OB,hOB⟩:∃OB,OB=ownersF k.on k.B k.g:=⟨_,rfl⟩;rw [←hNL] at hsl;rw [←hOB] at how;have HNL:=Hid.mk hNL;have HOB:=Hid.mk hOB;have hNLl:NL.length≤65536:=by rw [hNL,namesF,List.length_map];exact hEl
 have hOBl:OB.length≤65536:=by rw [hOB,ownersF];simp
 clear hNL hOB hW hS hP hG hEl honOK hvb;obtain ⟨M0,q0,c0,on,B,g0,vb0,vw0,vs0,vh0,vf0,img0,part0,L0,pp0,vr0,sp0,hd0,fr0,fb0,ds0,dh0,bs0⟩:=k;simp only [Cfg.cells] at *;go_enter Tryz.func73,Tryz.ntmps73;go_wp2_with fail;refine hsl.mono ?_;rintro e w1 ⟨va,rfl,hb1,hOa, -⟩;have d7:=hb1.cell c7;go_wp2_with fail;refine (how _ hb1).mono ?_;rintro e w2 ⟨vo,rfl,hb2,hOo⟩;have hb02:=hb1.trans hb2;have e8:=hb02.cell c8;have e9:=hb02.cell c9;have e10:=hb02.cell c10;have e11:=hb02.cell c11;have e12:=hb02.cell c12;have e13:=hb02.cell c13;go_wp2_with fail;refine (hnw _).mono ?_;rintro e w3 ⟨q2,rfl,hb3,hq2a,hq2b,hS3⟩;have hb03:=hb02.trans hb3;have hS3:=hS3 [q2] (by simp);have e14:=hb03.cell c14;have hAt:Hid (RowAt (mask [q2] w3) va NL.length (NL.map Value.string)):=(((RowAt.of_owns hOa).later hb2).masked (M:=[q2]) (by simpa using hq2a)).later (But.of_bel hb3);have hOt:Hid (RowAt (mask [q2] w3) vo OB.length (OB.map Value.string)):=((RowAt.of_owns hOo).masked (M:=[q2]) (by simpa using hq2a)).later (But.of_bel hb3);have hqw:w.heap.size≤q2:=Nat.le_trans hb02.size hq2a;clear hsl how hnw hOa hOo hb1 hb2 hb3 d7 e8 e9 e10 e11 e12 e13 hb02;go_wp2;go_loopg [7] B.length (fun r vi wr=>∃(i:Nat) (gx:Int),r=i∧i≤B.length∧vi= .int .i64 ((i:Int) - 1)∧Bel w wr∧But [q2] w3 wr∧SvcAt (.slice none 0 0) [q2] q2 on ((B.drop i).map offW) gx wr∧0≤gx∧gx≤8 - (i:Int)∧(gx=0→(B.drop i).map offW=[]))
 case atStart=>exact ⟨B.length,0,rfl,by omega,rfl,hb03,But.refl _ _,by simpa using hS3,by omega,by omega,fun _=>by simp⟩
 case round=>
  obtain ⟨i,gx,hri,hi,rfl,hbr,hbtr,hSr,hgx0,hgx1,hgxn⟩:=hrel;have f14:=hbr.cell c14;cases i with
  |succ i=>
   have hil:i<B.length:=by omega
   obtain ⟨g,rfl,x0,x1⟩:=hcell i hil;have y0:=hbr.cell x0;have y1:=hbr.cell x1;have hwb:=(HG.out.1.2 _ (List.getElem_mem hil)).2.2;have had:=fun wx (hS:SvcAt (.slice none 0 0) [q2] q2 on ((B.drop (i+1)).map offW) gx wx) (hq:q2<wx.heap.size)=>add_is [q2] q2 on ((B.drop (i+1)).map offW) gx B[i].1 ((B[i].2+1) % 7) wx hS (by simpa using hq) HON.out (offW_good HG.out (i+1)) hgx0 (by omega)
   rw [fresh_addE HG.out hil,fresh_add HG.out hil] at had;simp only [if_true] at had;have HSr:=Hid.mk hSr;have hqr:q2<wr.heap.size:=hSr.lt;have hne:Hid (gx+1=0→(B.drop i).map offW=[]):=fun h=>by omega
   obtain ⟨hw1,hw2⟩:=hwb;clear hcell hSr hgxn hS3;generalize hLi:(B.drop i).map offW=Li at *;have HLi:=Hid.mk hLi;clear hLi;generalize B[i].1=idi at *;generalize B[i].2=wi at *;rw [show (wi+1) % 7=(wi+1).tmod 7 from (Int.tmod_eq_emod_of_nonneg (by omega)).symm] at had;have hwa:IntKind.i64.wrap (wi+1)=wi+1:=by rw [IntKind.wrap_i64];omega
   have hij:(i:Int)+1 - 1=(i:Int):=by omega
   have hge:decide (((i:Int)+1 - 1)≥0)=true:=decide_eq_true (by omega);go_wp2_with fail;go_region_held3 (fun w'=>Bel w w'∧w'.cell? ⟨p,14,none⟩=some (.slice (some ⟨g,0,none⟩) B.length cb)∧w'.cell? ⟨g,i * 2,none⟩=some (.string idi)∧w'.cell? ⟨g,i * 2+1,none⟩=some (.int .i64 wi)) ((exact ⟨by (repeat (first|exact Bel.refl _|assumption|refine Bel.step_alloc ?_ _|refine Bel.step_drew ?_|refine Bel.step_drewN ?_ _|refine Bel.step_set ?_ (by simp <;>omega) _|refine Bel.trans ?_ (by assumption))),Bel.cell (a:=w) (by (repeat (first|exact Bel.refl _|assumption|refine Bel.step_alloc ?_ _|refine Bel.step_drew ?_|refine Bel.step_drewN ?_ _|refine Bel.step_set ?_ (by simp <;>omega) _|refine Bel.trans ?_ (by assumption)))) c14,Bel.cell (a:=w) (by (repeat (first|exact Bel.refl _|assumption|refine Bel.step_alloc ?_ _|refine Bel.step_drew ?_|refine Bel.step_drewN ?_ _|refine Bel.step_set ?_ (by simp <;>omega) _|refine Bel.trans ?_ (by assumption)))) x0,Bel.cell (a:=w) (by (repeat (first|exact Bel.refl _|assumption|refine Bel.step_alloc ?_ _|refine Bel.step_drew ?_|refine Bel.step_drewN ?_ _|refine Bel.step_set ?_ (by simp <;>omega) _|refine Bel.trans ?_ (by assumption)))) x1⟩)) ((go_at_call 24;refine (had _ (HSr.out.later (Bel.step_drew (Bel.refl wr))) hqr).mono ?_;rintro e w5 ⟨rfl,hbt,hS5⟩;have hb5:Bel w w5:=But.belTo (Bel.step_drew hbr) hbt (by simpa using hqw)))
   all_goals
    have hbt2:=(hbtr.drew).trans hbt;have HS5:=Hid.mk hS5;clear hS5 hbt had;go_wp2;go_roundg i
    case measure=>omega
    case rel=>exact ⟨i,gx+1,rfl,by omega,by go_num,hb5,hbt2,by rw [HLi.out];exact HS5.out,by omega,by omega,by rw [HLi.out];exact hne.out⟩
  |zero=>
   have hge:decide ((((0:Nat):Int) - 1)≥0)=false:=rfl;rw [List.drop_zero] at hSr hgxn;have HSr:=Hid.mk hSr;have HGN:=Hid.mk hgxn;clear hSr hgxn hS3;go_upto_if 69 with fail
   go_cut [] (FrI w w3 q2 on B 0)
   case first=>
    by_cases hl:B.length<8
    ·have hd:decide ((B.length:Int)<8)=true:=decide_eq_true (by omega);have had:=add_is [q2] q2 on (B.map offW) gx tt 3 wr HSr.out (by simpa using HSr.out.lt) HON.out (by have:=offW_good HG.out 0;rwa [List.drop_zero] at this) hgx0 (by omega);have hgd1:Good (addB (B.map offW) tt 3):=(by have:=offW_good HG.out 0;rwa [List.drop_zero] at this:Good (B.map offW)).add tt 3;have hz1:=genz_add (id:=tt) (n:=3) HGN.out hgx0
     have hback:Hid (weightF B tt<0→remB (addB (B.map offW) tt 3) tt=B.map offW):=fun hT=>by
      have hno:=weightF_neg HG.out.1 hT;refine there_in_out (by have:=(offW_good HG.out 0).2;rwa [List.drop_zero] at this) tt 3 ?_;unfold addE;rw [if_neg (by decide),if_neg (by decide),if_neg (by rw [atName_off,List.length_map];exact hno),if_neg (by rw [List.length_map];omega)]
     have hgb1:0≤(if addE (B.map offW) tt 3=0 then gx+1 else gx)∧(if addE (B.map offW) tt 3=0 then gx+1 else gx)≤10:=by split <;>omega
     generalize (if addE (B.map offW) tt 3=0 then gx+1 else gx)=g1 at *;generalize addE (B.map offW) tt 3=er1 at *;generalize addB (B.map offW) tt 3=B1 at *;obtain ⟨hg1a,hg1b⟩:=hgb1;clear hcell;go_wp2_with fail;refine had.mono ?_;rintro e w4 ⟨rfl,hbt4,hS4⟩;have hrm:=remove_is [q2] q2 on B1 g1 tt w4 hS4 (by simpa using hS4.lt) HON.out hgd1 hg1a (by omega);have hgd2:=hgd1.rem tt;have hz2:=genz_rem (id:=tt) hz1 hg1a;have hgb2:0≤(if remE B1 tt=0 then g1+1 else g1)∧(if remE B1 tt=0 then g1+1 else g1)≤11:=by split <;>omega
     generalize (if remE B1 tt=0 then g1+1 else g1)=g2 at *;generalize remE B1 tt=er2 at *;generalize remB B1 tt=B2 at *;obtain ⟨hg2a,hg2b⟩:=hgb2;clear had;go_wp2_with fail;refine hrm.mono ?_;rintro e w5 ⟨rfl,hbt5,hS5⟩;clear hrm;go_wp2_with fail;go_meet
     case rel=>exact ⟨B2,g2,hS5,hgd2,But.belTo (But.belTo hbr hbt4 (by simpa using hqw)) hbt5 (by simpa using hqw),hbtr.trans (hbt4.trans hbt5),hg2a,by omega,hz2,fun hT=>by rw [hback.out hT];simp⟩
    ·have hd:decide ((B.length:Int)<8)=false:=decide_eq_false (by omega);clear hcell;go_wp2_with fail;go_meet
     case rel=>exact ⟨B.map offW,gx,HSr.out,by have:=offW_good HG.out 0;rwa [List.drop_zero] at this,hbr,hbtr,hgx0,by omega,HGN.out,fun _=>by simp⟩
   case rest=>
    clear HSr HGN hgx0 hgx1 hbr hbtr f14;have HF:=Hid.mk hcut;clear hcut;go_wp2;go_loopg [8] B.length (fun r vi wr=>∃i:Nat,r=B.length - i∧i≤B.length∧vi= .int .i64 i∧FrI w w3 q2 on B i wr)
    case atStart=>exact ⟨0,by omega,by omega,rfl,HF.out⟩
    case round=>
     obtain ⟨i,hri2,hi2,rfl,Bx,gx2,hSx,hGx,hbx,hbtx,hg0,hg1,hzx,hTx⟩:=hrel;have f14:=hbx.cell c14;by_cases hil:i<B.length
     ·obtain ⟨g,rfl,x0,x1⟩:=hcell i hil;have hst:=fun wx (hS:SvcAt (.slice none 0 0) [q2] q2 on Bx gx2 wx)=>set_is [q2] q2 on Bx gx2 B[i].1 B[i].2 wx hS (by simpa using hS.lt) HON.out hGx hg0 (by omega)
      have hGx':=hGx.set B[i].1 B[i].2;have hzx':=genz_set (id:=B[i].1) (n:=B[i].2) hzx hg0;have hT':Hid (weightF B tt<0→setE Bx B[i].1 B[i].2=0∧setB Bx B[i].1 B[i].2=B.take (i+1)++(B.drop (i+1)).map offW):=fun hT=>by rw [hTx hT];exact fresh_set HG.out hil
      have hgb:0≤(if setE Bx B[i].1 B[i].2=0 then gx2+1 else gx2)∧(if setE Bx B[i].1 B[i].2=0 then gx2+1 else gx2)≤20+((i+1:Nat):Int):=by split <;>omega
      have HSx:=Hid.mk hSx;have hwti:=hwt;generalize (if setE Bx B[i].1 B[i].2=0 then gx2+1 else gx2)=g' at *;generalize setE Bx B[i].1 B[i].2=er at *;generalize setB Bx B[i].1 B[i].2=B' at *;generalize B[i].1=idi at *;generalize B[i].2=wi at *;have HZ:=Hid.mk hzx';have HGX:=Hid.mk hGx';obtain ⟨hgb1,hgb2⟩:=hgb;clear hcell hSx hGx hzx hTx hzx' hGx' HF;have hd:decide ((i:Int)<(B.length:Int))=true:=decide_eq_true (by omega);go_wp2_with fail;refine (drop_is _ _).mono ?_;rintro e w' ⟨rfl,rfl⟩;go_wp2_with fail;go_region_held3 (fun w'=>Bel w w'∧w'.cell? ⟨p,14,none⟩=some (.slice (some ⟨g,0,none⟩) B.length cb)∧w'.cell? ⟨g,i * 2,none⟩=some (.string idi)∧w'.cell? ⟨g,i * 2+1,none⟩=some (.int .i64 wi)) ((exact ⟨by (repeat (first|exact Bel.refl _|assumption|refine Bel.step_alloc ?_ _|refine Bel.step_drew ?_|refine Bel.step_drewN ?_ _|refine Bel.step_set ?_ (by simp <;>omega) _|refine Bel.trans ?_ (by assumption))),Bel.cell (a:=w) (by (repeat (first|exact Bel.refl _|assumption|refine Bel.step_alloc ?_ _|refine Bel.step_drew ?_|refine Bel.step_drewN ?_ _|refine Bel.step_set ?_ (by simp <;>omega) _|refine Bel.trans ?_ (by assumption)))) c14,Bel.cell (a:=w) (by (repeat (first|exact Bel.refl _|assumption|refine Bel.step_alloc ?_ _|refine Bel.step_drew ?_|refine Bel.step_drewN ?_ _|refine Bel.step_set ?_ (by simp <;>omega) _|refine Bel.trans ?_ (by assumption)))) x0,Bel.cell (a:=w) (by (repeat (first|exact Bel.refl _|assumption|refine Bel.step_alloc ?_ _|refine Bel.step_drew ?_|refine Bel.step_drewN ?_ _|refine Bel.step_set ?_ (by simp <;>omega) _|refine Bel.trans ?_ (by assumption)))) x1⟩)) ((go_at_call 96;refine (hst _ (HSx.out.later (Bel.step_drew (Bel.refl wr)))).mono ?_;rintro e w5 ⟨rfl,hbt,hS5⟩;have hb5:Bel w w5:=But.belTo (Bel.step_drew hbx) hbt (by simpa using hqw)))
      all_goals
       have hbt2:=(hbtx.drew).trans hbt;have HS5:=Hid.mk hS5;have h14:=hb5.cell c14;have hwtx:=hwti _ hb5;clear hS5 hbt hst hwti hwt;by_cases her:er=0
       ·subst her;have HT2:Hid (weightF B tt<0→B'=B.take (i+1)++(B.drop (i+1)).map offW):=fun hT=>(hT'.out hT).2
        clear hwtx hT';go_wp2;go_roundg (B.length - (i+1))
        case measure=>omega
        case rel=>exact ⟨i+1,rfl,by omega,by go_num,B',g',HS5.out,HGX.out,hb5,hbt2,hgb1,hgb2,HZ.out,HT2.out⟩
       ·have herb:(er !=0)=true:=by rw [bne_iff_ne];exact her
        have hT0:0≤weightF B tt:=by
         by_cases hT:weightF B tt<0
         ·exact absurd (hT'.out hT).1 her
         ·omega
        generalize weightF B tt=wtt at *;have hdw:decide (wtt≥0)=true:=decide_eq_true hT0;clear hT';go_wp2_with fail;refine hwtx.mono ?_;rintro e w6 ⟨rfl,hb6⟩;go_wp2;go_ret;exact ⟨true,rfl,hb5.trans hb6,rfl⟩
     ·obtain rfl:i=B.length:=by omega
      have hd:decide ((B.length:Int)<(B.length:Int))=false:=decide_eq_false (by omega);have hslx:=slots_is [q2] q2 on Bx gx2 wr hSx (mkF_len on Bx HON.out hGx.1);have howx:=fun wx (b:Bel wr wx)=>owners_is [q2] q2 on Bx gx2 wx (hSx.later b).svp (mkF_len on Bx HON.out hGx.1) HON.out
      have hnl2:(namesF Bx (mkF on Bx)).length≤65536:=by rw [namesF,List.length_map];exact mkF_len on Bx HON.out hGx.1
      have hol2:(ownersF on Bx gx2).length≤65536:=by rw [ownersF];simp
      have hTB:Hid (weightF B tt<0→NL=namesF Bx (mkF on Bx)∧OB=ownersF on Bx gx2):=fun hT=>by
       have hB:Bx=B:=by rw [hTx hT];simp
       subst hB;exact ⟨HNL.out,by rw [HOB.out];exact ownersF_gen on _ _ _ HGB.out hzx⟩
      generalize namesF Bx (mkF on Bx)=NX at *;generalize ownersF on Bx gx2=OX at *;have hAm:RowAt wr va NL.length (NL.map Value.string):=(hAt.out.later hbtx).unmask;have hOm:RowAt wr vo OB.length (OB.map Value.string):=(hOt.out.later hbtx).unmask;clear hcell hTx HF hGx hSx;go_wp2_with fail;refine hslx.mono ?_;rintro e w5 ⟨vx,rfl,hb5,hOx, -⟩;go_wp2_with fail;refine (howx _ hb5).mono ?_;rintro e w6 ⟨vy,rfl,hb6,hOy⟩;have hb56:=hb5.trans hb6;have hal1:=alike_is NL NX va vx w6 (hAm.later hb56) ((RowAt.of_owns hOx).later hb6) hNLl hnl2;have hal2:=fun wx (b:Bel w6 wx)=>alike_is OB OX vo vy wx ((hOm.later hb56).later b) ((RowAt.of_owns hOy).later b) hOBl hol2
      clear hslx howx hOx hOy;go_wp2_with fail;refine hal1.mono ?_;rintro e w7 ⟨x1,rfl,hb7,hx1⟩;go_wp2_with fail;refine (hal2 _ hb7).mono ?_;rintro e w8 ⟨x2,rfl,hb8,hx2⟩;have hb08:Bel w w8:=hbx.trans (hb56.trans (hb7.trans hb8));have h14:=hb08.cell c14;have hwtx:=hwt _ hb08
      have hfin:Hid (0≤weightF B tt∨(x1=true∧x2=true)):=by
       by_cases hT:weightF B tt<0
       ·exact Or.inr ⟨hx1.2 (hTB.out hT).1,hx2.2 (hTB.out hT).2⟩
       ·exact Or.inl (by omega)
      generalize weightF B tt=wtt at *;clear hal1 hal2 hx1 hx2 hTB hwt;by_cases hT0:0≤wtt
      ·have hdw:decide (wtt≥0)=true:=decide_eq_true hT0;go_wp2_with fail;refine hwtx.mono ?_;rintro e w9 ⟨rfl,hb9⟩;go_wp2;go_ret;exact ⟨true,rfl,hb08.trans hb9,rfl⟩
      ·have hdw:decide (wtt≥0)=false:=decide_eq_false hT0;obtain ⟨rfl,rfl⟩:=hfin.out.resolve_left hT0;go_wp2_with fail;refine hwtx.mono ?_;rintro e w9 ⟨rfl,hb9⟩;go_wp2;go_ret;exact ⟨true,rfl,hb08.trans hb9,rfl⟩
end Go.Proofs.YtpapdkhjdelfcabGreat
namespace Go.Proofs.YtpapdkhjdelfcabGreat
open Go.RowKit
theorem run_copy_str {P:Program} (w:World) (dT sT ty elem:TypeId) (b o dLen dCap:Nat) (t:ByteArray)
  (hu:P.underlying dT=some (.slice elem)) (hz:∀w,(Go.sizeOf elem).run P w= .ok 1 w)
  (hc:∀j,j<dLen→(w.cell? ⟨b,o+j,none⟩).isSome=true) (hf:∀j,j<dLen→w.frozen? ⟨b,o+j,none⟩=false):
  (Builtin.copy_ #[dT,sT] ty #[.slice (some ⟨b,o,none⟩) dLen dCap,.string t]).run P w= .ok (goInt (Nat.min t.size dLen)) (w.setCells b o ((t.data.toList.map fun x=>Value.int .u8 (x.toNat:Int)).take (Nat.min t.size dLen))):=by
 have hl:((t.data.toList.map fun x=>Value.int .u8 (x.toNat:Int)).take (Nat.min t.size dLen)).length=Nat.min t.size dLen:=by
  rw [List.length_take,List.length_map,←Lib.size_eq];exact Nat.min_eq_left (Nat.min_le_left _ _)
 have hle:Nat.min t.size dLen≤dLen:=Nat.min_le_right _ _
 have hst := run_storeCells_cells (P := P) b o ((t.data.toList.map fun x => Value.int .u8 (x.toNat : Int)).take (Nat.min t.size dLen)) 0 w (by rw [hl]; intro j hj; simpa using hc j (by omega)) (by rw [hl]; intro j hj; simpa using hf j (by omega)) (by
   intro v hv
   obtain ⟨x, _, rfl⟩ := List.mem_map.1 (List.mem_of_mem_take hv)
   rfl)
 simp [Builtin.copy_,run_underlying hu,Builtin.lenOf,Builtin.firstCells,hz];rw [hst];rfl
theorem own_setCells {base g n cap:Nat} {e:TypeId}:∀(vs:List Value) (o:Nat) (w:World) (xs:List Value),w.ownsRow base e 1 (.slice (some ⟨g,0,none⟩) n cap) n xs→o+vs.length≤xs.length→(w.setCells g o vs).ownsRow base e 1 (.slice (some ⟨g,0,none⟩) n cap) n (xs.take o++vs++xs.drop (o+vs.length))∧w.grownBy (w.setCells g o vs) (some g)
 |[],o,w,xs,h,_=>⟨by show w.ownsRow _ _ _ _ _ _;simpa using h,World.grownBy.refl w _⟩
 |v::r,o,w,xs,h,hl=>by
  have hl2:o<xs.length:=by simp only [List.length_cons] at hl;omega
  have hs:=World.ownsRow.stored h o v;have ih:=own_setCells r (o+1) (w.setCell ⟨g,o,none⟩ v) (xs.set o v) hs.1 (by simp only [List.length_cons,List.length_set] at hl ⊢;omega)
  have e1:(xs.set o v).take (o+1)=xs.take o++[v]:=by
   rw [List.take_succ_eq_append_getElem (by rw [List.length_set];exact hl2),List.take_set_of_le (Nat.le_refl o),List.getElem_set_self]
  have e2:(xs.set o v).drop (o+1+r.length)=xs.drop (o+1+r.length):=List.drop_set_of_lt (by omega);rw [e1,e2] at ih;refine ⟨?_,⟨ih.2.os.trans hs.2.os,ih.2.tape.trans hs.2.tape,ih.2.output.trans hs.2.output,Nat.le_trans hs.2.size ih.2.size,fun k hk hne=>(ih.2.block k (Nat.lt_of_lt_of_le hk hs.2.size) hne).trans (hs.2.block k hk hne)⟩⟩;have:=ih.1;rw [show o+(v::r).length=o+1+r.length by simp only [List.length_cons];omega];show ((w.setCell ⟨g,o,none⟩ v).setCells g (o+1) r).ownsRow _ _ _ _ _ _;simpa using this
def RSized (w:World) (n:Nat) (e:Ending) (w':World):Prop:=∃x:ByteArray,e= .returned (.string x)∧Bel w w'∧x.size=n
theorem fill_is (t:ByteArray) (n:Nat) (w:World) (hn:0<n) (hn2:n≤65536):
  Calls Tryz.prog 34 #[.string t,.int .i64 n] w (RSized w n):=by
 obtain ⟨i0,hi,hz0,hz1,hz2⟩:=info_parts Tryz.infoByte;have hsz:∀wx:World,(Go.sizeOf 5).run Tryz.prog wx= .ok 1 wx:=fun wx=>by kernel_rfl
 go_enter Tryz.func34,Tryz.ntmps34;go_wp2_with (first|(at_make;refine wpList_make_full _ rfl _ _ 105 rfl w.heap.size 5 i0 (.int .u8 0) 1 Tryz.underlying105 hi hz0 hz1 _ _ _ _ n rfl rfl rfl rfl ?b2 ?b3 ?b4 ?_))
 case b2=>first|omega|(rw [hz2];omega)
 case b3=>unfold maxLen;omega
 case b4=>exact Nat.le_refl _
 intro w1 hown1 hgrow1;have hb1:Bel w w1:=(Bel.refl _).grown hgrow1 (fun g hg=>by cases hg)
 have hcs:(madeCells #[Value.int .u8 0] n).toList=(List.replicate n (0:UInt8)).map byteV:=by
  rw [toList_madeCells_one,List.map_replicate];rfl
 have hown:w1.ownsRow w.heap.size 5 1 (.slice (some ⟨w.heap.size,0,none⟩) n n) n ((List.replicate n (0:UInt8)).map byteV):=by
  rw [←hcs];exact hown1
 have hc:∀j,j<n→(w1.cell? ⟨w.heap.size,0+j,none⟩).isSome=true:=fun j hj=>by
  rw [Nat.zero_add,World.ownsRow.cellAt hown j (by omega)];simp [hj]
 have hf:∀j,j<n→w1.frozen? ⟨w.heap.size,0+j,none⟩=false:=fun j hj=>by rw [Nat.zero_add];exact World.ownsRow.frozenAt hown j
 obtain ⟨cs,hcs2⟩:∃cs,cs=(t.data.toList.map fun x=>Value.int .u8 (x.toNat:Int)).take (Nat.min t.size n):=⟨_,rfl⟩;have hl:cs.length≤n:=by rw [hcs2,List.length_take];exact Nat.le_trans (Nat.min_le_left _ _) (Nat.min_le_right _ _)
 have h2:=own_setCells cs 0 w1 _ hown (by simp;omega)
 have hlist:(((List.replicate n (0:UInt8)).map byteV).take 0++cs++((List.replicate n (0:UInt8)).map byteV).drop (0+cs.length))=((t.data.toList.take (Nat.min t.size n))++List.replicate (n - cs.length) (0:UInt8)).map byteV:=by
  rw [hcs2,←List.map_take,List.map_append,List.map_replicate,List.map_replicate];simp;rfl
 rw [hlist] at h2;obtain ⟨bl,hbl⟩:∃bl:List UInt8,bl=(t.data.toList.take (Nat.min t.size n))++List.replicate (n - cs.length) (0:UInt8):=⟨_,rfl⟩
 have hbll:bl.length=n:=by
  have:=h2.1.1;rw [←hbl] at this;simpa using this
 rw [←hbl] at h2;have hb2:Bel w (w1.setCells w.heap.size 0 cs):=hb1.grown h2.2 (fun g hg=>by cases hg;exact Nat.le_refl _);have hcv:=conv_head (l:=bl) (by rw [hbll];exact h2.1) (by omega);have hrun:=run_copy_str (P:=Tryz.prog) w1 105 9 3 5 w.heap.size 0 n n t Tryz.underlying105 hsz hc hf;rw [←hcs2] at hrun;clear hgrow1 hown1 hown hlist h2 hbl hcs2 hc hf hcs;go_wp2;go_ret;exact ⟨_,rfl,hb2,by simpa [ByteArray.size] using hbll⟩
end Go.Proofs.YtpapdkhjdelfcabGreat
namespace Go.Proofs.YtpapdkhjdelfcabGreat
open Go.RowKit
def FSt (part:Int):Prop:=FD part
def opV (kind a b c:Int) (s:ByteArray):Value:= .agg #[.int .i64 kind,.int .i64 a,.int .i64 b,.int .i64 c,.string s]
theorem RStep.mono {W0:World} {p s:Nat} {F G:Int→Prop} {e:Ending} {w':World} (h:RStep W0 p s F e w') (hFG:∀x,F x→G x):RStep W0 p s G e w':=by
 rcases h with h|⟨h1,h2,part,h3,h4⟩
 ·exact Or.inl h
 ·exact Or.inr ⟨h1,h2,part,hFG _ h3,h4⟩
theorem step_num (W0:World) (p s:Nat) (k:KI) (a b c:Int) (S:ByteArray) (w:World) (h:KInv W0 p s k w) (hR:k.Rdy s) (ha:I64 a) (hb:I64 b):
  Calls Tryz.prog 36 #[.pointer (some ⟨p,0,none⟩),opV 1 a b c S] w (RStep W0 p (s+1) FSt):=by
 have hpk:=fun wx=>pick_is a 5 wx ha (by omega) (by omega)
 obtain ⟨h1,h2⟩:=pickF_range a 5 (by omega);generalize pickF a 5=k5 at *;have hnu:=fun wx (b':Bel w wx)=>number_is W0 p s k k5 b wx (h.later b') hR h1 h2 hb
 clear h;unfold opV;go_enter Tryz.func36,Tryz.ntmps36;go_wp2_with fail;refine (hpk _).mono ?_;rintro e w' ⟨rfl,rfl⟩;go_wp2_with fail;refine (hnu _ (by (repeat (first|exact Bel.refl _|assumption|refine Bel.step_alloc ?_ _|refine Bel.step_drew ?_|refine Bel.step_drewN ?_ _|refine Bel.step_set ?_ (by simp <;>omega) _|refine Bel.trans ?_ (by assumption))))).mono ?_;rintro e w2 ⟨rfl,k2,hk2,hR2⟩;have HK:=Hid.mk hk2;clear hk2 hnu hpk;go_wp2;go_ret;exact Or.inl ⟨rfl,k2,HK.out.up (by omega),hR2.up (by omega)⟩
theorem step_key (W0:World) (p s:Nat) (k:KI) (a b c:Int) (S:ByteArray) (w:World) (h:KInv W0 p s k w) (hR:k.Rdy s):
  Calls Tryz.prog 36 #[.pointer (some ⟨p,0,none⟩),opV 2 a b c S] w (RStep W0 p (s+1) FSt):=by
 have hfi:=fun wx=>fill_is S 16 wx (by omega) (by omega)
 have HI:=Hid.mk h;have c5:=h.at_.1 5 _ rfl;have f5:=h.at_.2 5 (by rw [wl_len];decide);clear h;unfold opV;go_enter Tryz.func36,Tryz.ntmps36;go_wp2_with fail;refine (hfi _).mono ?_;rintro e w2 ⟨x,rfl,hb2,hx⟩;have hbw:Bel w w2:=(Bel.step_alloc (Bel.refl w) _).trans hb2;have d5:=hbw.cell c5;have g5:=hbw.frozen c5 f5;have hI2:=HI.out.later hbw;have HW:=Hid.mk (hI2.at_.set 5 (.string x));have hcO:=hI2.cok;have hok:Hid (Cfg.OK {k.c with key:=x}):=⟨hcO.1,hcO.2.1,hcO.2.2.1,hcO.2.2.2.1,hcO.2.2.2.2.1,hcO.2.2.2.2.2.1,hcO.2.2.2.2.2.2.1,hcO.2.2.2.2.2.2.2.1,hcO.2.2.2.2.2.2.2.2.1,hx,hcO.2.2.2.2.2.2.2.2.2.2.1,hcO.2.2.2.2.2.2.2.2.2.2.2⟩;have HI2:=Hid.mk hI2;clear hI2 hcO hfi c5 f5 hb2 hx;go_wp2;go_ret;exact Or.inl ⟨rfl,_,(HI2.out.setW (c':={k.c with key:=x}) (part':=k.part) ((But.refl _ _).set (by simp) _) HW.out hok.out HI2.out.isz).up (by omega),hR.up (by omega)⟩
theorem step_new (W0:World) (p s:Nat) (k:KI) (a b c:Int) (S:ByteArray) (w:World) (h:KInv W0 p s k w) (_hR:k.Rdy s):
  Calls Tryz.prog 36 #[.pointer (some ⟨p,0,none⟩),opV 3 a b c S] w (RStep W0 p (s+1) FSt):=by
 have hbg:=fun wx (b':Bel w wx)=>kbegin_is W0 p (s+1) k.part k.c _ _ _ _ _ _ _ _ _ _ _ _ _ wx ((h.later b').at_:WAt p (wl0 k.part k.c [.pointer (some ⟨k.q,0,none⟩),.int .i64 k.on.alg,.int .i64 k.on.slots,.int .i64 k.on.points,.int .i64 k.on.probes,.string k.on.key,.int .i64 k.on.formats,k.vb,k.vw,k.vs,k.vh,k.vf,.string k.img]) wx) h.cok (h.later b').bel (h.lt p (h.inM p h.p_in)).1
 clear h;unfold opV;go_enter Tryz.func36,Tryz.ntmps36;go_wp2_with fail;refine (hbg _ (by (repeat (first|exact Bel.refl _|assumption|refine Bel.step_alloc ?_ _|refine Bel.step_drew ?_|refine Bel.step_drewN ?_ _|refine Bel.step_set ?_ (by simp <;>omega) _|refine Bel.trans ?_ (by assumption))))).mono ?_;rintro e w2 ⟨rfl,k2,hk2,hR2⟩;have HK:=Hid.mk hk2;clear hk2 hbg;go_wp2;go_ret;exact Or.inl ⟨rfl,k2,HK.out,hR2⟩
theorem step_delta (W0:World) (p s:Nat) (k:KI) (a b c:Int) (S:ByteArray) (w:World) (h:KInv W0 p s k w) (hR:k.Rdy s) (hs:s≤65600) (ha:I64 a) (hb:I64 b) (hS:S.size≤maxLen):
  Calls Tryz.prog 36 #[.pointer (some ⟨p,0,none⟩),opV 4 a b c S] w (RStep W0 p (s+1) FSt):=by
 have hdl:=fun wx (b':Bel w wx)=>delta_is W0 p s k a b S wx (h.later b') hR hs ha hb hS
 clear h;unfold opV;go_enter Tryz.func36,Tryz.ntmps36;go_wp2_with fail;refine (hdl _ (by (repeat (first|exact Bel.refl _|assumption|refine Bel.step_alloc ?_ _|refine Bel.step_drew ?_|refine Bel.step_drewN ?_ _|refine Bel.step_set ?_ (by simp <;>omega) _|refine Bel.trans ?_ (by assumption))))).mono ?_;intro e w2 hr;rcases hr with ⟨rfl,k2,hk2,hR2⟩|⟨rfl,hb2,part,hF,hcell⟩
 ·have HK:=Hid.mk hk2;clear hk2 hdl;go_wp2;go_ret;exact Or.inl ⟨rfl,k2,HK.out,hR2⟩
 ·have HC:=Hid.mk hcell;clear hdl hcell;go_wp2;go_ret;exact Or.inr ⟨rfl,hb2,part,hF,HC.out⟩
theorem step_drop (W0:World) (p s:Nat) (k:KI) (a b c:Int) (S:ByteArray) (w:World) (h:KInv W0 p s k w) (hR:k.Rdy s):
  Calls Tryz.prog 36 #[.pointer (some ⟨p,0,none⟩),opV 5 a b c S] w (RStep W0 p (s+1) FSt):=by
 have HI:=Hid.mk h;have c7:=h.at_.1 7 _ rfl;have hplt:=h.at_.lt (by rw [wl_len];decide);clear h;unfold opV;go_enter Tryz.func36,Tryz.ntmps36;go_wp2_with fail;refine (drop_is _ _).mono ?_;rintro e w2 ⟨rfl,rfl⟩;go_wp2;go_ret;exact Or.inl ⟨rfl,k,(HI.out.later (by (repeat (first|exact Bel.refl _|assumption|refine Bel.step_alloc ?_ _|refine Bel.step_drew ?_|refine Bel.step_drewN ?_ _|refine Bel.step_set ?_ (by simp <;>omega) _|refine Bel.trans ?_ (by assumption))))).up (by omega),hR.up (by omega)⟩
theorem step_same (W0:World) (p s:Nat) (k:KI) (a b c:Int) (S:ByteArray) (w:World) (h:KInv W0 p s k w) (hR:k.Rdy s):
  Calls Tryz.prog 36 #[.pointer (some ⟨p,0,none⟩),opV 12 a b c S] w (RStep W0 p (s+1) FSt):=by
 have hfr:=fun wx (b':Bel w wx)=>fresh_is W0 p s k wx (h.later b')
 have HI:=Hid.mk h;clear h;unfold opV;go_enter Tryz.func36,Tryz.ntmps36;go_wp2_with fail;refine (hfr _ (by (repeat (first|exact Bel.refl _|assumption|refine Bel.step_alloc ?_ _|refine Bel.step_drew ?_|refine Bel.step_drewN ?_ _|refine Bel.step_set ?_ (by simp <;>omega) _|refine Bel.trans ?_ (by assumption))))).mono ?_;rintro e w2 ⟨x,rfl,hb2,rfl⟩;have hbw:Bel w w2:=(Bel.step_alloc (Bel.refl w) _).trans hb2;clear hfr;go_wp2;go_ret;exact Or.inl ⟨rfl,k,(HI.out.later hbw).up (by omega),hR.up (by omega)⟩
end Go.Proofs.YtpapdkhjdelfcabGreat
