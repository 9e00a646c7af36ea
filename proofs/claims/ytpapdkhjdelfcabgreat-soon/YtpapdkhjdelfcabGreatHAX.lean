import Derived.Test.YtpapdkhjdelfcabGreatHAW
set_option maxRecDepth 100000
set_option maxHeartbeats 4000000
namespace Go.Proofs.YtpapdkhjdelfcabGreat
open Go.RowKit
abbrev Chg:=Nat×Nat×Nat×List BK×Nat×Nat×List EI
def chgEnd (b s g:Nat) (B:List BK) (ah bh:Nat) (M:List EI) (o:Option (List Bool)):Option Chg:=if endP o=true then some (b,s,g,B,ah,bh,M) else none
def chgM (alg:Int) (b s g:Nat) (B:List BK) (ah bh n:Nat):Option (List Bool)→Option Chg:=stage (manyP (oneEn (wpF alg) (woF 1 alg B.length)) n) fun M=>chgEnd b s g B ah bh M
def cutX:List Bool→Option ((Nat×Nat×Nat)×List Bool):=thenP (numP 16) fun ah=>thenP (numP 16) fun bh=>thenP (numP 16) fun n=>doneP (ah,bh,n)
def chgC (alg:Int) (b s g:Nat) (B:List BK):Option (List Bool)→Option Chg:=stage cutX fun y=>chgM alg b s g B y.1 y.2.1 y.2.2
def chgBk (alg:Int) (b s g:Nat):Option (List Bool)→Option Chg:=stage bksX fun B o=>haveI:=decGood B;if Good B then chgC alg b s g B o else none
def baseX:List Bool→Option ((Nat×Nat×Nat)×List Bool):=thenP (numP 32) fun b=>thenP (numP 32) fun s=>thenP (numP 32) fun g=>doneP (b,s,g)
def chgH (alg:Int):Option (List Bool)→Option Chg:=stage baseX fun y=>chgBk alg y.1 y.2.1 y.2.2
def chgT (alg:Int):Option (List Bool)→Option Chg:=stage (textP 2) fun t o=>if t=[67,80] then chgH alg o else none
def changeP (alg:Int) (l:List UInt8):Option Chg:=(openB l).bind fun b=>chgT alg (some (bytesBits b))
theorem chgEnd_none (b s g:Nat) (B:List BK) (ah bh:Nat) (M:List EI):chgEnd b s g B ah bh M none=none:=by unfold chgEnd endP;exact if_neg (fun h=>by cases h)
theorem chgT_step {alg:Int} {o o':Option (List Bool)} {t:List UInt8} (h:o.bind (textP 2)=o'.map (Prod.mk t)):chgT alg o=if t=[67,80] then chgH alg o' else none:=stage_eq h (by split <;>rfl)
theorem chgH_step {alg:Int} {o o':Option (List Bool)} {b s g:Nat} (h:o.bind baseX=o'.map (Prod.mk (b,s,g))):chgH alg o=chgBk alg b s g o':=stage_eq h rfl
theorem chgBk_step {alg:Int} {o o':Option (List Bool)} {b s g:Nat} {B:List BK} (h:o.bind bksX=o'.map (Prod.mk B)):chgBk alg b s g o=haveI:=decGood B;if Good B then chgC alg b s g B o' else none:=stage_eq h (by split <;>rfl)
theorem chgC_step {alg:Int} {o o':Option (List Bool)} {b s g ah bh n:Nat} {B:List BK} (h:o.bind cutX=o'.map (Prod.mk (ah,bh,n))):chgC alg b s g B o=chgM alg b s g B ah bh n o':=stage_eq h rfl
theorem chgM_step {alg:Int} {o o':Option (List Bool)} {b s g ah bh n:Nat} {B:List BK} {M:List EI} (h:o.bind (manyP (oneEn (wpF alg) (woF 1 alg B.length)) n)=o'.map (Prod.mk M)):chgM alg b s g B ah bh n o=chgEnd b s g B ah bh M o':=stage_eq h (chgEnd_none ..)
def chgNo:Value:= .tuple #[.agg #[.int .i64 0,.int .u32 0,.int .i64 0,.slice none 0 0,.int .i64 0,.int .i64 0,.slice none 0 0],.bool false]
def RChg (w:World) (o:Option Chg) (e:Ending) (w':World):Prop:=Bel w w'∧match o with
 |none=>e= .returned chgNo
 |some (b,s,g,B,ah,bh,M)=>∃vP vM,e= .returned (.tuple #[chgV b s g vP ah bh vM,.bool true])∧OwnB w.heap.size w' vP B∧OwnE w.heap.size w' vM M
theorem Bel.sets7 {w V:World} {r:Nat} (h:Bel w V) (hr:w.heap.size≤r) (u0 u1 u2 u3 u4 u5 u6:Value):Bel w (((((((V.setCell ⟨r,0,none⟩ u0).setCell ⟨r,1,none⟩ u1).setCell ⟨r,2,none⟩ u2).setCell ⟨r,3,none⟩ u3).setCell ⟨r,4,none⟩ u4).setCell ⟨r,5,none⟩ u5).setCell ⟨r,6,none⟩ u6):=
 (h.sets6 hr u0 u1 u2 u3 u4 u5).step_set (p:=⟨r,6,none⟩) hr _
theorem readc_is (t:ByteArray) (alg:Int) (w:World) (ht:t.size≤1099511627776):
  Calls Tryz.prog 201 #[.string t,.int .i64 alg] w (RChg w (changeP alg t.data.toList)):=by
 have HR:=Hid.mk (BoxC.new w 224 #[.int .i64 0,.int .u32 0,.int .i64 0,.slice none 0 0,.int .i64 0,.int .i64 0,.slice none 0 0]);cases hO:openB t.data.toList with
 |none=>
  have hno:Hid (changeP alg t.data.toList=none):=by show _=_;simp [changeP,hO]
  have H0:=fun wx=>opened_is t wx ht
  rw [hO] at H0;unfold ROpen openV at H0;go_enter Tryz.func201,Tryz.ntmps201;go_wp2_with fail;refine (H0 _).mono ?_;rintro e w1 ⟨rfl,hb1⟩;have R1:=HR.out.bel hb1;have r0:=R1.cell 0 rfl;have s0:=R1.free 0;have r1:=R1.cell 1 rfl;have s1:=R1.free 1;have r2:=R1.cell 2 rfl;have s2:=R1.free 2;have r3:=R1.cell 3 rfl;have s3:=R1.free 3;have r4:=R1.cell 4 rfl;have s4:=R1.free 4;have r5:=R1.cell 5 rfl;have s5:=R1.free 5;have r6:=R1.cell 6 rfl;have s6:=R1.free 6;have HB1:Hid (Bel w w1):=((Bel.refl w).step_alloc _).trans hb1;clear R1 HR hb1 H0;go_wp2;rw [hno.out];exact bodyPost_ret (v:=chgNo) (by simp [chgNo,results,Tryz.results201,go_sem,r0,r1,r2,r3,r4,r5,r6]) rfl ⟨HB1.out.sets7 (Nat.le_refl _) _ _ _ _ _ _ _,rfl⟩
 |some b0=>
  have hI0:Hid (changeP alg t.data.toList=chgT alg (some (bytesBits b0))):=by show _=_;simp [changeP,hO]
  have H0:=fun wx=>opened_is t wx ht
  rw [hO] at H0;unfold ROpen openV at H0;go_enter Tryz.func201,Tryz.ntmps201;go_wp2_with fail;refine (H0 _).mono ?_;rintro e w1 ⟨rfl,hb1⟩;go_wp2_with fail;refine (read_is _ _).mono ?_;rintro e w2 ⟨rfl,hb2⟩;obtain ⟨W0,hW0⟩:∃W0,W0=w.alloc (.cells #[.int .i64 0,.int .u32 0,.int .i64 0,.slice none 0 0,.int .i64 0,.int .i64 0,.slice none 0 0] 224):=⟨_,rfl⟩;rw [←hW0] at HR hb1;have hS0:=Rs.new w2 b0 151;have hB0:But [w2.heap.size] W0 (w2.alloc (.cells #[.string (txt b0),.int .u64 0,.bool false] 151)):=But.of_bel ((hb1.trans hb2).step_alloc _);have H1:=Hid.mk (rtext_p w2.heap.size _ 2 _ hS0 (by omega));have hp0:W0.heap.size≤w2.heap.size:=(hb1.trans hb2).size;have hrp:Hid (w.heap.size<W0.heap.size):=by show _<_;rw [hW0];simp
  have hw0:Hid (Bel w W0):=by show Bel w W0;rw [hW0];exact (Bel.refl w).step_alloc _
  have HB0:=Hid.mk hB0;have HR0:=HR;clear hb1 hb2 H0 hS0 hB0 hW0 HR;go_wp2_with fail;refine H1.out.mono ?_;rintro e w3 ⟨l,o1,rfl,hB3,hR3,hl3,hq1⟩;have HB3:=Hid.mk (HB0.out.trans hB3);have HR3:=Hid.mk hR3;have hI1:Hid (changeP alg t.data.toList=if l=[67,80] then chgH alg o1 else none):=hI0.out.trans (chgT_step hq1);have hte:((txt l).toList==[67,80])=decide (l=[67,80]):=txt_is l [67,80];clear hB3 hR3 hl3 hq1 H1 HB0 hI0;by_cases hl:l=[67,80]
  rotate_left
  ·have hte2:((txt l).toList==[67,80])=false:=by rw [hte];exact decide_eq_false hl
   clear hte;have R:=HR0.out.but (HB3.out) (by have:=hrp.out;simp;omega);have HW:=Hid.mk (But.belTo hw0.out (HB3.out) (fun j hj=>by have:=hrp.out;simp at hj;omega));have r0:=R.cell 0 rfl;have s0:=R.free 0;have r1:=R.cell 1 rfl;have s1:=R.free 1;have r2:=R.cell 2 rfl;have s2:=R.free 2;have r3:=R.cell 3 rfl;have s3:=R.free 3;have r4:=R.cell 4 rfl;have s4:=R.free 4;have r5:=R.cell 5 rfl;have s5:=R.free 5;have r6:=R.cell 6 rfl;have s6:=R.free 6;have hfin:Hid (changeP alg t.data.toList=none):=by rw [if_neg hl] at hI1;exact hI1
   clear R hl HB3 HR3;go_wp2;rw [hfin.out];exact bodyPost_ret (v:=chgNo) (by simp [chgNo,results,Tryz.results201,go_sem,r0,r1,r2,r3,r4,r5,r6]) rfl ⟨HW.out.sets7 (Nat.le_refl _) _ _ _ _ _ _ _,rfl⟩
  rw [if_pos hl] at hI1;have hte2:((txt l).toList==[67,80])=true:=by rw [hte];exact decide_eq_true hl
  have HS:=Hid.mk (St.new (tq:=224) (qc:=#[.int .i64 0,.int .u32 0,.int .i64 0,.slice none 0 0,.int .i64 0,.int .i64 0,.slice none 0 0]) HB3.out HR3.out);clear hte hl HB3 HR3;have K0:=Hid.mk (rint_p _ _ 4 _ HS.out.rs (by omega));go_wp2_with fail;refine K0.out.mono ?_;rintro e v0 ⟨b,a0,rfl,hB,hR,hlt0,hq0⟩;replace HS:=Hid.mk (HS.out.read hB hR);have g0:=HS.out.box.cell 0 rfl;have k0:=HS.out.box.free 0;replace HS:=Hid.mk (HS.out.put 0 (.int .i64 (b:Int)) (qc':=#[.int .i64 (b:Int),.int .u32 0,.int .i64 0,.slice none 0 0,.int .i64 0,.int .i64 0,.slice none 0 0]) rfl);have P0:=Hid.mk hq0;clear hB hR hq0 K0;clear hlt0;have K1:=Hid.mk (rnum_p _ _ 32 _ HS.out.rs (by omega));go_wp2_with fail;refine K1.out.mono ?_;rintro e v1 ⟨s,a1,rfl,hB,hR,hlt1,hq1⟩;replace HS:=Hid.mk (HS.out.read hB hR);have hs32:s<4294967296:=hlt1;have hU:IntKind.u32.wrap (s:Int)=(s:Int):=by rw [IntKind.wrap_u32];omega
  have g1:=HS.out.box.cell 1 rfl;have k1:=HS.out.box.free 1;replace HS:=Hid.mk (HS.out.put 1 (.int .u32 (s:Int)) (qc':=#[.int .i64 (b:Int),.int .u32 (s:Int),.int .i64 0,.slice none 0 0,.int .i64 0,.int .i64 0,.slice none 0 0]) rfl);have P1:=Hid.mk hq1;clear hB hR hq1 K1;clear hlt1;have K2:=Hid.mk (rint_p _ _ 4 _ HS.out.rs (by omega));go_wp2_with fail;refine K2.out.mono ?_;rintro e v2 ⟨g,a2,rfl,hB,hR,hlt2,hq2⟩;replace HS:=Hid.mk (HS.out.read hB hR);have g2:=HS.out.box.cell 2 rfl;have k2:=HS.out.box.free 2;replace HS:=Hid.mk (HS.out.put 2 (.int .i64 (g:Int)) (qc':=#[.int .i64 (b:Int),.int .u32 (s:Int),.int .i64 (g:Int),.slice none 0 0,.int .i64 0,.int .i64 0,.slice none 0 0]) rfl);have P2:=Hid.mk hq2;clear hB hR hq2 K2;clear hlt2;have hI3:Hid (changeP alg t.data.toList=chgBk alg b s g a2):=hI1.out.trans (chgH_step (then_step P0.out (then_step P1.out (then_step P2.out (done_step _)))));have H6:=Hid.mk (takeb_is _ _ _ HS.out.rs);have hp5:=HS.out.rs.lt;have hm5:=HS.out.box.lt;have hmb2:=HS.out.2.2.2.1;obtain ⟨w5,hw5⟩:∃w5,w5=v2.setCell ⟨w3.heap.size,2,none⟩ (.int .i64 (g:Int)):=⟨_,rfl⟩;have hz5:w5.heap.size=v2.heap.size:=by rw [hw5];simp
  rw [←hw5] at H6 hp5 hm5 HS;clear P0 P1 P2 hI1;go_wp2_with fail;rw [←hw5];clear hw5;refine H6.out.mono ?_;rintro e w6 ⟨B,o3,v,x,rfl,hB6,hR6,hq3,hgood,hown6⟩;replace HS:=Hid.mk (HS.out.read hB6 hR6);have hI4:=Hid.mk (hI3.out.trans (chgBk_step hq3));have HGD:=Hid.mk hgood;have HOB:=Hid.mk hown6;clear hB6 hR6 hq3 hgood hown6 H6 hI3;cases x
  ·have hq:Hid (¬Good B):=fun h=>by have:=HGD.out.2 h;cases this
   have R:=HR0.out.but (HS.out.1) (by have:=hrp.out;simp;omega);have HW:=Hid.mk (But.belTo hw0.out (HS.out.1) (fun j hj=>by have:=hrp.out;simp at hj;omega));have r0:=R.cell 0 rfl;have s0:=R.free 0;have r1:=R.cell 1 rfl;have s1:=R.free 1;have r2:=R.cell 2 rfl;have s2:=R.free 2;have r3:=R.cell 3 rfl;have s3:=R.free 3;have r4:=R.cell 4 rfl;have s4:=R.free 4;have r5:=R.cell 5 rfl;have s5:=R.free 5;have r6:=R.cell 6 rfl;have s6:=R.free 6;have hfin:Hid (changeP alg t.data.toList=none):=by show _=_;rw [hI4.out];exact if_neg hq.out
   clear R HS;go_wp2;rw [hfin.out];exact bodyPost_ret (v:=chgNo) (by simp [chgNo,results,Tryz.results201,go_sem,r0,r1,r2,r3,r4,r5,r6]) rfl ⟨HW.out.sets7 (Nat.le_refl _) _ _ _ _ _ _ _,rfl⟩
  have HG:Hid (Good B):=HGD.out.1 (by simp);replace HOB:Hid (OwnB w5.heap.size w6 v B):=HOB.out (by simp);have hI5:Hid (changeP alg t.data.toList=chgC alg b s g B o3):=by show _=_;rw [hI4.out];exact if_pos HG.out
  have h8:=HG.out.1.1;obtain ⟨aP,capP,rfl⟩:=own_sliceW HOB.out;have y8:=HS.out.box.cell 3 rfl;have z8:=HS.out.box.free 3;replace HS:=Hid.mk (HS.out.put 3 (.slice aP B.length capP) (qc':=#[.int .i64 (b:Int),.int .u32 (s:Int),.int .i64 (g:Int),.slice aP B.length capP,.int .i64 0,.int .i64 0,.slice none 0 0]) rfl);replace HOB:=Hid.mk (ownsRow_setCell_below HOB.out (a:=⟨w3.heap.size,3,none⟩) (by simp only;omega) (.slice aP B.length capP));clear HGD hI4;have K3:=Hid.mk (rint_p _ _ 2 _ HS.out.rs (by omega));go_wp2_with fail;refine K3.out.mono ?_;rintro e v3 ⟨ah,a3,rfl,hB,hR,hlt3,hq3⟩;replace HS:=Hid.mk (HS.out.read hB hR);replace HOB:=Hid.mk (own_but HOB.out hB hp5);have g3:=HS.out.box.cell 4 rfl;have k3:=HS.out.box.free 4;replace HS:=Hid.mk (HS.out.put 4 (.int .i64 (ah:Int)) (qc':=#[.int .i64 (b:Int),.int .u32 (s:Int),.int .i64 (g:Int),.slice aP B.length capP,.int .i64 (ah:Int),.int .i64 0,.slice none 0 0]) rfl);replace HOB:=Hid.mk (ownsRow_setCell_below HOB.out (a:=⟨w3.heap.size,4,none⟩) (by simp only;omega) (.int .i64 (ah:Int)));have P3:=Hid.mk hq3;clear hB hR hq3 K3;have K4:=Hid.mk (rint_p _ _ 2 _ HS.out.rs (by omega));go_wp2_with fail;refine K4.out.mono ?_;rintro e v4 ⟨bh,a4,rfl,hB,hR,hlt4,hq4⟩;replace HS:=Hid.mk (HS.out.read hB hR);replace HOB:=Hid.mk (own_but HOB.out hB hp5);have g4:=HS.out.box.cell 5 rfl;have k4:=HS.out.box.free 5;replace HS:=Hid.mk (HS.out.put 5 (.int .i64 (bh:Int)) (qc':=#[.int .i64 (b:Int),.int .u32 (s:Int),.int .i64 (g:Int),.slice aP B.length capP,.int .i64 (ah:Int),.int .i64 (bh:Int),.slice none 0 0]) rfl);replace HOB:=Hid.mk (ownsRow_setCell_below HOB.out (a:=⟨w3.heap.size,5,none⟩) (by simp only;omega) (.int .i64 (bh:Int)));have P4:=Hid.mk hq4;clear hB hR hq4 K4;have K5:=Hid.mk (rint_p _ _ 2 _ HS.out.rs (by omega));go_wp2_with fail;refine K5.out.mono ?_;rintro e v5 ⟨n,a5,rfl,hB,hR,hlt5,hq5⟩;replace HS:=Hid.mk (HS.out.read hB hR);replace HOB:=Hid.mk (own_but HOB.out hB hp5);have P5:=Hid.mk hq5;clear hB hR hq5 K5;have hn:n≤65535:=by have:(2:Nat) ^ (8 * 2)=65536:=rfl;omega
  have hI6:Hid (changeP alg t.data.toList=chgM alg b s g B ah bh n a5):=hI5.out.trans (chgC_step (then_step P3.out (then_step P4.out (then_step P5.out (done_step _)))));have hwd8:=fun wx=>widths_is 1 alg B.length wx h8
  unfold widV at hwd8;clear P3 P4 P5 hI5 hlt3 hlt4 hlt5;go_wp2_with fail;refine (hwd8 _).mono ?_;rintro e w8 ⟨rfl,hb8⟩;replace HS:=Hid.mk (HS.out.bel hb8);replace HOB:=Hid.mk (own_laterW HOB.out hb8);have hm8:=HS.out.box.lt;have hp8:=HS.out.rs.lt;have H9:=Hid.mk (takee_is _ _ (wpF alg) (woF 1 alg B.length) n _ HS.out.rs (wpF_le _) (woF_le _ _ _) hn);have hI7:Hid (∀(E:List EI) (o':Option (List Bool)),a5.bind (manyP (oneEn (wpF alg) (woF 1 alg B.length)) n)=o'.map (Prod.mk E)→changeP alg t.data.toList=chgEnd b s g B ah bh E o'):=fun E o' h=>hI6.out.trans (chgM_step h)
  clear hb8 hwd8 hI6;generalize wpF alg=wp at *;generalize woF 1 alg B.length=wo at *;go_wp2_with fail;refine H9.out.mono ?_;rintro e w9 ⟨M,o5,vM,rfl,hB9,hR9,hq5,hOE,hEl,hEn⟩;replace HS:=Hid.mk (HS.out.read hB9 hR9);replace HOB:=Hid.mk (own_but HOB.out hB9 hp5);obtain ⟨aE,capE,rfl⟩:=own_sliceW hOE;have HOE:=Hid.mk hOE;have hI8:=Hid.mk (hI7.out M o5 hq5);have y9:=HS.out.box.cell 6 rfl;have z9:=HS.out.box.free 6;replace HS:=Hid.mk (HS.out.put 6 (.slice aE M.length capE) (qc':=#[.int .i64 (b:Int),.int .u32 (s:Int),.int .i64 (g:Int),.slice aP B.length capP,.int .i64 (ah:Int),.int .i64 (bh:Int),.slice aE M.length capE]) rfl);replace HOB:=Hid.mk (ownsRow_setCell_below HOB.out (a:=⟨w3.heap.size,6,none⟩) (by simp only;omega) (.slice aE M.length capE));replace HOE:=Hid.mk (ownsRow_setCell_below HOE.out (a:=⟨w3.heap.size,6,none⟩) (by simp only;omega) (.slice aE M.length capE));have H10:=Hid.mk (rover_p _ _ _ HS.out.rs);clear hB9 hR9 hq5 hOE H9 hI7;go_wp2_with fail;refine H10.out.mono ?_;rintro e w10 ⟨rfl,hb10⟩;replace HS:=Hid.mk (HS.out.bel hb10);replace HOB:=Hid.mk (own_laterW HOB.out hb10);replace HOE:=Hid.mk (own_laterW HOE.out hb10);clear hb10 H10 y9 z9;cases hx:endP o5
  ·have hq:Hid (¬endP o5=true):=fun h=>by rw [hx] at h;cases h
   have R:=HR0.out.but (HS.out.1) (by have:=hrp.out;simp;omega);have HW:=Hid.mk (But.belTo hw0.out (HS.out.1) (fun j hj=>by have:=hrp.out;simp at hj;omega));have r0:=R.cell 0 rfl;have s0:=R.free 0;have r1:=R.cell 1 rfl;have s1:=R.free 1;have r2:=R.cell 2 rfl;have s2:=R.free 2;have r3:=R.cell 3 rfl;have s3:=R.free 3;have r4:=R.cell 4 rfl;have s4:=R.free 4;have r5:=R.cell 5 rfl;have s5:=R.free 5;have r6:=R.cell 6 rfl;have s6:=R.free 6;have hfin:Hid (changeP alg t.data.toList=none):=by show _=_;rw [hI8.out];exact if_neg hq.out
   clear R HS;go_wp2;rw [hfin.out];exact bodyPost_ret (v:=chgNo) (by simp [chgNo,results,Tryz.results201,go_sem,r0,r1,r2,r3,r4,r5,r6]) rfl ⟨HW.out.sets7 (Nat.le_refl _) _ _ _ _ _ _ _,rfl⟩
  have hfin:Hid (changeP alg t.data.toList=some (b,s,g,B,ah,bh,M)):=by show _=_;rw [hI8.out];exact if_pos hx
  have R:=HR0.out.but HS.out.1 (by have:=hrp.out;simp;omega);have HW:=Hid.mk (But.belTo hw0.out HS.out.1 (fun j hj=>by have:=hrp.out;simp at hj;omega));have B11:=HS.out.box;have r0:=R.cell 0 rfl;have s0:=R.free 0;have r1:=R.cell 1 rfl;have s1:=R.free 1;have r2:=R.cell 2 rfl;have s2:=R.free 2;have r3:=R.cell 3 rfl;have s3:=R.free 3;have r4:=R.cell 4 rfl;have s4:=R.free 4;have r5:=R.cell 5 rfl;have s5:=R.free 5;have r6:=R.cell 6 rfl;have s6:=R.free 6;have d0:=B11.cell 0 rfl;have e0:=B11.free 0;have d1:=B11.cell 1 rfl;have e1:=B11.free 1;have d2:=B11.cell 2 rfl;have e2:=B11.free 2;have d3:=B11.cell 3 rfl;have e3:=B11.free 3;have d4:=B11.cell 4 rfl;have e4:=B11.free 4;have d5:=B11.cell 5 rfl;have e5:=B11.free 5;have d6:=B11.cell 6 rfl;have e6:=B11.free 6;clear R B11 HS;go_wp2;rw [hfin.out];refine bodyPost_ret (v:= .tuple #[chgV b s g (.slice aP B.length capP) ah bh (.slice aE M.length capE),.bool true]) (by simp [chgV,results,Tryz.results201,go_sem,r0,r1,r2,r3,r4,r5,r6]) rfl ⟨HW.out.sets7 (Nat.le_refl _) _ _ _ _ _ _ _,_,_,rfl,?_,?_⟩
  ·refine OwnB.mono (b:=w5.heap.size) ?_ (by have:=hrp.out;omega)
   iterate 7 (refine ownsRow_setCell_below ?_ (by have:=hrp.out;simp only;omega) _)
   exact HOB.out
  ·refine World.ownsRow.mono (base:=w8.heap.size) ?_ (by have:=hrp.out;omega)
   iterate 7 (refine ownsRow_setCell_below ?_ (by have:=hrp.out;simp only;omega) _)
   exact HOE.out
end Go.Proofs.YtpapdkhjdelfcabGreat
namespace Go.Proofs.YtpapdkhjdelfcabGreat
open Go.RowKit
theorem stage_some {α β:Type} {P:List Bool→Option (α×List Bool)} {k:α→Option (List Bool)→Option β} {o:Option (List Bool)} {r:β} (h:stage P k o=some r):∃X a Y,o=some X∧P X=some (a,Y)∧k a (some Y)=some r:=by
 unfold stage at h;cases o with
 |none=>cases h
 |some X=>
  have h':(P X).bind (fun y=>k y.1 (some y.2))=some r:=h;cases hP:P X with
  |none=>rw [hP] at h';cases h'
  |some y=>rw [hP] at h';exact ⟨X,y.1,y.2,rfl,hP,h'⟩
theorem numP_lt {W x:Nat} {X Y:List Bool} (h:numP W X=some (x,Y)):x<2 ^ W∧X=numBits x W++Y:=by
 unfold numP at h;split at h
 ·cases h
 ·rename_i hl;injection h with h
  injection h with h1 h2
  have ht:(X.take W).length=W:=by rw [List.length_take];omega
  have hv:=valB_lt (X.take W);rw [ht,h1] at hv;refine ⟨hv,?_⟩;have:=num_valB (X.take W);rw [ht,h1] at this;rw [this,←h2,List.take_append_drop]
theorem oneEn_some {wp wo:Nat} {e:EI} {X Y:List Bool} (h:oneEn wp wo X=some (e,Y)):∃x y:Nat,e=((x:Int),(y:Int))∧x<2 ^ wp∧y<2 ^ wo∧X=numBits x wp++(numBits y wo++Y):=by
 unfold oneEn thenP doneP at h;cases h1:numP wp X with
 |none=>rw [h1] at h;cases h
 |some y1=>
  rw [h1] at h;have h':(numP wo y1.2).bind (fun y=>some (((y1.1:Int),(y.1:Int)),y.2))=some (e,Y):=h;cases h2:numP wo y1.2 with
  |none=>rw [h2] at h';cases h'
  |some y2=>
   rw [h2] at h';have h3:(((y1.1:Int),(y2.1:Int)),y2.2)=(e,Y):=by simpa using h'
   injection h3 with h4 h5
   have k1:=numP_lt (x:=y1.1) (Y:=y1.2) h1;have k2:=numP_lt (x:=y2.1) (Y:=y2.2) h2;exact ⟨y1.1,y2.1,h4.symm,k1.1,k2.1,by rw [k1.2,k2.2,h5]⟩
theorem many_all {α:Type} {P:List Bool→Option (α×List Bool)} {Q:α→Prop} (hP:∀X a Y,P X=some (a,Y)→Q a):∀(n:Nat) (X:List Bool) (L:List α) (Y:List Bool),manyP P n X=some (L,Y)→L.length=n∧∀a∈L,Q a:=by
 intro n
 induction n with
 |zero=>
  intro X L Y h;have:(([]:List α),X)=(L,Y):=by simpa [manyP] using h
  injection this with h1 h2
  subst h1;exact ⟨rfl,fun a ha=>by cases ha⟩
 |succ n ih=>
  intro X L Y h;rw [manyP] at h;cases h1:manyP P n X with
  |none=>rw [h1] at h;cases h
  |some y=>
   rw [h1] at h;have h':(P y.2).map (fun z=>(y.1++[z.1],z.2))=some (L,Y):=h;cases h2:P y.2 with
   |none=>rw [h2] at h';cases h'
   |some z=>
    rw [h2] at h';have h3:(y.1++[z.1],z.2)=(L,Y):=by simpa using h'
    injection h3 with h4 h5
    obtain ⟨k1,k2⟩:=ih X y.1 y.2 h1;rw [←h4];refine ⟨by simp [k1],fun a ha=>?_⟩;rcases List.mem_append.1 ha with ha|ha
    ·exact k2 a ha
    ·obtain rfl:=List.mem_singleton.1 ha;exact hP _ _ z.2 h2
structure ImgOK (f g:Nat) (c:Cfg) (B:List BK) (E:List EI):Prop where
 fmt:1≤f∧f≤2
 tok:c.TOK
 good:Good B
 right:RightG g c B E
 pts:∀e∈E,0≤e.1∧e.1<18446744073709551616
 none:c.formats=0
theorem cntF_le {c:Cfg} {B:List BK} (hc:c.TOK) (hB:PoolOK B):cntF c B≤255:=by
 have h1:=wSum_le hB;have h2:=eachF_le hc;obtain ⟨t1,t2,t3,t4, -⟩:=hc;unfold cntF;split
 ·omega
 ·split
  ·have:eachF c * wSum B≤3 * 48:=Int.mul_le_mul h2.2 h1.2 h1.1 (by omega);omega
  ·omega
theorem ImgOK.len {f g:Nat} {c:Cfg} {B:List BK} {E:List EI} (h:ImgOK f g c B E):E.length≤255:=by
 have h1:=h.right.2.1;have h2:=cntF_le h.tok h.good.1;omega
theorem ImgOK.ents {f g:Nat} {c:Cfg} {B:List BK} {E:List EI} (h:ImgOK f g c B E):∀e∈E,EntOK e∧0≤e.2∧e.2<8:=fun e he=>by
 obtain ⟨j,hj,h1,h2⟩:=h.right.2.2.1 e he;have h3:=h.pts e he;have h4:=h.good.1.1;exact ⟨⟨h3.1,h3.2,by omega,by omega⟩,by omega,by omega⟩
theorem headX_some {f g:Nat} {c:Cfg} {X Y:List Bool} (h:headX X=some ((f,g,c),Y)):c.formats=0:=by
 unfold headX thenP doneP at h;revert h;cases numP 8 X with
 |none=>intro h;cases h
 |some y1=>
  simp only [Option.bind_some];cases numP 8 y1.2 with
  |none=>intro h;cases h
  |some y2=>
   simp only [Option.bind_some];cases numP 32 y2.2 with
   |none=>intro h;cases h
   |some y3=>
    simp only [Option.bind_some];cases numP 16 y3.2 with
    |none=>intro h;cases h
    |some y4=>
     simp only [Option.bind_some];cases numP 8 y4.2 with
     |none=>intro h;cases h
     |some y5=>
      simp only [Option.bind_some];cases numP 8 y5.2 with
      |none=>intro h;cases h
      |some y6=>
       simp only [Option.bind_some];cases textP 16 y6.2 with
       |none=>intro h;cases h
       |some y7=>
        intro h;injection h with h
        injection h with h _
        injection h with _ h
        injection h with _ h
        rw [←h]
theorem imageP_ok {l:List UInt8} {f g:Nat} {c:Cfg} {B:List BK} {E:List EI} (h:imageP l=some (f,g,c,B,E)):ImgOK f g c B E:=by
 unfold imageP at h;cases hO:openB l with
 |none=>rw [hO] at h;cases h
 |some b=>
  rw [hO] at h;have h':imgT (some (bytesBits b))=some (f,g,c,B,E):=h;obtain ⟨X1,t,Y1, -, -,h1⟩:=stage_some h';split at h1
  ·obtain ⟨X2,hd,Y2, -,hh,h2⟩:=stage_some h1;split at h2
   ·rename_i hfm;obtain ⟨X3,B3,Y3, -, -,h3⟩:=stage_some h2;split at h3
    ·rename_i hgd;obtain ⟨X4,n,Y4, -, -,h4⟩:=stage_some h3;obtain ⟨X5,E5,Y5, -,hm,h5⟩:=stage_some h4;unfold imgEnd at h5;split at h5
     ·rename_i hr;injection h5 with h5
      obtain ⟨f0,g0,c0⟩:=hd;simp only at *;injection h5 with e1 h5
      injection h5 with e2 h5
      injection h5 with e3 h5
      injection h5 with e4 e5
      subst e1 e2 e3 e4 e5
      exact ⟨hfm.1, hfm.2, hgd, hr.2, fun e he => by
        have := (many_all (Q := fun e : EI => 0 ≤ e.1 ∧ e.1 < 18446744073709551616) (fun X a Y hX => by
          obtain ⟨x, y, rfl, hx, -, -⟩ := oneEn_some hX
          have := pow_le_64 hx (wpF_le _)
          exact ⟨by simp only; omega, by simp only; omega⟩) _ _ _ _ hm).2 e he
        exact this, headX_some hh⟩
     ·cases h5
    ·cases h3
   ·cases h2
  ·cases h1
theorem preN_le:∀(a b:List EI),preN a b≤a.length∧preN a b≤b.length
 |x::a,y::b=>by
  have:=preN_le a b;rw [preN];split <;>simp <;>omega
 |[],b=>by simp [preN]
 |_::_,[]=>by simp [preN]
theorem sufN_le (a b:List EI):sufN a b≤a.length∧sufN a b≤b.length:=by
 have:=preN_le a.reverse b.reverse;simpa [sufN] using this
end Go.Proofs.YtpapdkhjdelfcabGreat
