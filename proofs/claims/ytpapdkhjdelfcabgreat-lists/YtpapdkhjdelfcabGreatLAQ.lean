import Derived.Test.YtpapdkhjdelfcabGreatLAP
namespace Go.Proofs.YtpapdkhjdelfcabGreat
open Go.RowKit
set_option maxRecDepth 100000
set_option maxHeartbeats 4000000
abbrev GH:=Nat×Nat×Nat×List BK×Nat×Nat×List EI
def Iy (b s g:Nat) (B:List BK) (ah bh:Nat) (M:List EI) (o:Option (List Bool)):Option GH:=if BW o=true then some (b,s,g,B,ah,bh,M) else none
def JX (alg:Int) (b s g:Nat) (B:List BK) (ah bh n:Nat):Option (List Bool)→Option GH:=Eg (BY (FB (CO alg) (CX 1 alg B.length)) n) fun M=>Iy b s g B ah bh M
def Pz:List Bool→Option ((Nat×Nat×Nat)×List Bool):=Bo (A9 16) fun ah=>Bo (A9 16) fun bh=>Bo (A9 16) fun n=>DT (ah,bh,n)
def Ko (alg:Int) (b s g:Nat) (B:List BK):Option (List Bool)→Option GH:=Eg Pz fun y=>JX alg b s g B y.1 y.2.1 y.2.2
open Classical in
noncomputable def J3 (alg:Int) (b s g:Nat):Option (List Bool)→Option GH:=Eg Ie fun B o=>if AH B then Ko alg b s g B o else none
def Ny:List Bool→Option ((Nat×Nat×Nat)×List Bool):=Bo (A9 32) fun b=>Bo (A9 32) fun s=>Bo (A9 32) fun g=>DT (b,s,g)
noncomputable def Kk (alg:Int):Option (List Bool)→Option GH:=Eg Ny fun y=>J3 alg y.1 y.2.1 y.2.2
noncomputable def JO (alg:Int):Option (List Bool)→Option GH:=Eg (DU 2) fun t o=>if t=[67,80] then Kk alg o else none
noncomputable def Dl (alg:Int) (l:List UInt8):Option GH:=(CQ l).bind fun b=>JO alg (some (Az b))
theorem Vr (b s g:Nat) (B:List BK) (ah bh:Nat) (M:List EI):Iy b s g B ah bh M none=none:=by unfold Iy BW;exact if_neg (fun h=>by cases h)
theorem RV {alg:Int} {o o':Option (List Bool)} {t:List UInt8} (h:o.bind (DU 2)=o'.map (Prod.mk t)):JO alg o=if t=[67,80] then Kk alg o' else none:=FO h (by split <;>rfl)
theorem T7 {alg:Int} {o o':Option (List Bool)} {b s g:Nat} (h:o.bind Ny=o'.map (Prod.mk (b,s,g))):Kk alg o=J3 alg b s g o':=FO h rfl
open Classical in
theorem Xj {alg:Int} {o o':Option (List Bool)} {b s g:Nat} {B:List BK} (h:o.bind Ie=o'.map (Prod.mk B)):J3 alg b s g o=if AH B then Ko alg b s g B o' else none:=FO h (by split <;>rfl)
theorem Zd {alg:Int} {o o':Option (List Bool)} {b s g ah bh n:Nat} {B:List BK} (h:o.bind Pz=o'.map (Prod.mk (ah,bh,n))):Ko alg b s g B o=JX alg b s g B ah bh n o':=FO h rfl
theorem XA {alg:Int} {o o':Option (List Bool)} {b s g ah bh n:Nat} {B:List BK} {M:List EI} (h:o.bind (BY (FB (CO alg) (CX 1 alg B.length)) n)=o'.map (Prod.mk M)):JX alg b s g B ah bh n o=Iy b s g B ah bh M o':=FO h (Vr ..)
def FY:Value:= .tuple #[.agg #[.int .i64 0,.int .u32 0,.int .i64 0,.slice none 0 0,.int .i64 0,.int .i64 0,.slice none 0 0],.bool false]
def L5 (w:World) (o:Option GH) (e:Ending) (w':World):Prop:=Aa w w'∧match o with
 |none=>e= .returned FY
 |some (b,s,g,B,ah,bh,M)=>∃vP vM,e= .returned (.tuple #[Hb b s g vP ah bh vM,.bool true])∧AJ w.heap.size w' vP B∧AS w.heap.size w' vM M
theorem Aa.sets7 {w V:World} {r:Nat} (h:Aa w V) (hr:w.heap.size≤r) (u0 u1 u2 u3 u4 u5 u6:Value):Aa w (((((((V.setCell ⟨r,0,none⟩ u0).setCell ⟨r,1,none⟩ u1).setCell ⟨r,2,none⟩ u2).setCell ⟨r,3,none⟩ u3).setCell ⟨r,4,none⟩ u4).setCell ⟨r,5,none⟩ u5).setCell ⟨r,6,none⟩ u6):=
 (h.sets6 hr u0 u1 u2 u3 u4 u5).step_set (p:=⟨r,6,none⟩) hr _
theorem QJ (t:ByteArray) (alg:Int) (w:World) (ht:t.size≤1099511627776):
  Calls Tryz.prog 201 #[.string t,.int .i64 alg] w (L5 w (Dl alg t.data.toList)):=by
 have HR:=jp (Ae.new w 224 #[.int .i64 0,.int .u32 0,.int .i64 0,.slice none 0 0,.int .i64 0,.int .i64 0,.slice none 0 0]);cases hO:CQ t.data.toList with
 |none=>
  have hno:Hid (Dl alg t.data.toList=none):=by show _=_;simp [Dl,hO]
  have H0:=fun wx=>GT t wx ht
  rw [hO] at H0;unfold Ga Gr at H0;go_enter Tryz.func201,Tryz.ntmps201;go_wp2_with fail;refine (H0 _).mono ?_;rintro e w1 ⟨rfl,hb1⟩;have R1:=HR.out.bel hb1;have r0:=R1.cell 0 rfl;have s0:=R1.free 0;have r1:=R1.cell 1 rfl;have s1:=R1.free 1;have r2:=R1.cell 2 rfl;have s2:=R1.free 2;have r3:=R1.cell 3 rfl;have s3:=R1.free 3;have r4:=R1.cell 4 rfl;have s4:=R1.free 4;have r5:=R1.cell 5 rfl;have s5:=R1.free 5;have r6:=R1.cell 6 rfl;have s6:=R1.free 6;have HB1:Hid (Aa w w1):=((jD w).step_alloc _).trans hb1;clear R1 HR hb1 H0;go_wp2;rw [hno.out];exact bodyPost_ret (v:=FY) (by simp [FY,results,Tryz.results201,go_sem,r0,r1,r2,r3,r4,r5,r6]) rfl ⟨HB1.out.sets7 (jH _) _ _ _ _ _ _ _,rfl⟩
 |some b0=>
  have hI0:Hid (Dl alg t.data.toList=JO alg (some (Az b0))):=by show _=_;simp [Dl,hO]
  have H0:=fun wx=>GT t wx ht
  rw [hO] at H0;unfold Ga Gr at H0;go_enter Tryz.func201,Tryz.ntmps201;go_wp2_with fail;refine (H0 _).mono ?_;rintro e w1 ⟨rfl,hb1⟩;go_wp2_with fail;refine (JQ _ _).mono ?_;rintro e w2 ⟨rfl,hb2⟩;obtain ⟨W0,hW0⟩:∃W0,W0=w.alloc (.cells #[.int .i64 0,.int .u32 0,.int .i64 0,.slice none 0 0,.int .i64 0,.int .i64 0,.slice none 0 0] 224):=⟨_,rfl⟩;rw [←hW0] at HR hb1;have hS0:=Rs.new w2 b0 151;have hB0:Ab [w2.heap.size] W0 (w2.alloc (.cells #[.string (Ai b0),.int .u64 0,.bool false] 151)):=Ab.of_bel ((hb1.trans hb2).step_alloc _);have H1:=jp (Hf w2.heap.size _ 2 _ hS0 (by omega));have hp0:W0.heap.size≤w2.heap.size:=(hb1.trans hb2).size;have hrp:Hid (w.heap.size<W0.heap.size):=by show _<_;rw [hW0];simp
  have hw0:Hid (Aa w W0):=by show Aa w W0;rw [hW0];exact (jD w).step_alloc _
  have HB0:=jp hB0;have HR0:=HR;clear hb1 hb2 H0 hS0 hB0 hW0 HR;go_wp2_with fail;refine H1.out.mono ?_;rintro e w3 ⟨l,o1,rfl,hB3,hR3,hl3,hq1⟩;have HB3:=jp (HB0.out.trans hB3);have HR3:=jp hR3;have hI1:Hid (Dl alg t.data.toList=if l=[67,80] then Kk alg o1 else none):=hI0.out.trans (RV hq1);have hte:((Ai l).toList==[67,80])=decide (l=[67,80]):=KK l [67,80];clear hB3 hR3 hl3 hq1 H1 HB0 hI0;by_cases hl:l=[67,80]
  rotate_left
  ·have hte2:((Ai l).toList==[67,80])=false:=by rw [hte];exact jK hl
   clear hte;have R:=HR0.out.but (HB3.out) (by have:=hrp.out;simp;omega);have HW:=jp (Ab.belTo hw0.out (HB3.out) (fun j hj=>by have:=hrp.out;simp at hj;omega));have r0:=R.cell 0 rfl;have s0:=R.free 0;have r1:=R.cell 1 rfl;have s1:=R.free 1;have r2:=R.cell 2 rfl;have s2:=R.free 2;have r3:=R.cell 3 rfl;have s3:=R.free 3;have r4:=R.cell 4 rfl;have s4:=R.free 4;have r5:=R.cell 5 rfl;have s5:=R.free 5;have r6:=R.cell 6 rfl;have s6:=R.free 6;have hfin:Hid (Dl alg t.data.toList=none):=by rw [if_neg hl] at hI1;exact hI1
   clear R hl HB3 HR3;go_wp2;rw [hfin.out];exact bodyPost_ret (v:=FY) (by simp [FY,results,Tryz.results201,go_sem,r0,r1,r2,r3,r4,r5,r6]) rfl ⟨HW.out.sets7 (jH _) _ _ _ _ _ _ _,rfl⟩
  rw [if_pos hl] at hI1;have hte2:((Ai l).toList==[67,80])=true:=by rw [hte];exact jL hl
  have HS:=jp (St.new (tq:=224) (qc:=#[.int .i64 0,.int .u32 0,.int .i64 0,.slice none 0 0,.int .i64 0,.int .i64 0,.slice none 0 0]) HB3.out HR3.out);clear hte hl HB3 HR3;have K0:=jp (Cp _ _ 4 _ HS.out.rs (by omega));go_wp2_with fail;refine K0.out.mono ?_;rintro e v0 ⟨b,a0,rfl,hB,hR,hlt0,hq0⟩;replace HS:=jp (HS.out.read hB hR);have g0:=HS.out.box.cell 0 rfl;have k0:=HS.out.box.free 0;replace HS:=jp (HS.out.put 0 (.int .i64 (b:Int)) (qc':=#[.int .i64 (b:Int),.int .u32 0,.int .i64 0,.slice none 0 0,.int .i64 0,.int .i64 0,.slice none 0 0]) rfl);have P0:=jp hq0;clear hB hR hq0 K0;clear hlt0;have K1:=jp (Lo _ _ 32 _ HS.out.rs (by omega));go_wp2_with fail;refine K1.out.mono ?_;rintro e v1 ⟨s,a1,rfl,hB,hR,hlt1,hq1⟩;replace HS:=jp (HS.out.read hB hR);have hs32:s<4294967296:=hlt1;have hU:IntKind.u32.wrap (s:Int)=(s:Int):=by rw [IntKind.wrap_u32];omega
  have g1:=HS.out.box.cell 1 rfl;have k1:=HS.out.box.free 1;replace HS:=jp (HS.out.put 1 (.int .u32 (s:Int)) (qc':=#[.int .i64 (b:Int),.int .u32 (s:Int),.int .i64 0,.slice none 0 0,.int .i64 0,.int .i64 0,.slice none 0 0]) rfl);have P1:=jp hq1;clear hB hR hq1 K1;clear hlt1;have K2:=jp (Cp _ _ 4 _ HS.out.rs (by omega));go_wp2_with fail;refine K2.out.mono ?_;rintro e v2 ⟨g,a2,rfl,hB,hR,hlt2,hq2⟩;replace HS:=jp (HS.out.read hB hR);have g2:=HS.out.box.cell 2 rfl;have k2:=HS.out.box.free 2;replace HS:=jp (HS.out.put 2 (.int .i64 (g:Int)) (qc':=#[.int .i64 (b:Int),.int .u32 (s:Int),.int .i64 (g:Int),.slice none 0 0,.int .i64 0,.int .i64 0,.slice none 0 0]) rfl);have P2:=jp hq2;clear hB hR hq2 K2;clear hlt2;have hI3:Hid (Dl alg t.data.toList=J3 alg b s g a2):=hI1.out.trans (T7 (Bw P0.out (Bw P1.out (Bw P2.out (GK _)))));have H6:=jp (O5 _ _ _ HS.out.rs);have hp5:=HS.out.rs.lt;have hm5:=HS.out.box.lt;have hmb2:=HS.out.2.2.2.1;obtain ⟨w5,hw5⟩:∃w5,w5=v2.setCell ⟨w3.heap.size,2,none⟩ (.int .i64 (g:Int)):=⟨_,rfl⟩;have hz5:w5.heap.size=v2.heap.size:=by rw [hw5];simp
  rw [←hw5] at H6 hp5 hm5 HS;clear P0 P1 P2 hI1;go_wp2_with fail;rw [←hw5];clear hw5;refine H6.out.mono ?_;rintro e w6 ⟨B,o3,v,x,rfl,hB6,hR6,hq3,hgood,hown6⟩;replace HS:=jp (HS.out.read hB6 hR6);have hI4:=jp (hI3.out.trans (Xj hq3));have HGD:=jp hgood;have HOB:=jp hown6;clear hB6 hR6 hq3 hgood hown6 H6 hI3;cases x
  ·have hq:Hid (¬AH B):=fun h=>by have:=HGD.out.2 h;cases this
   have R:=HR0.out.but (HS.out.1) (by have:=hrp.out;simp;omega);have HW:=jp (Ab.belTo hw0.out (HS.out.1) (fun j hj=>by have:=hrp.out;simp at hj;omega));have r0:=R.cell 0 rfl;have s0:=R.free 0;have r1:=R.cell 1 rfl;have s1:=R.free 1;have r2:=R.cell 2 rfl;have s2:=R.free 2;have r3:=R.cell 3 rfl;have s3:=R.free 3;have r4:=R.cell 4 rfl;have s4:=R.free 4;have r5:=R.cell 5 rfl;have s5:=R.free 5;have r6:=R.cell 6 rfl;have s6:=R.free 6;have hfin:Hid (Dl alg t.data.toList=none):=by show _=_;rw [hI4.out];exact if_neg hq.out
   clear R HS;go_wp2;rw [hfin.out];exact bodyPost_ret (v:=FY) (by simp [FY,results,Tryz.results201,go_sem,r0,r1,r2,r3,r4,r5,r6]) rfl ⟨HW.out.sets7 (jH _) _ _ _ _ _ _ _,rfl⟩
  have HG:Hid (AH B):=HGD.out.1 (by simp);replace HOB:Hid (AJ w5.heap.size w6 v B):=HOB.out (by simp);have hI5:Hid (Dl alg t.data.toList=Ko alg b s g B o3):=by show _=_;rw [hI4.out];exact if_pos HG.out
  have h8:=HG.out.1.1;obtain ⟨aP,capP,rfl⟩:=B8 HOB.out;have y8:=HS.out.box.cell 3 rfl;have z8:=HS.out.box.free 3;replace HS:=jp (HS.out.put 3 (.slice aP B.length capP) (qc':=#[.int .i64 (b:Int),.int .u32 (s:Int),.int .i64 (g:Int),.slice aP B.length capP,.int .i64 0,.int .i64 0,.slice none 0 0]) rfl);replace HOB:=jp (ownsRow_setCell_below HOB.out (a:=⟨w3.heap.size,3,none⟩) (by simp only;omega) (.slice aP B.length capP));clear HGD hI4;have K3:=jp (Cp _ _ 2 _ HS.out.rs (by omega));go_wp2_with fail;refine K3.out.mono ?_;rintro e v3 ⟨ah,a3,rfl,hB,hR,hlt3,hq3⟩;replace HS:=jp (HS.out.read hB hR);replace HOB:=jp (EP HOB.out hB hp5);have g3:=HS.out.box.cell 4 rfl;have k3:=HS.out.box.free 4;replace HS:=jp (HS.out.put 4 (.int .i64 (ah:Int)) (qc':=#[.int .i64 (b:Int),.int .u32 (s:Int),.int .i64 (g:Int),.slice aP B.length capP,.int .i64 (ah:Int),.int .i64 0,.slice none 0 0]) rfl);replace HOB:=jp (ownsRow_setCell_below HOB.out (a:=⟨w3.heap.size,4,none⟩) (by simp only;omega) (.int .i64 (ah:Int)));have P3:=jp hq3;clear hB hR hq3 K3;have K4:=jp (Cp _ _ 2 _ HS.out.rs (by omega));go_wp2_with fail;refine K4.out.mono ?_;rintro e v4 ⟨bh,a4,rfl,hB,hR,hlt4,hq4⟩;replace HS:=jp (HS.out.read hB hR);replace HOB:=jp (EP HOB.out hB hp5);have g4:=HS.out.box.cell 5 rfl;have k4:=HS.out.box.free 5;replace HS:=jp (HS.out.put 5 (.int .i64 (bh:Int)) (qc':=#[.int .i64 (b:Int),.int .u32 (s:Int),.int .i64 (g:Int),.slice aP B.length capP,.int .i64 (ah:Int),.int .i64 (bh:Int),.slice none 0 0]) rfl);replace HOB:=jp (ownsRow_setCell_below HOB.out (a:=⟨w3.heap.size,5,none⟩) (by simp only;omega) (.int .i64 (bh:Int)));have P4:=jp hq4;clear hB hR hq4 K4;have K5:=jp (Cp _ _ 2 _ HS.out.rs (by omega));go_wp2_with fail;refine K5.out.mono ?_;rintro e v5 ⟨n,a5,rfl,hB,hR,hlt5,hq5⟩;replace HS:=jp (HS.out.read hB hR);replace HOB:=jp (EP HOB.out hB hp5);have P5:=jp hq5;clear hB hR hq5 K5;have hn:n≤65535:=by have:(2:Nat) ^ (8 * 2)=65536:=rfl;omega
  have hI6:Hid (Dl alg t.data.toList=JX alg b s g B ah bh n a5):=hI5.out.trans (Zd (Bw P3.out (Bw P4.out (Bw P5.out (GK _)))));have hwd8:=fun wx=>J5 1 alg B.length wx h8
  unfold IG at hwd8;clear P3 P4 P5 hI5 hlt3 hlt4 hlt5;go_wp2_with fail;refine (hwd8 _).mono ?_;rintro e w8 ⟨rfl,hb8⟩;replace HS:=jp (HS.out.bel hb8);replace HOB:=jp (CV HOB.out hb8);have hm8:=HS.out.box.lt;have hp8:=HS.out.rs.lt;have H9:=jp (NB _ _ (CO alg) (CX 1 alg B.length) n _ HS.out.rs (GJ _) (Hs _ _ _) hn);have hI7:Hid (∀(E:List EI) (o':Option (List Bool)),a5.bind (BY (FB (CO alg) (CX 1 alg B.length)) n)=o'.map (Prod.mk E)→Dl alg t.data.toList=Iy b s g B ah bh E o'):=fun E o' h=>hI6.out.trans (XA h)
  clear hb8 hwd8 hI6;generalize CO alg=wp at *;generalize CX 1 alg B.length=wo at *;go_wp2_with fail;refine H9.out.mono ?_;rintro e w9 ⟨M,o5,vM,rfl,hB9,hR9,hq5,hOE,hEl,hEn⟩;replace HS:=jp (HS.out.read hB9 hR9);replace HOB:=jp (EP HOB.out hB9 hp5);obtain ⟨aE,capE,rfl⟩:=B8 hOE;have HOE:=jp hOE;have hI8:=jp (hI7.out M o5 hq5);have y9:=HS.out.box.cell 6 rfl;have z9:=HS.out.box.free 6;replace HS:=jp (HS.out.put 6 (.slice aE M.length capE) (qc':=#[.int .i64 (b:Int),.int .u32 (s:Int),.int .i64 (g:Int),.slice aP B.length capP,.int .i64 (ah:Int),.int .i64 (bh:Int),.slice aE M.length capE]) rfl);replace HOB:=jp (ownsRow_setCell_below HOB.out (a:=⟨w3.heap.size,6,none⟩) (by simp only;omega) (.slice aE M.length capE));replace HOE:=jp (ownsRow_setCell_below HOE.out (a:=⟨w3.heap.size,6,none⟩) (by simp only;omega) (.slice aE M.length capE));have H10:=jp (I7 _ _ _ HS.out.rs);clear hB9 hR9 hq5 hOE H9 hI7;go_wp2_with fail;refine H10.out.mono ?_;rintro e w10 ⟨rfl,hb10⟩;replace HS:=jp (HS.out.bel hb10);replace HOB:=jp (CV HOB.out hb10);replace HOE:=jp (CV HOE.out hb10);clear hb10 H10 y9 z9;cases hx:BW o5
  ·have hq:Hid (¬BW o5=true):=fun h=>by rw [hx] at h;cases h
   have R:=HR0.out.but (HS.out.1) (by have:=hrp.out;simp;omega);have HW:=jp (Ab.belTo hw0.out (HS.out.1) (fun j hj=>by have:=hrp.out;simp at hj;omega));have r0:=R.cell 0 rfl;have s0:=R.free 0;have r1:=R.cell 1 rfl;have s1:=R.free 1;have r2:=R.cell 2 rfl;have s2:=R.free 2;have r3:=R.cell 3 rfl;have s3:=R.free 3;have r4:=R.cell 4 rfl;have s4:=R.free 4;have r5:=R.cell 5 rfl;have s5:=R.free 5;have r6:=R.cell 6 rfl;have s6:=R.free 6;have hfin:Hid (Dl alg t.data.toList=none):=by show _=_;rw [hI8.out];exact if_neg hq.out
   clear R HS;go_wp2;rw [hfin.out];exact bodyPost_ret (v:=FY) (by simp [FY,results,Tryz.results201,go_sem,r0,r1,r2,r3,r4,r5,r6]) rfl ⟨HW.out.sets7 (jH _) _ _ _ _ _ _ _,rfl⟩
  have hfin:Hid (Dl alg t.data.toList=some (b,s,g,B,ah,bh,M)):=by show _=_;rw [hI8.out];exact if_pos hx
  have R:=HR0.out.but HS.out.1 (by have:=hrp.out;simp;omega);have HW:=jp (Ab.belTo hw0.out HS.out.1 (fun j hj=>by have:=hrp.out;simp at hj;omega));have B11:=HS.out.box;have r0:=R.cell 0 rfl;have s0:=R.free 0;have r1:=R.cell 1 rfl;have s1:=R.free 1;have r2:=R.cell 2 rfl;have s2:=R.free 2;have r3:=R.cell 3 rfl;have s3:=R.free 3;have r4:=R.cell 4 rfl;have s4:=R.free 4;have r5:=R.cell 5 rfl;have s5:=R.free 5;have r6:=R.cell 6 rfl;have s6:=R.free 6;have d0:=B11.cell 0 rfl;have e0:=B11.free 0;have d1:=B11.cell 1 rfl;have e1:=B11.free 1;have d2:=B11.cell 2 rfl;have e2:=B11.free 2;have d3:=B11.cell 3 rfl;have e3:=B11.free 3;have d4:=B11.cell 4 rfl;have e4:=B11.free 4;have d5:=B11.cell 5 rfl;have e5:=B11.free 5;have d6:=B11.cell 6 rfl;have e6:=B11.free 6;clear R B11 HS;go_wp2;rw [hfin.out];refine bodyPost_ret (v:= .tuple #[Hb b s g (.slice aP B.length capP) ah bh (.slice aE M.length capE),.bool true]) (by simp [Hb,results,Tryz.results201,go_sem,r0,r1,r2,r3,r4,r5,r6]) rfl ⟨HW.out.sets7 (jH _) _ _ _ _ _ _ _,_,_,rfl,?_,?_⟩
  ·refine AJ.mono (b:=w5.heap.size) ?_ (by have:=hrp.out;omega)
   iterate 7 (refine ownsRow_setCell_below ?_ (by have:=hrp.out;simp only;omega) _)
   exact HOB.out
  ·refine World.ownsRow.mono (base:=w8.heap.size) ?_ (by have:=hrp.out;omega)
   iterate 7 (refine ownsRow_setCell_below ?_ (by have:=hrp.out;simp only;omega) _)
   exact HOE.out
theorem FT {α β:Type} {P:List Bool→Option (α×List Bool)} {k:α→Option (List Bool)→Option β} {o:Option (List Bool)} {r:β} (h:Eg P k o=some r):∃X a Y,o=some X∧P X=some (a,Y)∧k a (some Y)=some r:=by
 unfold Eg at h;cases o with
 |none=>cases h
 |some X=>
  have h':(P X).bind (fun y=>k y.1 (some y.2))=some r:=h;cases hP:P X with
  |none=>rw [hP] at h';cases h'
  |some y=>rw [hP] at h';exact ⟨X,y.1,y.2,rfl,hP,h'⟩
theorem Dx {W x:Nat} {X Y:List Bool} (h:A9 W X=some (x,Y)):x<2 ^ W∧X=Ax x W++Y:=by
 unfold A9 at h;split at h
 ·cases h
 ·rename_i hl;injection h with h
  injection h with h1 h2
  have ht:(X.take W).length=W:=by rw [jk];omega
  have hv:=FG (X.take W);rw [ht,h1] at hv;refine ⟨hv,?_⟩;have:=Pg (X.take W);rw [ht,h1] at this;rw [this,←h2,List.take_append_drop]
theorem OL {wp wo:Nat} {e:EI} {X Y:List Bool} (h:FB wp wo X=some (e,Y)):∃x y:Nat,e=((x:Int),(y:Int))∧x<2 ^ wp∧y<2 ^ wo∧X=Ax x wp++(Ax y wo++Y):=by
 unfold FB Bo DT at h;cases h1:A9 wp X with
 |none=>rw [h1] at h;cases h
 |some y1=>
  rw [h1] at h;have h':(A9 wo y1.2).bind (fun y=>some (((y1.1:Int),(y.1:Int)),y.2))=some (e,Y):=h;cases h2:A9 wo y1.2 with
  |none=>rw [h2] at h';cases h'
  |some y2=>
   rw [h2] at h';have h3:(((y1.1:Int),(y2.1:Int)),y2.2)=(e,Y):=by simpa using h'
   injection h3 with h4 h5
   have k1:=Dx (x:=y1.1) (Y:=y1.2) h1;have k2:=Dx (x:=y2.1) (Y:=y2.2) h2;exact ⟨y1.1,y2.1,h4.symm,k1.1,k2.1,by rw [k1.2,k2.2,h5]⟩
theorem NV {α:Type} {P:List Bool→Option (α×List Bool)} {Q:α→Prop} (hP:∀X a Y,P X=some (a,Y)→Q a):∀(n:Nat) (X:List Bool) (L:List α) (Y:List Bool),BY P n X=some (L,Y)→L.length=n∧∀a∈L,Q a:=by
 intro n
 induction n with
 |zero=>
  intro X L Y h;have:(([]:List α),X)=(L,Y):=by simpa [BY] using h
  injection this with h1 h2
  subst h1;exact ⟨rfl,fun a ha=>by cases ha⟩
 |succ n ih=>
  intro X L Y h;rw [BY] at h;cases h1:BY P n X with
  |none=>rw [h1] at h;cases h
  |some y=>
   rw [h1] at h;have h':(P y.2).map (fun z=>(y.1++[z.1],z.2))=some (L,Y):=h;cases h2:P y.2 with
   |none=>rw [h2] at h';cases h'
   |some z=>
    rw [h2] at h';have h3:(y.1++[z.1],z.2)=(L,Y):=by simpa using h'
    injection h3 with h4 h5
    obtain ⟨k1,k2⟩:=ih X y.1 y.2 h1;rw [←h4];refine ⟨by simp [k1],fun a ha=>?_⟩;rcases jT.1 ha with ha|ha
    ·exact k2 a ha
    ·obtain rfl:=jP.1 ha;exact hP _ _ z.2 h2
structure IK (f g:Nat) (c:Ac) (B:List BK) (E:List EI):Prop where
 fmt:1≤f∧f≤2
 tok:c.TOK
 good:AH B
 right:DR g c B E
 pts:∀e∈E,0≤e.1∧e.1<18446744073709551616
 none:c.formats=0
theorem LU {c:Ac} {B:List BK} (hc:c.TOK) (hB:AL B):GM c B≤255:=by
 have h1:=Pd hB;have h2:=Mg hc;obtain ⟨t1,t2,t3,t4, -⟩:=hc;unfold GM;split
 ·omega
 ·split
  ·have:Ei c * As B≤3 * 48:=Int.mul_le_mul h2.2 h1.2 h1.1 (by omega);omega
  ·omega
theorem IK.len {f g:Nat} {c:Ac} {B:List BK} {E:List EI} (h:IK f g c B E):E.length≤255:=by
 have h1:=h.right.2.1;have h2:=LU h.tok h.good.1;omega
theorem IK.ents {f g:Nat} {c:Ac} {B:List BK} {E:List EI} (h:IK f g c B E):∀e∈E,Fp e∧0≤e.2∧e.2<8:=fun e he=>by
 obtain ⟨j,hj,h1,h2⟩:=h.right.2.2.1 e he;have h3:=h.pts e he;have h4:=h.good.1.1;exact ⟨⟨h3.1,h3.2,by omega,by omega⟩,by omega,by omega⟩
theorem Zk {f g:Nat} {c:Ac} {X Y:List Bool} (h:Im X=some ((f,g,c),Y)):c.formats=0:=by
 unfold Im Bo DT at h;revert h;cases A9 8 X with
 |none=>intro h;cases h
 |some y1=>
  simp only [Option.bind_some];cases A9 8 y1.2 with
  |none=>intro h;cases h
  |some y2=>
   simp only [Option.bind_some];cases A9 32 y2.2 with
   |none=>intro h;cases h
   |some y3=>
    simp only [Option.bind_some];cases A9 16 y3.2 with
    |none=>intro h;cases h
    |some y4=>
     simp only [Option.bind_some];cases A9 8 y4.2 with
     |none=>intro h;cases h
     |some y5=>
      simp only [Option.bind_some];cases A9 8 y5.2 with
      |none=>intro h;cases h
      |some y6=>
       simp only [Option.bind_some];cases DU 16 y6.2 with
       |none=>intro h;cases h
       |some y7=>
        intro h;injection h with h
        injection h with h _
        injection h with _ h
        injection h with _ h
        rw [←h]
theorem Hp {l:List UInt8} {f g:Nat} {c:Ac} {B:List BK} {E:List EI} (h:Bj l=some (f,g,c,B,E)):IK f g c B E:=by
 unfold Bj at h;cases hO:CQ l with
 |none=>rw [hO] at h;cases h
 |some b=>
  rw [hO] at h;have h':Kf (some (Az b))=some (f,g,c,B,E):=h;obtain ⟨X1,t,Y1, -, -,h1⟩:=FT h';split at h1
  ·obtain ⟨X2,hd,Y2, -,hh,h2⟩:=FT h1;split at h2
   ·rename_i hfm;obtain ⟨X3,B3,Y3, -, -,h3⟩:=FT h2;split at h3
    ·rename_i hgd;obtain ⟨X4,n,Y4, -, -,h4⟩:=FT h3;obtain ⟨X5,E5,Y5, -,hm,h5⟩:=FT h4;unfold II at h5;split at h5
     ·rename_i hr;injection h5 with h5
      obtain ⟨f0,g0,c0⟩:=hd;simp only at *;injection h5 with e1 h5
      injection h5 with e2 h5
      injection h5 with e3 h5
      injection h5 with e4 e5
      subst e1 e2 e3 e4 e5
      exact ⟨hfm.1, hfm.2, hgd, hr.2, fun e he => by
        have := (NV (Q := fun e : EI => 0 ≤ e.1 ∧ e.1 < 18446744073709551616) (fun X a Y hX => by
          obtain ⟨x, y, rfl, hx, -, -⟩ := OL hX
          have := Mi hx (GJ _)
          exact ⟨by simp only; omega, by simp only; omega⟩) _ _ _ _ hm).2 e he
        exact this, Zk hh⟩
     ·cases h5
    ·cases h3
   ·cases h2
  ·cases h1
theorem Mf:∀(a b:List EI),Cu a b≤a.length∧Cu a b≤b.length
 |x::a,y::b=>by
  have:=Mf a b;rw [Cu];split <;>simp <;>omega
 |[],b=>by simp [Cu]
 |_::_,[]=>by simp [Cu]
theorem Ye (a b:List EI):EE a b≤a.length∧EE a b≤b.length:=by
 have:=Mf a.reverse b.reverse;simpa [EE] using this
end Go.Proofs.YtpapdkhjdelfcabGreat
