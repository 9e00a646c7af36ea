import Derived.Test.YtpapdkhjdelfcabGreatLAN
namespace Go.Proofs.YtpapdkhjdelfcabGreat
open Go.RowKit
set_option maxRecDepth 100000
set_option maxHeartbeats 4000000
abbrev GE:=Nat×Nat×Ac×List BK×List EI
def Eg {α β:Type} (P:List Bool→Option (α×List Bool)) (k:α→Option (List Bool)→Option β) (o:Option (List Bool)):Option β:=(o.bind P).bind fun y=>k y.1 (some y.2)
theorem FO {α β:Type} {P:List Bool→Option (α×List Bool)} {k:α→Option (List Bool)→Option β} {o o':Option (List Bool)} {a:α} (h:o.bind P=o'.map (Prod.mk a)) (hk:k a none=none):Eg P k o=k a o':=by
 unfold Eg;rw [h];cases o' with
 |none=>exact hk.symm
 |some X=>rfl
open Classical in
noncomputable def II (f g:Nat) (c:Ac) (B:List BK) (E:List EI) (o:Option (List Bool)):Option GE:=if BW o=true∧DR g c B E then some (f,g,c,B,E) else none
noncomputable def Lp (f g:Nat) (c:Ac) (B:List BK) (n:Nat):Option (List Bool)→Option GE:=Eg (BY (FB (CO c.alg) (CX f c.alg B.length)) n) fun E=>II f g c B E
noncomputable def Ky (f g:Nat) (c:Ac) (B:List BK):Option (List Bool)→Option GE:=Eg (A9 16) fun n=>Lp f g c B n
open Classical in
noncomputable def KO (f g:Nat) (c:Ac):Option (List Bool)→Option GE:=Eg Ie fun B o=>if AH B then Ky f g c B o else none
open Classical in
noncomputable def Jc:Option (List Bool)→Option GE:=Eg Im fun h o=>if (1≤h.1∧h.1≤2)∧h.2.2.TOK then KO h.1 h.2.1 h.2.2 o else none
noncomputable def Kf:Option (List Bool)→Option GE:=Eg (DU 2) fun t o=>if t=[67,72] then Jc o else none
noncomputable def Bj (l:List UInt8):Option GE:=(CQ l).bind fun b=>Kf (some (Az b))
theorem RK (f g:Nat) (c:Ac) (B:List BK) (E:List EI):II f g c B E none=none:=by unfold II BW;exact if_neg (fun h=>by cases h.1)
theorem Yx {o o':Option (List Bool)} {t:List UInt8} (h:o.bind (DU 2)=o'.map (Prod.mk t)):Kf o=if t=[67,72] then Jc o' else none:=FO h (by split <;>rfl)
open Classical in
theorem Vo {o o':Option (List Bool)} {f g:Nat} {c:Ac} (h:o.bind Im=o'.map (Prod.mk (f,g,c))):Jc o=if (1≤f∧f≤2)∧c.TOK then KO f g c o' else none:=FO h (by split <;>rfl)
open Classical in
theorem QD {o o':Option (List Bool)} {f g:Nat} {c:Ac} {B:List BK} (h:o.bind Ie=o'.map (Prod.mk B)):KO f g c o=if AH B then Ky f g c B o' else none:=FO h (by split <;>rfl)
theorem Uh {o o':Option (List Bool)} {f g n:Nat} {c:Ac} {B:List BK} (h:o.bind (A9 16)=o'.map (Prod.mk n)):Ky f g c B o=Lp f g c B n o':=FO h rfl
theorem UX {o o':Option (List Bool)} {f g n:Nat} {c:Ac} {B:List BK} {E:List EI} (h:o.bind (BY (FB (CO c.alg) (CX f c.alg B.length)) n)=o'.map (Prod.mk E)):Lp f g c B n o=II f g c B E o':=FO h (RK ..)
def CU:Value:= .tuple #[.agg #[.int .i64 0,.int .i64 0,.int .i64 0,.int .i64 0,.int .i64 0,.int .i64 0,.string ⟨#[]⟩,.int .i64 0,.slice none 0 0,.slice none 0 0],.bool false]
def FH (w:World) (o:Option GE) (e:Ending) (w':World):Prop:=Aa w w'∧match o with
 |none=>e= .returned CU
 |some (f,g,c,B,E)=>∃vP vE,e= .returned (.tuple #[D8 f g c vP vE,.bool true])∧AJ w.heap.size w' vP B∧AS w.heap.size w' vE E
theorem Aa.sets10 {w V:World} {r:Nat} (h:Aa w V) (hr:w.heap.size≤r) (u0 u1 u2 u3 u4 u5 u6 u7 u8 u9:Value):Aa w ((((((((((V.setCell ⟨r,0,none⟩ u0).setCell ⟨r,1,none⟩ u1).setCell ⟨r,2,none⟩ u2).setCell ⟨r,3,none⟩ u3).setCell ⟨r,4,none⟩ u4).setCell ⟨r,5,none⟩ u5).setCell ⟨r,6,none⟩ u6).setCell ⟨r,7,none⟩ u7).setCell ⟨r,8,none⟩ u8).setCell ⟨r,9,none⟩ u9):=
 ((((h.sets6 hr u0 u1 u2 u3 u4 u5).step_set (p:=⟨r,6,none⟩) hr _).step_set (p:=⟨r,7,none⟩) hr _).step_set (p:=⟨r,8,none⟩) hr _).step_set (p:=⟨r,9,none⟩) hr _
theorem JL (t:ByteArray) (w:World) (ht:t.size≤1099511627776):
  Calls Tryz.prog 154 #[.string t] w (FH w (Bj t.data.toList)):=by
 have HR:=jp (Ae.new w 173 #[.int .i64 0,.int .i64 0,.int .i64 0,.int .i64 0,.int .i64 0,.int .i64 0,.string ⟨#[]⟩,.int .i64 0,.slice none 0 0,.slice none 0 0]);cases hO:CQ t.data.toList with
 |none=>
  have hno:Hid (Bj t.data.toList=none):=by show _=_;simp [Bj,hO]
  have H0:=fun wx=>GT t wx ht
  rw [hO] at H0;unfold Ga Gr at H0;go_enter Tryz.func154,Tryz.ntmps154;go_wp2_with fail;refine (H0 _).mono ?_;rintro e w1 ⟨rfl,hb1⟩;have R1:=HR.out.bel hb1;have r0:=R1.cell 0 rfl;have s0:=R1.free 0;have r1:=R1.cell 1 rfl;have s1:=R1.free 1;have r2:=R1.cell 2 rfl;have s2:=R1.free 2;have r3:=R1.cell 3 rfl;have s3:=R1.free 3;have r4:=R1.cell 4 rfl;have s4:=R1.free 4;have r5:=R1.cell 5 rfl;have s5:=R1.free 5;have r6:=R1.cell 6 rfl;have s6:=R1.free 6;have r7:=R1.cell 7 rfl;have s7:=R1.free 7;have r8:=R1.cell 8 rfl;have s8:=R1.free 8;have r9:=R1.cell 9 rfl;have s9:=R1.free 9;have HB1:Hid (Aa w w1):=((jD w).step_alloc _).trans hb1;clear R1 HR hb1 H0;go_wp2;rw [hno.out];exact bodyPost_ret (v:=CU) (by simp [CU,results,Tryz.results154,go_sem,r0,r1,r2,r3,r4,r5,r6,r7,r8,r9]) rfl ⟨HB1.out.sets10 (jH _) _ _ _ _ _ _ _ _ _ _,rfl⟩
 |some b=>
  have hI0:Hid (Bj t.data.toList=Kf (some (Az b))):=by show _=_;simp [Bj,hO]
  have H0:=fun wx=>GT t wx ht
  rw [hO] at H0;unfold Ga Gr at H0;go_enter Tryz.func154,Tryz.ntmps154;go_wp2_with fail;refine (H0 _).mono ?_;rintro e w1 ⟨rfl,hb1⟩;go_wp2_with fail;refine (JQ _ _).mono ?_;rintro e w2 ⟨rfl,hb2⟩;obtain ⟨W0,hW0⟩:∃W0,W0=w.alloc (.cells #[.int .i64 0,.int .i64 0,.int .i64 0,.int .i64 0,.int .i64 0,.int .i64 0,.string ⟨#[]⟩,.int .i64 0,.slice none 0 0,.slice none 0 0] 173):=⟨_,rfl⟩;rw [←hW0] at HR hb1;have hS0:=Rs.new w2 b 151;have hB0:Ab [w2.heap.size] W0 (w2.alloc (.cells #[.string (Ai b),.int .u64 0,.bool false] 151)):=Ab.of_bel ((hb1.trans hb2).step_alloc _);have H1:=jp (Hf w2.heap.size _ 2 _ hS0 (by omega));have hp0:W0.heap.size≤w2.heap.size:=(hb1.trans hb2).size;have hrp:Hid (w.heap.size<W0.heap.size):=by show _<_;rw [hW0];simp
  have hw0:Hid (Aa w W0):=by show Aa w W0;rw [hW0];exact (jD w).step_alloc _
  have HB0:=jp hB0;have HR0:=HR;clear hb1 hb2 H0 hS0 hB0 hW0 HR;go_wp2_with fail;refine H1.out.mono ?_;rintro e w3 ⟨l,o1,rfl,hB3,hR3,hl3,hq1⟩;have HB3:=jp (HB0.out.trans hB3);have HR3:=jp hR3;have hI1:Hid (Bj t.data.toList=if l=[67,72] then Jc o1 else none):=hI0.out.trans (Yx hq1);have hte:((Ai l).toList==[67,72])=decide (l=[67,72]):=KK l [67,72];clear hB3 hR3 hl3 hq1 H1 HB0 hI0;by_cases hl:l=[67,72]
  rotate_left
  ·have hte2:((Ai l).toList==[67,72])=false:=by rw [hte];exact jK hl
   clear hte;have R:=HR0.out.but (HB3.out) (by have:=hrp.out;simp;omega);have HW:=jp (Ab.belTo hw0.out (HB3.out) (fun j hj=>by have:=hrp.out;simp at hj;omega));have r0:=R.cell 0 rfl;have s0:=R.free 0;have r1:=R.cell 1 rfl;have s1:=R.free 1;have r2:=R.cell 2 rfl;have s2:=R.free 2;have r3:=R.cell 3 rfl;have s3:=R.free 3;have r4:=R.cell 4 rfl;have s4:=R.free 4;have r5:=R.cell 5 rfl;have s5:=R.free 5;have r6:=R.cell 6 rfl;have s6:=R.free 6;have r7:=R.cell 7 rfl;have s7:=R.free 7;have r8:=R.cell 8 rfl;have s8:=R.free 8;have r9:=R.cell 9 rfl;have s9:=R.free 9;have hfin:Hid (Bj t.data.toList=none):=by rw [if_neg hl] at hI1;exact hI1
   clear R hl HB3 HR3;go_wp2;rw [hfin.out];exact bodyPost_ret (v:=CU) (by simp [CU,results,Tryz.results154,go_sem,r0,r1,r2,r3,r4,r5,r6,r7,r8,r9]) rfl ⟨HW.out.sets10 (jH _) _ _ _ _ _ _ _ _ _ _,rfl⟩
  rw [if_pos hl] at hI1;have hte2:((Ai l).toList==[67,72])=true:=by rw [hte];exact jL hl
  have H4:=jp (VO _ _ _ HR3.out);clear hte hl;go_wp2_with fail;refine H4.out.mono ?_;rintro e w4 ⟨f,g,c,o2,rfl,hB4,hR4,hq2,hg,hf⟩;have hI2:Hid (Bj t.data.toList=Jc o1):=hI1;replace hI2:=jp (hI2.out.trans (Vo hq2));clear hI1 hq2 H4;have hfm:=fun wx=>Pb (f:Int) wx
  have htc:=fun wx=>OT c wx
  have HCF:Hid (c=⟨c.alg,c.slots,c.points,c.probes,c.key,c.formats⟩):=rfl;have hwd:=fun n wx hn=>J5 (f:Int) c.alg n wx hn
  have hcr:=fun B E vP vE wx h1 h2 h3 h4 h5=>Pa g c vP vE B E wx h1 h2 h3 h4 h5
  unfold IG at hwd;unfold D8;unfold DW at hcr;obtain ⟨alg,slots,points,probes,key,formats⟩:=c;simp only [Ac.cells] at *;have HS:=jp (St.new (tq:=173) (qc:=#[.int .i64 (f:Int),.int .i64 (g:Int),.int .i64 alg,.int .i64 slots,.int .i64 points,.int .i64 probes,.string key,.int .i64 formats,.slice none 0 0,.slice none 0 0]) (HB3.out.trans hB4) hR4);clear hB4 hR4 HB3 HR3 HCF;go_wp2_with fail;refine (hfm _).mono ?_;rintro e wx ⟨x,rfl,rfl,hx⟩;have HX:Hid (x=true↔1≤f∧f≤2):=⟨fun h=>by have:=hx.1 h;unfold Hd at this;omega,fun h=>hx.2 (by unfold Hd;omega)⟩;clear hx hfm;have hmb:w4.heap.size≠w2.heap.size:=HS.out.2.2.2.2;have hmb2:=HS.out.2.2.2.1;cases x
  ·have hq:Hid (¬((1≤f∧f≤2)∧Ac.TOK ⟨alg,slots,points,probes,key,formats⟩)):=fun h=>by have:=HX.out.2 h.1;cases this
   have R:=HR0.out.but (HS.out.1) (by have:=hrp.out;simp;omega);have HW:=jp (Ab.belTo hw0.out (HS.out.1) (fun j hj=>by have:=hrp.out;simp at hj;omega));have r0:=R.cell 0 rfl;have s0:=R.free 0;have r1:=R.cell 1 rfl;have s1:=R.free 1;have r2:=R.cell 2 rfl;have s2:=R.free 2;have r3:=R.cell 3 rfl;have s3:=R.free 3;have r4:=R.cell 4 rfl;have s4:=R.free 4;have r5:=R.cell 5 rfl;have s5:=R.free 5;have r6:=R.cell 6 rfl;have s6:=R.free 6;have r7:=R.cell 7 rfl;have s7:=R.free 7;have r8:=R.cell 8 rfl;have s8:=R.free 8;have r9:=R.cell 9 rfl;have s9:=R.free 9;have hfin:Hid (Bj t.data.toList=none):=by show _=_;rw [hI2.out];exact if_neg hq.out
   clear R HS;go_wp2;rw [hfin.out];exact bodyPost_ret (v:=CU) (by simp [CU,results,Tryz.results154,go_sem,r0,r1,r2,r3,r4,r5,r6,r7,r8,r9]) rfl ⟨HW.out.sets10 (jH _) _ _ _ _ _ _ _ _ _ _,rfl⟩
  have HS1:=HS;have B4:=HS.out.box;have a0:=B4.cell 0 rfl;have b0:=B4.free 0;have a1:=B4.cell 1 rfl;have b1:=B4.free 1;have a2:=B4.cell 2 rfl;have b2:=B4.free 2;have a3:=B4.cell 3 rfl;have b3:=B4.free 3;have a4:=B4.cell 4 rfl;have b4:=B4.free 4;have a5:=B4.cell 5 rfl;have b5:=B4.free 5;have a6:=B4.cell 6 rfl;have b6:=B4.free 6;have a7:=B4.cell 7 rfl;have b7:=B4.free 7;have a8:=B4.cell 8 rfl;have b8:=B4.free 8;have a9:=B4.cell 9 rfl;have b9:=B4.free 9;clear B4;go_wp2_with fail;refine (htc _).mono ?_;rintro e w5 ⟨x,rfl,hb5,hx⟩;have HTK:Hid (x=true↔Ac.TOK ⟨alg,slots,points,probes,key,formats⟩):=⟨hx.1,hx.2⟩;replace HS:=jp (HS.out.bel hb5);clear hx htc hb5 HS1 a0 a1 a2 a3 a4 a5 a6 a7 a8 a9 b0 b1 b2 b3 b4 b5 b6 b7 b8 b9;cases x
  ·have hq:Hid (¬((1≤f∧f≤2)∧Ac.TOK ⟨alg,slots,points,probes,key,formats⟩)):=fun h=>by have:=HTK.out.2 h.2;cases this
   have R:=HR0.out.but (HS.out.1) (by have:=hrp.out;simp;omega);have HW:=jp (Ab.belTo hw0.out (HS.out.1) (fun j hj=>by have:=hrp.out;simp at hj;omega));have r0:=R.cell 0 rfl;have s0:=R.free 0;have r1:=R.cell 1 rfl;have s1:=R.free 1;have r2:=R.cell 2 rfl;have s2:=R.free 2;have r3:=R.cell 3 rfl;have s3:=R.free 3;have r4:=R.cell 4 rfl;have s4:=R.free 4;have r5:=R.cell 5 rfl;have s5:=R.free 5;have r6:=R.cell 6 rfl;have s6:=R.free 6;have r7:=R.cell 7 rfl;have s7:=R.free 7;have r8:=R.cell 8 rfl;have s8:=R.free 8;have r9:=R.cell 9 rfl;have s9:=R.free 9;have hfin:Hid (Bj t.data.toList=none):=by show _=_;rw [hI2.out];exact if_neg hq.out
   clear R HS;go_wp2;rw [hfin.out];exact bodyPost_ret (v:=CU) (by simp [CU,results,Tryz.results154,go_sem,r0,r1,r2,r3,r4,r5,r6,r7,r8,r9]) rfl ⟨HW.out.sets10 (jH _) _ _ _ _ _ _ _ _ _ _,rfl⟩
  have HF12:Hid (1≤f∧f≤2):=HX.out.1 (by simp);have HTOK:Hid (Ac.TOK ⟨alg,slots,points,probes,key,formats⟩):=HTK.out.1 (by simp);have hI3:Hid (Bj t.data.toList=KO f g ⟨alg,slots,points,probes,key,formats⟩ o2):=by show _=_;rw [hI2.out];exact if_pos ⟨HF12.out,HTOK.out⟩
  have H6:=jp (O5 _ _ _ HS.out.rs);have hp5:=HS.out.rs.lt;have hm5:=HS.out.box.lt;clear HX HTK hI2;go_wp2_with fail;refine H6.out.mono ?_;rintro e w6 ⟨B,o3,v,x,rfl,hB6,hR6,hq3,hgood,hown6⟩;replace HS:=jp (HS.out.read hB6 hR6);have hI4:=jp (hI3.out.trans (QD hq3));have HGD:=jp hgood;have HOB:=jp hown6;clear hB6 hR6 hq3 hgood hown6 H6 hI3;cases x
  ·have hq:Hid (¬AH B):=fun h=>by have:=HGD.out.2 h;cases this
   have R:=HR0.out.but (HS.out.1) (by have:=hrp.out;simp;omega);have HW:=jp (Ab.belTo hw0.out (HS.out.1) (fun j hj=>by have:=hrp.out;simp at hj;omega));have r0:=R.cell 0 rfl;have s0:=R.free 0;have r1:=R.cell 1 rfl;have s1:=R.free 1;have r2:=R.cell 2 rfl;have s2:=R.free 2;have r3:=R.cell 3 rfl;have s3:=R.free 3;have r4:=R.cell 4 rfl;have s4:=R.free 4;have r5:=R.cell 5 rfl;have s5:=R.free 5;have r6:=R.cell 6 rfl;have s6:=R.free 6;have r7:=R.cell 7 rfl;have s7:=R.free 7;have r8:=R.cell 8 rfl;have s8:=R.free 8;have r9:=R.cell 9 rfl;have s9:=R.free 9;have hfin:Hid (Bj t.data.toList=none):=by show _=_;rw [hI4.out];exact if_neg hq.out
   clear R HS;go_wp2;rw [hfin.out];exact bodyPost_ret (v:=CU) (by simp [CU,results,Tryz.results154,go_sem,r0,r1,r2,r3,r4,r5,r6,r7,r8,r9]) rfl ⟨HW.out.sets10 (jH _) _ _ _ _ _ _ _ _ _ _,rfl⟩
  have HG:Hid (AH B):=HGD.out.1 (by simp);replace HOB:Hid (AJ w5.heap.size w6 v B):=HOB.out (by simp);have hI5:Hid (Bj t.data.toList=Ky f g ⟨alg,slots,points,probes,key,formats⟩ B o3):=by show _=_;rw [hI4.out];exact if_pos HG.out
  have h8:=HG.out.1.1;obtain ⟨aP,capP,rfl⟩:=B8 HOB.out;have y8:=HS.out.box.cell 8 rfl;have z8:=HS.out.box.free 8;replace HS:=jp (HS.out.put 8 (.slice aP B.length capP) (qc':=#[.int .i64 (f:Int),.int .i64 (g:Int),.int .i64 alg,.int .i64 slots,.int .i64 points,.int .i64 probes,.string key,.int .i64 formats,.slice aP B.length capP,.slice none 0 0]) rfl);replace HOB:=jp (ownsRow_setCell_below HOB.out (a:=⟨w4.heap.size,8,none⟩) (by simp only;omega) (.slice aP B.length capP));have H7:=jp (Cp _ _ 2 _ HS.out.rs (by omega));clear HGD hI4;go_wp2_with fail;refine H7.out.mono ?_;rintro e w7 ⟨n,o4,rfl,hB7,hR7,hn7,hq4⟩;have hn:n≤65535:=by have:(2:Nat) ^ (8 * 2)=65536:=rfl;omega
  replace HS:=jp (HS.out.read hB7 hR7);replace HOB:=jp (EP HOB.out hB7 hp5);have hI6:=jp (hI5.out.trans (Uh hq4));have B7:=HS.out.box;have a0:=B7.cell 0 rfl;have a2:=B7.cell 2 rfl;clear B7 hB7 hR7 hn7 hq4 H7 hI5 y8 z8;have hwd8:=fun wx=>hwd B.length wx h8
  go_wp2_with fail;refine (hwd8 _).mono ?_;rintro e w8 ⟨rfl,hb8⟩;replace HS:=jp (HS.out.bel hb8);replace HOB:=jp (CV HOB.out hb8);have hm8:=HS.out.box.lt;have hp8:=HS.out.rs.lt;have H9:=jp (NB _ _ (CO alg) (CX (f:Int) alg B.length) n _ HS.out.rs (GJ _) (Hs _ _ _) hn);clear hb8 hwd hwd8 a0 a2;have HWP:Hid (∃x,x=CO alg):=⟨_,rfl⟩;have hI7:Hid (∀(E:List EI) (o':Option (List Bool)),o4.bind (BY (FB (CO alg) (CX (f:Int) alg B.length)) n)=o'.map (Prod.mk E)→Bj t.data.toList=II f g ⟨alg,slots,points,probes,key,formats⟩ B E o'):=fun E o' h=>hI6.out.trans (UX h)
  clear hI6 HWP;generalize CO alg=wp at *;generalize CX (f:Int) alg B.length=wo at *;go_wp2_with fail;refine H9.out.mono ?_;rintro e w9 ⟨E,o5,vE,rfl,hB9,hR9,hq5,hOE,hEl,hEn⟩;replace HS:=jp (HS.out.read hB9 hR9);replace HOB:=jp (EP HOB.out hB9 hp5);obtain ⟨aE,capE,rfl⟩:=B8 hOE;have HOE:=jp hOE;have hI8:=jp (hI7.out E o5 hq5);have y9:=HS.out.box.cell 9 rfl;have z9:=HS.out.box.free 9;replace HS:=jp (HS.out.put 9 (.slice aE E.length capE) (qc':=#[.int .i64 (f:Int),.int .i64 (g:Int),.int .i64 alg,.int .i64 slots,.int .i64 points,.int .i64 probes,.string key,.int .i64 formats,.slice aP B.length capP,.slice aE E.length capE]) rfl);replace HOB:=jp (ownsRow_setCell_below HOB.out (a:=⟨w4.heap.size,9,none⟩) (by simp only;omega) (.slice aE E.length capE));replace HOE:=jp (ownsRow_setCell_below HOE.out (a:=⟨w4.heap.size,9,none⟩) (by simp only;omega) (.slice aE E.length capE));have H10:=jp (I7 _ _ _ HS.out.rs);clear hB9 hR9 hq5 hOE H9 hI7;go_wp2_with fail;refine H10.out.mono ?_;rintro e w10 ⟨rfl,hb10⟩;replace HS:=jp (HS.out.bel hb10);replace HOB:=jp (CV HOB.out hb10);replace HOE:=jp (CV HOE.out hb10);clear hb10 H10 y9 z9;cases hx:BW o5
  ·have hq:Hid (¬(BW o5=true∧DR g ⟨alg,slots,points,probes,key,formats⟩ B E)):=fun h=>by rw [hx] at h;cases h.1
   have R:=HR0.out.but (HS.out.1) (by have:=hrp.out;simp;omega);have HW:=jp (Ab.belTo hw0.out (HS.out.1) (fun j hj=>by have:=hrp.out;simp at hj;omega));have r0:=R.cell 0 rfl;have s0:=R.free 0;have r1:=R.cell 1 rfl;have s1:=R.free 1;have r2:=R.cell 2 rfl;have s2:=R.free 2;have r3:=R.cell 3 rfl;have s3:=R.free 3;have r4:=R.cell 4 rfl;have s4:=R.free 4;have r5:=R.cell 5 rfl;have s5:=R.free 5;have r6:=R.cell 6 rfl;have s6:=R.free 6;have r7:=R.cell 7 rfl;have s7:=R.free 7;have r8:=R.cell 8 rfl;have s8:=R.free 8;have r9:=R.cell 9 rfl;have s9:=R.free 9;have hfin:Hid (Bj t.data.toList=none):=by show _=_;rw [hI8.out];exact if_neg hq.out
   clear R HS;go_wp2;rw [hfin.out];exact bodyPost_ret (v:=CU) (by simp [CU,results,Tryz.results154,go_sem,r0,r1,r2,r3,r4,r5,r6,r7,r8,r9]) rfl ⟨HW.out.sets10 (jH _) _ _ _ _ _ _ _ _ _ _,rfl⟩
  have B10:=HS.out.box;have a0:=B10.cell 0 rfl;have b0:=B10.free 0;have a1:=B10.cell 1 rfl;have b1:=B10.free 1;have a2:=B10.cell 2 rfl;have b2:=B10.free 2;have a3:=B10.cell 3 rfl;have b3:=B10.free 3;have a4:=B10.cell 4 rfl;have b4:=B10.free 4;have a5:=B10.cell 5 rfl;have b5:=B10.free 5;have a6:=B10.cell 6 rfl;have b6:=B10.free 6;have a7:=B10.cell 7 rfl;have b7:=B10.free 7;have a8:=B10.cell 8 rfl;have b8:=B10.free 8;have a9:=B10.cell 9 rfl;have b9:=B10.free 9;clear B10;have H11:=jp (hcr B E _ _ w10 (AJ.pool HOB.out) (AS.ents HOE.out) HG.out.1 (by omega) HTOK.out);clear hcr;go_wp2_with fail;refine H11.out.mono ?_;rintro e w11 ⟨x,rfl,hb11,hx11⟩;replace HS:=jp (HS.out.bel hb11);replace HOB:=jp (CV HOB.out hb11);replace HOE:=jp (CV HOE.out hb11);have HX11:=jp hx11;clear hb11 hx11 H11 a0 a1 a2 a3 a4 a5 a6 a7 a8 a9 b0 b1 b2 b3 b4 b5 b6 b7 b8 b9;cases x
  ·have hq:Hid (¬(BW o5=true∧DR g ⟨alg,slots,points,probes,key,formats⟩ B E)):=fun h=>by have:=HX11.out.2 h.2;cases this
   have R:=HR0.out.but (HS.out.1) (by have:=hrp.out;simp;omega);have HW:=jp (Ab.belTo hw0.out (HS.out.1) (fun j hj=>by have:=hrp.out;simp at hj;omega));have r0:=R.cell 0 rfl;have s0:=R.free 0;have r1:=R.cell 1 rfl;have s1:=R.free 1;have r2:=R.cell 2 rfl;have s2:=R.free 2;have r3:=R.cell 3 rfl;have s3:=R.free 3;have r4:=R.cell 4 rfl;have s4:=R.free 4;have r5:=R.cell 5 rfl;have s5:=R.free 5;have r6:=R.cell 6 rfl;have s6:=R.free 6;have r7:=R.cell 7 rfl;have s7:=R.free 7;have r8:=R.cell 8 rfl;have s8:=R.free 8;have r9:=R.cell 9 rfl;have s9:=R.free 9;have hfin:Hid (Bj t.data.toList=none):=by show _=_;rw [hI8.out];exact if_neg hq.out
   clear R HS;go_wp2;rw [hfin.out];exact bodyPost_ret (v:=CU) (by simp [CU,results,Tryz.results154,go_sem,r0,r1,r2,r3,r4,r5,r6,r7,r8,r9]) rfl ⟨HW.out.sets10 (jH _) _ _ _ _ _ _ _ _ _ _,rfl⟩
  have hfin:Hid (Bj t.data.toList=some (f,g,⟨alg,slots,points,probes,key,formats⟩,B,E)):=by show _=_;rw [hI8.out];exact if_pos ⟨hx,HX11.out.1 (by simp)⟩
  have R:=HR0.out.but HS.out.1 (by have:=hrp.out;simp;omega);have HW:=jp (Ab.belTo hw0.out HS.out.1 (fun j hj=>by have:=hrp.out;simp at hj;omega));have B11:=HS.out.box;have r0:=R.cell 0 rfl;have s0:=R.free 0;have r1:=R.cell 1 rfl;have s1:=R.free 1;have r2:=R.cell 2 rfl;have s2:=R.free 2;have r3:=R.cell 3 rfl;have s3:=R.free 3;have r4:=R.cell 4 rfl;have s4:=R.free 4;have r5:=R.cell 5 rfl;have s5:=R.free 5;have r6:=R.cell 6 rfl;have s6:=R.free 6;have r7:=R.cell 7 rfl;have s7:=R.free 7;have r8:=R.cell 8 rfl;have s8:=R.free 8;have r9:=R.cell 9 rfl;have s9:=R.free 9;have a0:=B11.cell 0 rfl;have b0:=B11.free 0;have a1:=B11.cell 1 rfl;have b1:=B11.free 1;have a2:=B11.cell 2 rfl;have b2:=B11.free 2;have a3:=B11.cell 3 rfl;have b3:=B11.free 3;have a4:=B11.cell 4 rfl;have b4:=B11.free 4;have a5:=B11.cell 5 rfl;have b5:=B11.free 5;have a6:=B11.cell 6 rfl;have b6:=B11.free 6;have a7:=B11.cell 7 rfl;have b7:=B11.free 7;have a8:=B11.cell 8 rfl;have b8:=B11.free 8;have a9:=B11.cell 9 rfl;have b9:=B11.free 9;clear R B11 HS;go_wp2;rw [hfin.out];refine bodyPost_ret (v:= .tuple #[D8 f g ⟨alg,slots,points,probes,key,formats⟩ (.slice aP B.length capP) (.slice aE E.length capE),.bool true]) (by simp [D8,results,Tryz.results154,go_sem,r0,r1,r2,r3,r4,r5,r6,r7,r8,r9]) rfl ⟨HW.out.sets10 (jH _) _ _ _ _ _ _ _ _ _ _,_,_,rfl,?_,?_⟩
  ·refine AJ.mono (b:=w5.heap.size) ?_ (by have:=hrp.out;omega)
   iterate 10 (refine ownsRow_setCell_below ?_ (by have:=hrp.out;simp only;omega) _)
   exact HOB.out
  ·refine World.ownsRow.mono (base:=w8.heap.size) ?_ (by have:=hrp.out;omega)
   iterate 10 (refine ownsRow_setCell_below ?_ (by have:=hrp.out;simp only;omega) _)
   exact HOE.out
def Hn (w:World) (q:Nat) (c:Ac) (vP vE:Value):Prop:=
 (w.cell? ⟨q,2,none⟩=some (.int .i64 c.alg)∧w.cell? ⟨q,3,none⟩=some (.int .i64 c.slots)∧w.cell? ⟨q,4,none⟩=some (.int .i64 c.points)∧w.cell? ⟨q,5,none⟩=some (.int .i64 c.probes)∧w.cell? ⟨q,6,none⟩=some (.string c.key)∧w.cell? ⟨q,7,none⟩=some (.int .i64 c.formats))∧
 w.cell? ⟨q,8,none⟩=some vP∧w.cell? ⟨q,9,none⟩=some vE
theorem Hn.later {a w:World} {q:Nat} {c:Ac} {vP vE:Value} (h:Hn a q c vP vE) (k:Aa a w):Hn w q c vP vE:=by
 obtain ⟨⟨h0,h1,h2,h3,h4,h5⟩,h6,h7⟩:=h;exact ⟨⟨k.cell h0,k.cell h1,k.cell h2,k.cell h3,k.cell h4,k.cell h5⟩,k.cell h6,k.cell h7⟩
theorem Pq (q:Nat) (c:Ac) (vP vE:Value) (B:List BK) (x:Int) (w:World) (hT:Hn w q c vP vE) (hP:Am w vP B):
  Calls Tryz.prog 84 #[.pointer (some ⟨q,2,none⟩),.int .i64 x] w (NO w (A7 B x)):=by
 obtain ⟨-,h6, -⟩:=hT;obtain ⟨ao,cap,rfl,hc⟩:=hP.open;obtain ⟨X,hX⟩:∃X,X=A7 B x:=⟨_,rfl⟩;rw [←hX];by_cases hneg:x<0
 ·have HX:Hid (X=ByteArray.empty):=by show X=_;rw [hX,A7,if_pos hneg]
  have hd:decide (x<0)=true:=jL hneg;clear hc hX;go_enter Tryz.func84,Tryz.ntmps84;go_wp2_with fail
  first
  |(go_ret;exact ⟨ES HX.out.symm,by solve_by_elim [jA,jB,jC,jD,jE]⟩)
  |(go_quiet (fail);go_wp2;go_ret;exact ⟨ES HX.out.symm,by solve_by_elim [jA,jB,jC,jD,jE]⟩)
 ·obtain ⟨k,rfl⟩:∃k:Nat,x=(k:Int):=⟨x.toNat,by omega⟩;have hd:decide ((k:Int)<0)=false:=jK hneg;by_cases hlt:k<B.length
  ·obtain ⟨g,rfl,c0,c1⟩:=hc k hlt;have HX:Hid (X=B[k].1):=by show X=_;rw [hX,A7,if_neg hneg,Int.toNat_natCast,jG hlt];rfl
   have hg:decide ((k:Int)≥(B.length:Int))=false:=jK (by omega);clear hc hX;generalize B[k].1=idk at *;go_enter Tryz.func84,Tryz.ntmps84;go_wp2_with fail
   first
   |(go_ret;exact ⟨ES HX.out.symm,by solve_by_elim [jA,jB,jC,jD,jE]⟩)
   |(go_quiet (fail);go_wp2;go_ret;exact ⟨ES HX.out.symm,by solve_by_elim [jA,jB,jC,jD,jE]⟩)
  ·have HX:Hid (X=ByteArray.empty):=by show X=_;rw [hX,A7,if_neg hneg,Int.toNat_natCast,List.getElem?_eq_none (by omega)];rfl
   have hg:decide ((k:Int)≥(B.length:Int))=true:=jL (by omega);clear hc hX;go_enter Tryz.func84,Tryz.ntmps84;go_wp2_with fail
   first
   |(go_ret;exact ⟨ES HX.out.symm,by solve_by_elim [jA,jB,jC,jD,jE]⟩)
   |(go_quiet (fail);go_wp2;go_ret;exact ⟨ES HX.out.symm,by solve_by_elim [jA,jB,jC,jD,jE]⟩)
theorem Rq (c:Ac) (E:List EI) (v:Value) (k:ByteArray) (w:World) (hP:AR w v E) (hB:E.length≤65536) (hc:c.TOK) (hk:k.size≤4611686018427386000) (hE:0<E.length):
  Calls Tryz.prog 217 #[.agg c.cells,v,.string k] w (D9 w (C9 c E k c.probes.toNat).1):=by
 obtain ⟨hp1,hp2,hk16⟩:1≤c.probes∧c.probes≤5∧c.key.size=16:=⟨hc.2.2.2.2.2.2.2.1,hc.2.2.2.2.2.2.2.2.1,hc.2.2.2.2.2.2.2.2.2⟩;have hnx:=fun h wx hx=>Is E v h wx hx hB
 have hnl:=fun h=>Oo E h hE
 obtain ⟨n,hn⟩:∃n:Nat,c.probes=(n:Int):=⟨c.probes.toNat,by omega⟩;rw [hn,Int.toNat_natCast];obtain ⟨pf,hpf⟩:∃pf,pf=C9 c E k:=⟨_,rfl⟩;have h0:pf 0=(0,0):=by rw [hpf];rfl
 have hs:∀j,pf (j+1)=if j=0∨((E.getD (A8 E (Al c.key 112 [j] k)) (0,0)).1 - Al c.key 112 [j] k) % 18446744073709551616<(pf j).2 then (A8 E (Al c.key 112 [j] k),((E.getD (A8 E (Al c.key 112 [j] k)) (0,0)).1 - Al c.key 112 [j] k) % 18446744073709551616) else pf j:=fun j=>by rw [hpf];rfl
 rw [←hpf];clear hpf;obtain ⟨alg,slots,points,probes,key,formats⟩:=c;simp only [Ac.cells] at *;subst hn;obtain ⟨ao,cap,rfl,hcell⟩:=hP.open;clear hc;go_enter Tryz.func217,Tryz.ntmps217;go_wp2;obtain ⟨wm,hwm⟩:∃wm,wm=w.alloc (.cells #[.int .i64 alg,.int .i64 slots,.int .i64 points,.int .i64 (n:Int),.string key,.int .i64 formats] 34):=⟨_,rfl⟩;have m3:wm.cell? ⟨w.heap.size,3,none⟩=some (.int .i64 (n:Int)):=by rw [hwm];simp
 have m4:wm.cell? ⟨w.heap.size,4,none⟩=some (.string key):=by rw [hwm];simp
 have hwb:Aa w wm:=by rw [hwm];exact (jD w).step_alloc _
 rw [←hwm];clear hwm;go_loopg [7,8,9] n (fun r vb vl vi wr=>Aa wm wr∧∃j:Nat,r=n - j∧j≤n∧vi= .int .i64 j∧vb= .int .i64 ((pf j).1:Int)∧vl= .int .u64 (pf j).2)
 case atStart=>exact ⟨jD _,0,by omega,by omega,rfl,by rw [h0];rfl,by rw [h0]⟩
 case round=>
  obtain ⟨hb,j,hr,hjn,rfl,rfl,rfl⟩:=hrel;have n3:=hb.cell m3;have n4:=hb.cell m4;by_cases hjl:j<n
  ·have HS:=jp (hs j);have hH:=fun wx=>F5 key 112 [j] (.slice (some ⟨wx.heap.size,0,none⟩) 1 1) k _ (Jl wx j) (by simp) (by omega) hk
   clear hs h0;generalize Al key 112 [j] k=x at *;have hnx:=hnx x;have hnl:=hnl x;generalize A8 E x=p at *;obtain ⟨g,rfl,c0,c1⟩:=hcell p hnl;have HG:Hid (E.getD p (0,0)=E[p]):=by show E.getD p (0,0)=E[p];rw [jV,jG hnl];rfl
   rw [HG.out] at HS;clear HG hcell;generalize pf j=mj at *;obtain ⟨mb,mm⟩:=mj;simp only at HS;have hge:decide ((p:Int)≥(E.length:Int))=false:=jK (by omega);have hd:decide ((j:Int)<(n:Int))=true:=jL (by omega);go_wp2_with fail;refine (hH _).mono ?_;rintro e w2 ⟨rfl,hb2⟩;have hb3:Aa wm w2:=(hb.step_alloc _).trans hb2;have hbw:=hwb.trans hb3;have hE2:=AR.later hP hbw;have e0:=hbw.cell c0;clear hb2 hH;go_wp2_with fail;refine (hnx _ hE2).mono ?_;rintro e w3 ⟨rfl,hb4⟩;have hb5:=hb3.trans hb4;have f0:=hb4.cell e0;clear hE2 hb4 e0 c0 c1;generalize E[p].1=ep at *;generalize hdd:(ep - x) % 18446744073709551616=dd at *;have hwd:IntKind.u64.wrap (ep - x)=dd:=by rw [IntKind.wrap_u64];exact hdd
   clear hdd;by_cases hj0:j=0
   ·subst hj0;rw [if_pos (Or.inl rfl)] at HS;go_wp2;go_roundg (n - 1)
    case measure=>omega
    case rel=>exact ⟨hb5,1,rfl,by omega,by go_num,by rw [HS.out],by rw [HS.out]⟩
   ·have hj0b:((j:Int)==0)=false:=by rw [jI];omega
    by_cases hg:dd<mm
    ·rw [if_pos (Or.inr hg)] at HS;have hgt:decide (dd<mm)=true:=jL hg;go_wp2;go_roundg (n - (j+1))
     case measure=>omega
     case rel=>exact ⟨hb5,j+1,rfl,by omega,by go_num,by rw [HS.out],by rw [HS.out]⟩
    ·rw [if_neg (fun h=>h.elim hj0 hg)] at HS;have hgt:decide (dd<mm)=false:=jK hg;go_wp2;go_roundg (n - (j+1))
     case measure=>omega
     case rel=>exact ⟨hb5,j+1,rfl,by omega,by go_num,by rw [HS.out],by rw [HS.out]⟩
  ·obtain rfl:j=n:=by omega
   clear hs h0 hcell;go_wp2;go_ret;exact ⟨rfl,hwb.trans hb⟩
theorem Qx (c:Ac) (v:Value) (k:ByteArray) (w:World) (hP:AR w v []) (hc:c.TOK) (hk:k.size≤4611686018427386000):
  Calls Tryz.prog 217 #[.agg c.cells,v,.string k] w (D9 w 0):=by
 obtain ⟨hp1,hp2,hk16⟩:1≤c.probes∧c.probes≤5∧c.key.size=16:=⟨hc.2.2.2.2.2.2.2.1,hc.2.2.2.2.2.2.2.2.1,hc.2.2.2.2.2.2.2.2.2⟩;have hnx:=fun h wx hx=>Is [] v h wx hx (by simp)
 have hn0:∀h,A8 [] h=0:=fun _=>rfl
 obtain ⟨alg,slots,points,probes,key,formats⟩:=c;simp only [Ac.cells] at *;obtain ⟨ao,cap,rfl, -⟩:=hP.open;have hH:∀wx:World,Calls Tryz.prog 184 #[.string key,.int .u8 112,.slice (some ⟨wx.heap.size,0,none⟩) 1 1,.string k] (wx.alloc (.cells #[.int .i64 0] 3)) (Kd (wx.alloc (.cells #[.int .i64 0] 3)) (Al key 112 [0] k)):=fun wx=>F5 key 112 [0] (.slice (some ⟨wx.heap.size,0,none⟩) 1 1) k _ (Jl wx 0) (by simp) (by omega) hk
 generalize Al key 112 [0] k=x at *;have hnx:=hnx x;rw [hn0] at hnx;clear hc hn0;have hd:decide ((0:Int)<probes)=true:=jL (by omega);go_enter Tryz.func217,Tryz.ntmps217;go_wp2;obtain ⟨wm,hwm⟩:∃wm,wm=w.alloc (.cells #[.int .i64 alg,.int .i64 slots,.int .i64 points,.int .i64 probes,.string key,.int .i64 formats] 34):=⟨_,rfl⟩;have m3:wm.cell? ⟨w.heap.size,3,none⟩=some (.int .i64 probes):=by rw [hwm];simp
 have m4:wm.cell? ⟨w.heap.size,4,none⟩=some (.string key):=by rw [hwm];simp
 have hwb:Aa w wm:=by rw [hwm];exact (jD w).step_alloc _
 rw [←hwm];clear hwm;refine wp_loop_rounds 1 ?_;rw [rounds_succ];go_wp2_with fail;refine (hH _).mono ?_;rintro e w2 ⟨rfl,hb2⟩;have hb3:Aa w w2:=(hwb.step_alloc _).trans hb2;clear hb2;go_wp2_with fail;refine (hnx _ (hP.later hb3)).mono ?_;rintro e w3 ⟨rfl,hb4⟩;go_wp2;go_ret;exact ⟨rfl,hb3.trans hb4⟩
theorem TD (q:Nat) (c:Ac) (vP vE:Value) (E:List EI) (k:ByteArray) (w:World) (hT:Hn w q c vP vE) (hE:AR w vE E) (hB:E.length≤65536) (hc:c.TOK) (hk:k.size≤4611686018427386000):
  Calls Tryz.prog 178 #[.pointer (some ⟨q,2,none⟩),.string k] w (D9 w (Dc c E k)):=by
 obtain ⟨⟨h0c,h1c,h2c,h3c,h4c,h5c⟩,h6,h7⟩:=hT;have hk16:c.key.size=16:=hc.2.2.2.2.2.2.2.2.2;obtain ⟨X,hX⟩:∃X,X=Dc c E k:=⟨_,rfl⟩;rw [←hX];by_cases h4:c.alg=4
 ·have hpr:∀wx,AR wx vE E→Calls Tryz.prog 217 #[.agg c.cells,vE,.string k] wx (D9 wx X):=by
   intro wx hx;by_cases hE0:E.length=0
   ·have:E=[]:=jS hE0;subst this;rw [hX,Dc,if_pos (show ([]:List EI).length=0 from rfl)];exact Qx c vE k wx hx hc hk
   ·rw [hX,Dc,if_neg hE0,if_pos h4];exact Rq c E vE k wx hx hB hc hk (by omega)
  clear hX
  obtain ⟨alg,slots,points,probes,key,formats⟩:=c
  simp only [Ac.cells] at *
  subst h4
  go_enter Tryz.func178,Tryz.ntmps178
  go_wp2_with fail
  go_region_held3 (fun w'=>Aa w w'∧w'.cell? ⟨q,2,none⟩=some (.int .i64 4)∧w'.cell? ⟨q,3,none⟩=some (.int .i64 slots)∧w'.cell? ⟨q,4,none⟩=some (.int .i64 points)∧w'.cell? ⟨q,5,none⟩=some (.int .i64 probes)∧w'.cell? ⟨q,6,none⟩=some (.string key)∧w'.cell? ⟨q,7,none⟩=some (.int .i64 formats)∧w'.cell? ⟨q,9,none⟩=some vE) ((exact ⟨by solve_by_elim [jA,jB,jC,jD,jE],Aa.cell (by solve_by_elim [jA,jB,jC,jD,jE]) h0c,Aa.cell (by solve_by_elim [jA,jB,jC,jD,jE]) h1c,Aa.cell (by solve_by_elim [jA,jB,jC,jD,jE]) h2c,Aa.cell (by solve_by_elim [jA,jB,jC,jD,jE]) h3c,Aa.cell (by solve_by_elim [jA,jB,jC,jD,jE]) h4c,Aa.cell (by solve_by_elim [jA,jB,jC,jD,jE]) h5c,Aa.cell (by solve_by_elim [jA,jB,jC,jD,jE]) h7⟩)) ((go_at_call 217;refine (hpr _ (hE.later (by solve_by_elim [jA,jB,jC,jD,jE]))).mono ?_;rintro e w2 ⟨rfl,hb2⟩))
  all_goals
   go_wp2
   go_ret
   exact ⟨rfl,by solve_by_elim [jA,jB,jC,jD,jE]⟩
 ·have h4b:(c.alg==4)=false:=by rw [jI];exact h4
  have hH:=fun wx=>F5 c.key 107 [] (.slice none 0 0) k wx (Kb wx) (by decide) (by omega) hk
  have hr:=He c.key 107 [] k;by_cases h2:c.alg=2
  ·have hX2:X=A8 E (Al c.key 107 [] k):=by
    rw [hX,Dc];by_cases hE0:E.length=0
    ·have:E=[]:=jS hE0;subst this;rfl
    ·rw [if_neg hE0,if_neg h4,if_pos h2]
   have hnx:=fun wx hx=>Is E vE (Al c.key 107 [] k) wx hx hB
   rw [←hX2] at hnx
   generalize Al c.key 107 [] k=x at *
   clear hX hX2
   obtain ⟨alg,slots,points,probes,key,formats⟩:=c
   simp only at *
   subst h2
   go_enter Tryz.func178,Tryz.ntmps178
   go_wp2_with fail
   refine (hH _).mono ?_
   rintro e w2 ⟨rfl,hb2⟩
   have k0:=hb2.cell h0c
   have k7:=hb2.cell h7
   go_wp2_with fail
   refine (hnx _ (hE.later hb2)).mono ?_
   rintro e w3 ⟨rfl,hb3⟩
   go_wp2
   go_ret
   exact ⟨rfl,hb2.trans hb3⟩
  ·have h2b:(c.alg==2)=false:=by rw [jI];exact h2
   have hX2:(X:Int)=Cv (Al c.key 107 [] k) (E.length:Int):=by
    rw [hX,Dc,Cv];by_cases hE0:E.length=0
    ·rw [if_pos hE0,if_pos (by omega)];rfl
    ·rw [if_neg hE0,if_neg h4,if_neg h2,if_neg (by omega)];exact Int.toNat_of_nonneg (Int.emod_nonneg _ (by omega))
   have hrs:=fun wx=>Kp (Al c.key 107 [] k) (E.length:Int) wx hr.1 hr.2 (by omega) (by omega)
   rw [←hX2] at hrs;generalize Al c.key 107 [] k=x at *;clear hX hX2;obtain ⟨ao,cap,rfl, -⟩:=hE.open;obtain ⟨alg,slots,points,probes,key,formats⟩:=c;simp only at *;go_enter Tryz.func178,Tryz.ntmps178;go_wp2_with fail;refine (hH _).mono ?_;rintro e w2 ⟨rfl,hb2⟩;have k0:=hb2.cell h0c;have k7:=hb2.cell h7;go_wp2_with fail;refine (hrs _).mono ?_;rintro e w3 ⟨rfl,rfl⟩;go_wp2;go_ret;exact ⟨rfl,hb2⟩
theorem Vh (q:Nat) (c:Ac) (vP vE:Value) (B:List BK) (E:List EI) (k:ByteArray) (w:World) (hT:Hn w q c vP vE) (hP:Am w vP B) (hE:AR w vE E) (hB:E.length≤65536) (hc:c.TOK) (hk:k.size≤4611686018427386000):
  Calls Tryz.prog 127 #[.pointer (some ⟨q,2,none⟩),.string k] w (EH w (GR c B E k)):=by
 have hfi:=TD q c vP vE E k w hT hE hB hc hk;have hnm:=fun x wx (h:Aa w wx)=>Pq q c vP vE B x wx (hT.later h) (hP.later h)
 obtain ⟨X,hX⟩:∃X,X=GR c B E k:=⟨_,rfl⟩;rw [←hX];rw [GR] at hX;generalize Dc c E k=p at *;obtain ⟨-, -,h7⟩:=hT;obtain ⟨ao,cap,rfl,hcell⟩:=hE.open;have hdn:decide ((p:Int)<0)=false:=jK (by omega);by_cases hlt:p<E.length
 ·rw [jG hlt] at hX;simp only at hX;obtain ⟨g,rfl,c0,c1⟩:=hcell p hlt;clear hcell c0;generalize E[p].2=o at *;have hnm:=hnm o;generalize A7 B o=nm at *;subst hX;have hdg:decide ((p:Int)≥(E.length:Int))=false:=jK (by omega);go_enter Tryz.func127,Tryz.ntmps127;go_wp2_with fail;refine hfi.mono ?_;rintro e w2 ⟨rfl,hb2⟩;have k7:=hb2.cell h7;have k1:=hb2.cell c1;have hnm:=hnm w2 hb2;clear hfi;go_wp2_with fail
  first
  |refine hnm.mono ?_
  |(go_quiet (fail);go_wp2_with fail;refine (hnm.mono ?_))
  rintro e w3 ⟨rfl,hb3⟩;go_wp2;go_ret2;exact ⟨rfl,hb2.trans hb3⟩
 ·rw [List.getElem?_eq_none (by omega)] at hX;simp only at hX;subst hX;clear hcell hnm;have hdg:decide ((p:Int)≥(E.length:Int))=true:=jL (by omega);go_enter Tryz.func127,Tryz.ntmps127;go_wp2_with fail;refine hfi.mono ?_;rintro e w2 ⟨rfl,hb2⟩;have k7:=hb2.cell h7;go_wp2_with fail
  first
  |(go_ret2;exact ⟨rfl,hb2⟩)
  |(go_quiet (fail);go_wp2;go_ret2;exact ⟨rfl,by solve_by_elim [jA,jB,jC,jD,jE]⟩)
end Go.Proofs.YtpapdkhjdelfcabGreat
