import Derived.Test.YtpapdkhjdelfcabGreatLAU
import Derived.Deep.RegionHeld3
namespace Go.Proofs.YtpapdkhjdelfcabGreat
open Go.RowKit
set_option maxRecDepth 100000
set_option maxHeartbeats 4000000
theorem Na {w w':World} {q fm g cg cf:Nat} (hb:Aa w w') (c1:w.cell? ⟨q,1,none⟩=some (.int .i64 (g:Int))) (c0:w.cell? ⟨q,0,none⟩=some (.int .i64 (fm:Int))) (c10:w.cell? ⟨q,10,none⟩=some (.int .i64 (cg:Int))) (c11:w.cell? ⟨q,11,none⟩=some (.int .i64 (cf:Int))) (hX:∃ty cs,Ae w.heap.size ty cs w'∧cs.size=5):Aa w w'∧w'.cell? ⟨q,1,none⟩=some (.int .i64 (g:Int))∧w'.cell? ⟨q,0,none⟩=some (.int .i64 (fm:Int))∧w'.cell? ⟨q,10,none⟩=some (.int .i64 (cg:Int))∧w'.cell? ⟨q,11,none⟩=some (.int .i64 (cf:Int))∧w'.cell? ⟨w.heap.size,0,none⟩=some (AZ w' w.heap.size 0)∧w'.cell? ⟨w.heap.size,1,none⟩=some (AZ w' w.heap.size 1)∧w'.cell? ⟨w.heap.size,2,none⟩=some (AZ w' w.heap.size 2)∧w'.cell? ⟨w.heap.size,3,none⟩=some (AZ w' w.heap.size 3)∧w'.cell? ⟨w.heap.size,4,none⟩=some (AZ w' w.heap.size 4)∧w'.frozen? ⟨w.heap.size,0,none⟩=false∧w'.frozen? ⟨w.heap.size,1,none⟩=false∧w'.frozen? ⟨w.heap.size,2,none⟩=false∧w'.frozen? ⟨w.heap.size,3,none⟩=false∧w'.frozen? ⟨w.heap.size,4,none⟩=false:=by
 obtain ⟨ty,cs,hX,hs⟩:=hX;exact ⟨hb,hb.cell c1,hb.cell c0,hb.cell c10,hb.cell c11,five hX hs 0 (by omega),five hX hs 1 (by omega),five hX hs 2 (by omega),five hX hs 3 (by omega),five hX hs 4 (by omega),hX.free 0,hX.free 1,hX.free 2,hX.free 3,hX.free 4⟩
theorem VX {w W0 w9:World} {q fm g cg cf:Nat} {u0 u1 u2 u3 u4:Value} {ty:TypeId} (hw:Aa w W0) (hR:Ae w.heap.size ty #[.int .i64 0,.int .i64 0,.int .i64 0,.int .i64 0,.int .i64 0] W0) (c1:w.cell? ⟨q,1,none⟩=some (.int .i64 (g:Int))) (c0:w.cell? ⟨q,0,none⟩=some (.int .i64 (fm:Int))) (c10:w.cell? ⟨q,10,none⟩=some (.int .i64 (cg:Int))) (c11:w.cell? ⟨q,11,none⟩=some (.int .i64 (cf:Int))) (hb:Aa W0 w9):(fun w'=>Aa w w'∧w'.cell? ⟨q,1,none⟩=some (.int .i64 (g:Int))∧w'.cell? ⟨q,0,none⟩=some (.int .i64 (fm:Int))∧w'.cell? ⟨q,10,none⟩=some (.int .i64 (cg:Int))∧w'.cell? ⟨q,11,none⟩=some (.int .i64 (cf:Int))∧w'.cell? ⟨w.heap.size,0,none⟩=some (AZ w' w.heap.size 0)∧w'.cell? ⟨w.heap.size,1,none⟩=some (AZ w' w.heap.size 1)∧w'.cell? ⟨w.heap.size,2,none⟩=some (AZ w' w.heap.size 2)∧w'.cell? ⟨w.heap.size,3,none⟩=some (AZ w' w.heap.size 3)∧w'.cell? ⟨w.heap.size,4,none⟩=some (AZ w' w.heap.size 4)∧w'.frozen? ⟨w.heap.size,0,none⟩=false∧w'.frozen? ⟨w.heap.size,1,none⟩=false∧w'.frozen? ⟨w.heap.size,2,none⟩=false∧w'.frozen? ⟨w.heap.size,3,none⟩=false∧w'.frozen? ⟨w.heap.size,4,none⟩=false) (((((w9.setCell ⟨w.heap.size,0,none⟩ u0).setCell ⟨w.heap.size,1,none⟩ u1).setCell ⟨w.heap.size,2,none⟩ u2).setCell ⟨w.heap.size,3,none⟩ u3).setCell ⟨w.heap.size,4,none⟩ u4):=
 Na ((hw.trans hb).sets5 (jH _) _ _ _ _ _) c1 c0 c10 c11 ⟨_,_,(((((hR.bel hb).set 0 u0 rfl).set 1 u1 rfl).set 2 u2 rfl).set 3 u3 rfl).set 4 u4 rfl,by simp⟩
theorem Uc (q fm g:Nat) (c:Ac) (vP vE:Value) (cg cf cp:Nat) (vT:Value) (nf:Bool) (T:List TP) (w:World) (h:Ae q 146 (BD fm g c vP vE cg cf cp vT nf) w) (hT:AN w vT T) (hl:T.length≤65536):
  Calls Tryz.prog 60 #[.pointer (some ⟨q,0,none⟩)] w (RQ w (DC g fm cg cf (Dq T))):=by
 unfold BD at h;have c0:w.cell? ⟨q,0,none⟩=some (.int .i64 (fm:Int)):=h.cell 0 rfl;have c1:w.cell? ⟨q,1,none⟩=some (.int .i64 (g:Int)):=h.cell 1 rfl;have c10:w.cell? ⟨q,10,none⟩=some (.int .i64 (cg:Int)):=h.cell 10 rfl;have c11:w.cell? ⟨q,11,none⟩=some (.int .i64 (cf:Int)):=h.cell 11 rfl;have c13:w.cell? ⟨q,13,none⟩=some (vT):=h.cell 13 rfl;have hmi:=fun wx (hx:Aa w wx)=>Sx q vT T wx (hx.cell c13) (hT.later hx) (by omega)
 obtain ⟨W0,hW0⟩:∃W0,W0=w.alloc (.cells #[.int .i64 0,.int .i64 0,.int .i64 0,.int .i64 0,.int .i64 0] 91):=⟨_,rfl⟩;have hbw:Aa w W0:=by rw [hW0];exact (jD w).step_alloc _
 have HR0:Hid (Ae w.heap.size 91 #[.int .i64 0,.int .i64 0,.int .i64 0,.int .i64 0,.int .i64 0] W0):=by show Ae _ _ _ W0;rw [hW0];exact Ae.new _ _ _
 have hql:=h.lt;have hqn:q≠w.heap.size:=by omega
 generalize Dq T=mf at *;clear h hT;go_enter Tryz.func60,Tryz.ntmps60;go_wp2_with fail;rw [←hW0];clear hW0;go_region_held3 (fun w'=>Aa w w'∧w'.cell? ⟨q,1,none⟩=some (.int .i64 (g:Int))∧w'.cell? ⟨q,0,none⟩=some (.int .i64 (fm:Int))∧w'.cell? ⟨q,10,none⟩=some (.int .i64 (cg:Int))∧w'.cell? ⟨q,11,none⟩=some (.int .i64 (cf:Int))∧w'.cell? ⟨w.heap.size,0,none⟩=some (AZ w' w.heap.size 0)∧w'.cell? ⟨w.heap.size,1,none⟩=some (AZ w' w.heap.size 1)∧w'.cell? ⟨w.heap.size,2,none⟩=some (AZ w' w.heap.size 2)∧w'.cell? ⟨w.heap.size,3,none⟩=some (AZ w' w.heap.size 3)∧w'.cell? ⟨w.heap.size,4,none⟩=some (AZ w' w.heap.size 4)∧w'.frozen? ⟨w.heap.size,0,none⟩=false∧w'.frozen? ⟨w.heap.size,1,none⟩=false∧w'.frozen? ⟨w.heap.size,2,none⟩=false∧w'.frozen? ⟨w.heap.size,3,none⟩=false∧w'.frozen? ⟨w.heap.size,4,none⟩=false) ((first|with_reducible exact VX hbw HR0.out c1 c0 c10 c11 (by (repeat (first|with_reducible assumption|with_reducible exact jD _|with_reducible refine jB ?_|with_reducible refine Aa.step_drewN ?_ _|with_reducible refine Aa.trans ?_ (by with_reducible assumption))))|exact Na (hbw.trans (by (repeat (first|with_reducible assumption|with_reducible exact jD _|with_reducible refine jB ?_|with_reducible refine Aa.step_drewN ?_ _|with_reducible refine Aa.trans ?_ (by with_reducible assumption))))) c1 c0 c10 c11 ⟨_,_,HR0.out.bel (by (repeat (first|with_reducible assumption|with_reducible exact jD _|with_reducible refine jB ?_|with_reducible refine Aa.step_drewN ?_ _|with_reducible refine Aa.trans ?_ (by with_reducible assumption)))),rfl⟩)) ((go_at_call 111;refine Calls.mono (hmi _ (hbw.trans (by (repeat (first|with_reducible assumption|with_reducible exact jD _|with_reducible refine jB ?_|with_reducible refine Aa.step_drewN ?_ _|with_reducible refine Aa.trans ?_ (by with_reducible assumption)))))) ?_;rintro e w9 ⟨rfl,hb9⟩));have hb09:Aa W0 w9:=by (repeat (first|with_reducible assumption|with_reducible exact jD _|with_reducible refine jB ?_|with_reducible refine Aa.step_drewN ?_ _|with_reducible refine Aa.trans ?_ (by with_reducible assumption)))
 have R9:=HR0.out.bel hb09;have r0:=R9.cell 0 rfl;have r1:=R9.cell 1 rfl;have r2:=R9.cell 2 rfl;have r3:=R9.cell 3 rfl;have r4:=R9.cell 4 rfl;have HB:=jp (hbw.trans hb09);clear R9 hb09;go_wp2;exact bodyPost_ret (v:=DC g fm cg cf mf) (by simp [DC,results,Tryz.results60,go_sem,r0,r1,r2,r3,r4]) rfl ⟨rfl,HB.out.sets5 (jH _) _ _ _ _ _⟩
variable {vL:Value}
theorem M3 (c:Ac):An c []=[]:=by rw [An,if_pos];simp [As]
def NF (c:Ac) (w:World) (e:Ending) (w':World):Prop:=∃q,e= .returned (.tuple #[.pointer (some ⟨q,0,none⟩),.int .i64 0])∧Aa w w'∧w.heap.size≤q∧q<w'.heap.size∧∀M:List Nat,q∈M→Bt (.slice none 0 0) M q c [] 0 w'
theorem PG (c:Ac) (w:World) (hc:c.OK):
  Calls Tryz.prog 23 #[.agg c.cells] w (NF c w):=by
 have hcf:=fun wx=>OI c wx
 unfold NF;have hmk:=M3 c;have HC:=jp hc;unfold Bt JA;rw [hmk];unfold Cx;obtain ⟨alg,slots,points,probes,key,formats⟩:=c;simp only [Ac.cells] at *;clear hc hmk;go_enter Tryz.func23,Tryz.ntmps23;go_wp2_with fail;refine (hcf _).mono ?_;rintro e w1 ⟨x,rfl,hb1,hx⟩;have hxt:x=true:=hx.2 HC.out;subst hxt;have hb0:Aa w w1:=(Aa.step_alloc (jD w) _).trans hb1;have k0:w1.cell? ⟨w.heap.size,0,none⟩=some (.int .i64 alg):=hb1.cell (by simp);have k1:w1.cell? ⟨w.heap.size,1,none⟩=some (.int .i64 slots):=hb1.cell (by simp);have k2:w1.cell? ⟨w.heap.size,2,none⟩=some (.int .i64 points):=hb1.cell (by simp);have k3:w1.cell? ⟨w.heap.size,3,none⟩=some (.int .i64 probes):=hb1.cell (by simp);have k4:w1.cell? ⟨w.heap.size,4,none⟩=some (.string key):=hb1.cell (by simp);have k5:w1.cell? ⟨w.heap.size,5,none⟩=some (.int .i64 formats):=hb1.cell (by simp);clear hx hb1 hcf;go_wp2;go_ret2;refine ⟨w1.heap.size,rfl,hb0.step_alloc _,hb0.size,by simp,fun M hM=>⟨hM,.slice none 0 0,.slice none 0 0,⟨⟨by simp,by simp,by simp,by simp,by simp,by simp⟩,by simp,by simp⟩,by simp,⟨⟨by simp,by simp,by simp,by simp,by simp,by simp,by simp,by simp,by simp⟩,by simp,by simp⟩,Or.inl ⟨rfl,rfl,rfl⟩,Or.inl ⟨rfl,rfl,rfl⟩⟩⟩
theorem XU (t1 t2:ByteArray) (w:World) (h1:t1.size≤1099511627776) (h2:t2.size≤1099511627776):
  Calls Tryz.prog 91 #[.string t1,.string t2] w (Ff w (DN t1.data.toList t2.data.toList)):=by
 have H:=jp (Vf t1 t2 w h1 h2);generalize DN t1.data.toList t2.data.toList=x at *;go_enter Tryz.func91,Tryz.ntmps91;go_wp2_with fail;refine H.out.mono ?_;rintro e w1 ⟨rfl,hb1⟩;have HB1:=jp hb1;clear hb1 H;go_wp2;go_ret2;exact ⟨rfl,HB1.out⟩
theorem QE (t1 t2:ByteArray) (w:World) (h1:t1.size≤1099511627776) (h2:t2.size≤1099511627776):
  Calls Tryz.prog 93 #[.string t1,.string t2] w (Ff w (DH t1.data.toList t2.data.toList)):=by
 have H:=jp (W7 t1 t2 w h1 h2);generalize DH t1.data.toList t2.data.toList=x at *;go_enter Tryz.func93,Tryz.ntmps93;go_wp2_with fail;refine H.out.mono ?_;rintro e w1 ⟨rfl,hb1⟩;have HB1:=jp hb1;clear hb1 H;go_wp2;go_ret2;exact ⟨rfl,HB1.out⟩
noncomputable def Jm (l:List UInt8):List UInt8×List UInt8×Nat×Int:=match Bj l with
 |some (_,g,c,B,E)=>(BJ 1 g c B E,BJ 2 g c B E,g,0)
 |none=>([],[],0,9)
def Ww (w:World) (x:List UInt8×List UInt8×Nat×Int) (e:Ending) (w':World):Prop:=e= .returned (.tuple #[.string (Ai x.1),.string (Ai x.2.1),.int .i64 (x.2.2.1:Int),.int .i64 x.2.2.2])∧Aa w w'
theorem Sh (t:ByteArray) (w:World) (h1:t.size≤1099511627776):
  Calls Tryz.prog 89 #[.string t] w (Ww w (Jm t.data.toList)):=by
 have hr1:=fun wx=>JL t wx h1
 rcases hi1:Bj t.data.toList with _|⟨f,g,c,B,E⟩
 ·rw [hi1] at hr1;unfold FH CU at hr1;have HF:Hid (Jm t.data.toList=([],[],0,9)):=by show _=_;unfold Jm;rw [hi1]
  rw [HF.out];go_enter Tryz.func89,Tryz.ntmps89;go_wp2_with fail;refine (hr1 _).mono ?_;rintro e w1 ⟨hb1,rfl⟩;go_wp2;exact bodyPost_ret (v:= .tuple #[.string (Ai []),.string (Ai []),.int .i64 0,.int .i64 9]) (by simp [results,Tryz.results89,go_sem,Sc]) rfl ⟨rfl,hb1.step_alloc _⟩
 ·rw [hi1] at hr1;unfold FH D8 at hr1;have ok1:=Hp hi1;have hl1:=ok1.len;have hg1:=ok1.right.1.2;have HF:Hid (Jm t.data.toList=(BJ 1 g c B E,BJ 2 g c B E,g,0)):=by show _=_;unfold Jm;rw [hi1]
  have hw1:=fun vP vE wx hP hE=>Js 1 g c B E vP vE wx (by omega) (by omega) ok1.tok hP ok1.good.1 hE (fun e he=>(ok1.ents e he).1) (by omega)
  have hw2:=fun vP vE wx hP hE=>Js 2 g c B E vP vE wx (by omega) (by omega) ok1.tok hP ok1.good.1 hE (fun e he=>(ok1.ents e he).1) (by omega)
  unfold DW at hw1 hw2;rw [HF.out];generalize BJ 1 g c B E=I1 at *;generalize BJ 2 g c B E=I2 at *;clear ok1 HF hi1;go_enter Tryz.func89,Tryz.ntmps89;go_wp2_with fail;refine (hr1 _).mono ?_;rintro e w1 ⟨hb1,vP1,vE1,rfl,hoP1,hoE1⟩;obtain ⟨aP,kP,rfl⟩:=B8 hoP1;obtain ⟨aE,kE,rfl⟩:=B8 hoE1;have HP:=jp (AJ.pool hoP1);have HE:=jp (AS.ents hoE1);have HB1:=jp hb1;obtain ⟨W1,hW1⟩:∃W1,W1=w1.alloc (.cells #[.int .i64 (f:Int),.int .i64 (g:Int),.int .i64 c.alg,.int .i64 c.slots,.int .i64 c.points,.int .i64 c.probes,.string c.key,.int .i64 c.formats,.slice aP B.length kP,.slice aE E.length kE] 173):=⟨_,rfl⟩;have hbw:Aa w1 W1:=by rw [hW1];exact (jD w1).step_alloc _
  have HX:Hid (Ae w1.heap.size 173 #[.int .i64 (f:Int),.int .i64 (g:Int),.int .i64 c.alg,.int .i64 c.slots,.int .i64 c.points,.int .i64 c.probes,.string c.key,.int .i64 c.formats,.slice aP B.length kP,.slice aE E.length kE] W1):=by show Ae _ _ _ W1;rw [hW1];exact Ae.new _ _ _
  have H1:=jp (hw1 _ _ W1 (HP.out.later hbw) (Bv.of (HE.out.later hbw)));have HBW:=jp hbw;clear hoP1 hoE1 hb1 hr1 hw1 hbw;go_wp2_with fail;rw [←hW1];clear hW1;refine H1.out.mono ?_;rintro e w2 ⟨rfl,hb2⟩;have X2:=HX.out.bel hb2;have HB2:=jp (HBW.out.trans hb2);have x1:=X2.cell 1 rfl;have x2:=X2.cell 2 rfl;have x3:=X2.cell 3 rfl;have x4:=X2.cell 4 rfl;have x5:=X2.cell 5 rfl;have x6:=X2.cell 6 rfl;have x7:=X2.cell 7 rfl;have x8:=X2.cell 8 rfl;have x9:=X2.cell 9 rfl;have H2:=jp (hw2 _ _ w2 (HP.out.later HB2.out) (Bv.of (HE.out.later HB2.out)));have HX2:=jp X2;clear X2 hb2 H1 hw2;go_wp2_with fail;refine H2.out.mono ?_;rintro e w3 ⟨rfl,hb3⟩;have X3:=HX2.out.bel hb3;have y1:=X3.cell 1 rfl;have HB3:=jp (HB1.out.trans (HB2.out.trans hb3));clear X3 hb3 H2 x1 x2 x3 x4 x5 x6 x7 x8 x9;go_wp2_with fail;go_quiet (fail);go_wp2;exact bodyPost_ret (v:= .tuple #[.string (Ai I1),.string (Ai I2),.int .i64 (g:Int),.int .i64 0]) (by simp [results,Tryz.results89,go_sem]) rfl ⟨rfl,HB3.out.step_drewN _⟩
def Dd (cg cf cm g:Nat):Nat:=if cm≠3 then cm else if cg=g∧cf=1 then 1 else 2
theorem Un (h fo cg cf mi cm g:Nat) (w:World):
  Calls Tryz.prog 121 #[DC h fo cg cf mi,.int .i64 (cm:Int),.int .i64 (g:Int)] w (D9 w (Dd cg cf cm g)):=by
 unfold DC;have HF:Hid (Dd cg cf cm g=if cm≠3 then cm else if cg=g∧cf=1 then 1 else 2):=rfl;by_cases h3:cm=3
 ·subst h3;rw [if_neg (by simp)] at HF;by_cases hg:cg=g
  ·subst hg;by_cases hf:cf=1
   ·subst hf;rw [if_pos (by simp)] at HF;go_enter Tryz.func121,Tryz.ntmps121;go_wp2;go_ret;exact ⟨BO (by rw [HF.out];rfl),by solve_by_elim [jA,jB,jC,jD,jE]⟩
   ·have hfb:((cf:Int)==1)=false:=by rw [jI];omega
    rw [if_neg (fun h=>hf h.2)] at HF;go_enter Tryz.func121,Tryz.ntmps121;go_wp2;go_ret;exact ⟨BO (by rw [HF.out];rfl),by solve_by_elim [jA,jB,jC,jD,jE]⟩
  ·have hgb:((cg:Int)==(g:Int))=false:=by rw [jI];omega
   rw [if_neg (fun h=>hg h.1)] at HF;go_enter Tryz.func121,Tryz.ntmps121;go_wp2;go_ret;exact ⟨BO (by rw [HF.out];rfl),by solve_by_elim [jA,jB,jC,jD,jE]⟩
 ·have h3b:((cm:Int) !=3)=true:=by rw [bne_iff_ne];omega
  rw [if_pos h3] at HF;go_enter Tryz.func121,Tryz.ntmps121;go_wp2;go_ret;exact ⟨BO (by rw [HF.out]),by solve_by_elim [jA,jB,jC,jD,jE]⟩
def I9 (f:Int) (g:Nat) (c:Ac) (B:List BK) (E:List EI):List UInt8×Int:=if 1≤f∧f≤2 then if g=0 then ([],7) else (BJ f.toNat g c B E,0) else ([],11)
theorem YB (q:Nat) (f:Int) (g:Nat) (c:Ac) (vP vE:Value) (B:List BK) (E:List EI) (w:World) (hT:Cx w q c vP vE) (t8:w.cell? ⟨q,8,none⟩=some (.int .i64 (g:Int))) (hP:Am w vP B) (hE:AR w vE E) (hB:AL B) (hc:c.TOK) (hok:∀e∈E,Fp e) (hlen:E.length≤65536) (hg:g≤4611686018427387904):
  Calls Tryz.prog 99 #[.pointer (some ⟨q,0,none⟩),.int .i64 f] w (Ff w (I9 f g c B E)):=by
 have hfm:=fun wx=>Pb f wx
 have HF:Hid (I9 f g c B E=if 1≤f∧f≤2 then if g=0 then ([],7) else (BJ f.toNat g c B E,0) else ([],11)):=rfl;obtain ⟨⟨t0,t1,t2,t3,t4,t5⟩,t6,t7⟩:=hT;by_cases hf:1≤f∧f≤2
 rotate_left
 ·rw [if_neg hf] at HF;go_enter Tryz.func99,Tryz.ntmps99;go_wp2_with fail;refine (hfm _).mono ?_;rintro e w1 ⟨x,rfl,rfl,hx⟩
  have hxf:x=false:=by
   cases x
   ·rfl
   ·exact absurd (hx.1 rfl) hf
  subst hxf;clear hx hfm hP hE hok hf;go_wp2;go_ret2;rw [HF.out];exact ⟨rfl,by solve_by_elim [jA,jB,jC,jD,jE]⟩
 rw [if_pos hf] at HF;obtain ⟨n,rfl⟩:∃n:Nat,f=(n:Int):=⟨f.toNat,by omega⟩;by_cases h0:g=0
 ·subst h0;rw [if_pos rfl] at HF;replace t8:w.cell? ⟨q,8,none⟩=some (.int .i64 0):=t8;go_enter Tryz.func99,Tryz.ntmps99;go_wp2_with fail;refine (hfm _).mono ?_;rintro e w1 ⟨x,rfl,rfl,hx⟩;have hxf:x=true:=hx.2 hf;subst hxf;clear hx hfm hP hE hok hf;go_wp2;go_ret2;rw [HF.out];exact ⟨rfl,by solve_by_elim [jA,jB,jC,jD,jE]⟩
 ·rw [if_neg h0] at HF;have hg0:((g:Int)==0)=false:=by rw [jI];omega
  have hwi:=fun wx h1 h2=>Js n g c B E vP vE wx (by omega) hg hc h1 hB h2 hok hlen
  unfold DW at hwi;rw [Int.toNat_natCast] at HF;generalize BJ n g c B E=IB at *;have HP:=jp hP;have HE:=jp hE;clear hP hE hok hB hc;go_enter Tryz.func99,Tryz.ntmps99;go_wp2_with fail;refine (hfm _).mono ?_;rintro e w1 ⟨x,rfl,rfl,hx⟩;have hxf:x=true:=hx.2 hf;subst hxf;clear hx hfm hf;go_wp2_with fail;go_region_held3 (fun w'=>Aa w w'∧w'.cell? ⟨q,8,none⟩=some (.int .i64 (g:Int))∧w'.cell? ⟨q,0,none⟩=some (.int .i64 c.alg)∧w'.cell? ⟨q,1,none⟩=some (.int .i64 c.slots)∧w'.cell? ⟨q,2,none⟩=some (.int .i64 c.points)∧w'.cell? ⟨q,3,none⟩=some (.int .i64 c.probes)∧w'.cell? ⟨q,4,none⟩=some (.string c.key)∧w'.cell? ⟨q,5,none⟩=some (.int .i64 c.formats)∧w'.cell? ⟨q,6,none⟩=some (vP)∧w'.cell? ⟨q,7,none⟩=some (vE)) ((exact ⟨by solve_by_elim [jA,jB,jC,jD,jE],Aa.cell (by solve_by_elim [jA,jB,jC,jD,jE]) t8,Aa.cell (by solve_by_elim [jA,jB,jC,jD,jE]) t0,Aa.cell (by solve_by_elim [jA,jB,jC,jD,jE]) t1,Aa.cell (by solve_by_elim [jA,jB,jC,jD,jE]) t2,Aa.cell (by solve_by_elim [jA,jB,jC,jD,jE]) t3,Aa.cell (by solve_by_elim [jA,jB,jC,jD,jE]) t4,Aa.cell (by solve_by_elim [jA,jB,jC,jD,jE]) t5,Aa.cell (by solve_by_elim [jA,jB,jC,jD,jE]) t6,Aa.cell (by solve_by_elim [jA,jB,jC,jD,jE]) t7⟩)) ((go_at_call 122;refine Calls.mono (hwi _ (HP.out.later (by solve_by_elim [jA,jB,jC,jD,jE])) (Bv.of (HE.out.later (by solve_by_elim [jA,jB,jC,jD,jE])))) ?_;rintro e w3 ⟨rfl,hb3⟩))
  all_goals
   have HB:Hid (Aa w w3):=by show Aa w w3;solve_by_elim [jA,jB,jC,jD,jE]
   go_wp2;go_ret2;rw [HF.out];exact ⟨rfl,HB.out⟩
def Iq (ps:List Nat):List Value:=ps.map fun p=> .pointer (some ⟨p,0,none⟩)
def Eu (w:World) (v:Value) (ps:List Nat):Prop:=w.ownsRow 0 88 1 v ps.length (Iq ps)
theorem Eu.open {w:World} {v:Value} {ps:List Nat} (h:Eu w v ps):∃ao cap,v= .slice ao ps.length cap∧∀j (hj:j<ps.length),∃g,ao=some ⟨g,0,none⟩∧w.cell? ⟨g,j,none⟩=some (.pointer (some ⟨ps[j],0,none⟩)):=by
 rcases h.2 with ⟨h1,h2⟩|⟨g,cap,cur,h1,_⟩
 ·exact ⟨none,0,by rw [h1,h2],fun j hj=>by omega⟩
 ·refine ⟨_,_,h1,fun j hj=>⟨g,rfl,?_⟩⟩;have:=h.cells (g:=g) (by rw [h1];rfl) j (.pointer (some ⟨ps[j],0,none⟩)) (by simp [Iq,hj]);have hadd:(⟨g,0,none⟩:Addr).add j=⟨g,j,none⟩:=by unfold Addr.add;split <;>simp_all
  rwa [hadd] at this
theorem Eu.later {w w':World} {v:Value} {ps:List Nat} (h:Eu w v ps) (k:Aa w w'):Eu w' v ps:=CV h k
def Iz (ps:List Nat) (d:Int):Value:= .pointer (if 0≤d then (ps[d.toNat]?).map (fun p=>⟨p,0,none⟩) else none)
theorem Wj (q:Nat) (d:Int) (vL:Value) (ps:List Nat) (w:World) (c9:w.cell? ⟨q,9,none⟩=some vL) (hL:Eu w vL ps):
  Calls Tryz.prog 59 #[.pointer (some ⟨q,0,none⟩),.int .i64 d] w (RQ w (Iz ps d)):=by
 obtain ⟨ao,cap,rfl,hc⟩:=hL.open;have HV:Hid (Iz ps d= .pointer (if 0≤d then (ps[d.toNat]?).map (fun p=>⟨p,0,none⟩) else none)):=rfl;clear hL;by_cases hd:0≤d
 ·rw [if_pos hd] at HV;obtain ⟨n,rfl⟩:∃n:Nat,d=(n:Int):=⟨d.toNat,by omega⟩;rw [Int.toNat_natCast] at HV;clear hd;by_cases hn:n<ps.length
  ·rw [jG hn] at HV;obtain ⟨g,rfl,e0⟩:=hc n hn;clear hc;generalize ps[n]=pn at *;go_enter Tryz.func59,Tryz.ntmps59;go_wp2;go_ret;exact ⟨by rw [HV.out];rfl,by solve_by_elim [jA,jB,jC,jD,jE]⟩
  ·rw [List.getElem?_eq_none (by omega)] at HV;clear hc;go_enter Tryz.func59,Tryz.ntmps59;go_wp2;go_ret;exact ⟨by rw [HV.out];rfl,by solve_by_elim [jA,jB,jC,jD,jE]⟩
 ·rw [if_neg hd] at HV;have hd2:d<0:=by omega
  clear hc hd;go_enter Tryz.func59,Tryz.ntmps59;go_wp2;go_ret;exact ⟨by rw [HV.out];rfl,by solve_by_elim [jA,jB,jC,jD,jE]⟩
def IS (g fm cg cf:Nat) (T:List TP):List UInt8:=AK (DL g fm cg cf (Dq T))++Cn (CB (AK (DL g fm cg cf (Dq T))))
theorem OS:∀(T:List TP) (k:Nat),GB T k≤k+T.length
 |[],k=>by simp [GB]
 |x::T,k=>by
  rw [GB];have:=OS T (k+1);split <;>simp <;>omega
theorem Sb (q:Nat) (d:Int) (w:World) (hd:Calls Tryz.prog 59 #[.pointer (some ⟨q,0,none⟩),.int .i64 d] w (RQ w (.pointer none))):
  Calls Tryz.prog 29 #[.pointer (some ⟨q,0,none⟩),.int .i64 d] w (Ff w ([],4)):=by
 have H:=jp hd;clear hd;go_enter Tryz.func29,Tryz.ntmps29;go_wp2_with fail;refine H.out.mono ?_;rintro e w1 ⟨rfl,hb1⟩;have HB1:=jp hb1;clear hb1 H;go_wp2;go_ret2;exact ⟨rfl,HB1.out⟩
theorem QY (q p:Nat) (d:Int) (fm g:Nat) (c:Ac) (vP vE:Value) (cg cf cp:Nat) (vT:Value) (nf:Bool) (T:List TP) (w:World) (hd:Calls Tryz.prog 59 #[.pointer (some ⟨q,0,none⟩),.int .i64 d] w (RQ w (.pointer (some ⟨p,0,none⟩)))) (h:Ae p 146 (BD fm g c vP vE cg cf cp vT nf) w) (hT:AN w vT T) (hl:T.length≤65536) (b1:g≤4611686018427387904) (b2:fm≤4611686018427387904) (b3:cg≤4611686018427387904) (b4:cf≤4611686018427387904):
  Calls Tryz.prog 29 #[.pointer (some ⟨q,0,none⟩),.int .i64 d] w (Ff w (IS g fm cg cf T,0)):=by
 have H:=jp hd;have hq:=fun wx (hx:Aa w wx)=>Uc p fm g c vP vE cg cf cp vT nf T wx (h.bel hx) (hT.later hx) hl
 have hm:Dq T≤4611686018427387904:=by have:=OS T 0;unfold Dq;omega
 have hwq:=fun wx=>SF g fm cg cf (Dq T) wx b1 b2 b3 b4 hm
 unfold IS;unfold DC at hq;generalize AK (DL g fm cg cf (Dq T))++Cn (CB (AK (DL g fm cg cf (Dq T))))=TB at *;generalize Dq T=mf at *;clear hd h hT;go_enter Tryz.func29,Tryz.ntmps29;go_wp2_with fail;refine H.out.mono ?_;rintro e w1 ⟨rfl,hb1⟩;have H2:=jp (hq w1 hb1);have HB1:=jp hb1;clear hb1 H hq;go_wp2_with fail;refine H2.out.mono ?_;rintro e w2 ⟨rfl,hb2⟩;have HB2:=jp ((HB1.out.trans hb2).step_alloc (.cells #[.int .i64 (g:Int),.int .i64 (fm:Int),.int .i64 (cg:Int),.int .i64 (cf:Int),.int .i64 (mf:Int)] 91));clear hb2 H2 HB1;go_wp2_with fail;refine (hwq _).mono ?_;rintro e w3 ⟨rfl,hb3⟩;have HB3:=jp (HB2.out.trans hb3);clear hb3 HB2;go_wp2;go_ret2;exact ⟨rfl,HB3.out⟩
theorem UK (q:Nat) (d:Int) (w:World) (hd:Calls Tryz.prog 59 #[.pointer (some ⟨q,0,none⟩),.int .i64 d] w (RQ w (.pointer none))):
  Calls Tryz.prog 32 #[.pointer (some ⟨q,0,none⟩),.int .i64 d] w (F4 w (0,4)):=by
 have H:=jp hd;clear hd;go_enter Tryz.func32,Tryz.ntmps32;go_wp2_with fail;refine H.out.mono ?_;rintro e w1 ⟨rfl,hb1⟩;have HB1:=jp hb1;clear hb1 H;go_wp2;go_ret2;exact ⟨rfl,HB1.out⟩
theorem Td (q p:Nat) (d:Int) (fm g:Nat) (c:Ac) (vP vE:Value) (cg cf cp:Nat) (vT:Value) (nf:Bool) (w:World) (hd:Calls Tryz.prog 59 #[.pointer (some ⟨q,0,none⟩),.int .i64 d] w (RQ w (.pointer (some ⟨p,0,none⟩)))) (h:Ae p 146 (BD fm g c vP vE cg cf cp vT nf) w):
  Calls Tryz.prog 32 #[.pointer (some ⟨q,0,none⟩),.int .i64 d] w (F4 w (Ix g nf)):=by
 have H:=jp hd;have hq:=fun wx (hx:Aa w wx)=>YN p fm g c vP vE cg cf cp vT nf wx (h.bel hx)
 generalize Ix g nf=hv at *;clear hd h;go_enter Tryz.func32,Tryz.ntmps32;go_wp2_with fail;refine H.out.mono ?_;rintro e w1 ⟨rfl,hb1⟩;have H2:=jp (hq w1 hb1);have HB1:=jp hb1;clear hb1 H hq;go_wp2_with fail;refine H2.out.mono ?_;rintro e w2 ⟨rfl,hb2⟩;have HB2:=jp (HB1.out.trans hb2);clear hb2 H2 HB1;go_wp2;go_ret2;exact ⟨rfl,HB2.out⟩
theorem Vu (q:Nat) (d:Int) (k:ByteArray) (w:World) (hd:Calls Tryz.prog 59 #[.pointer (some ⟨q,0,none⟩),.int .i64 d] w (RQ w (.pointer none))):
  Calls Tryz.prog 33 #[.pointer (some ⟨q,0,none⟩),.int .i64 d,.string k] w (EH w (⟨#[]⟩,4)):=by
 have H:=jp hd;clear hd;go_enter Tryz.func33,Tryz.ntmps33;go_wp2_with fail;refine H.out.mono ?_;rintro e w1 ⟨rfl,hb1⟩;have HB1:=jp hb1;clear hb1 H;go_wp2;go_ret2;exact ⟨rfl,HB1.out⟩
theorem QU (q p:Nat) (d:Int) (k:ByteArray) (fm g:Nat) (c:Ac) (vP vE:Value) (cg cf cp:Nat) (vT:Value) (nf:Bool) (B:List BK) (E:List EI) (w:World) (hd:Calls Tryz.prog 59 #[.pointer (some ⟨q,0,none⟩),.int .i64 d] w (RQ w (.pointer (some ⟨p,0,none⟩)))) (h:Ae p 146 (BD fm g c vP vE cg cf cp vT nf) w) (hP:Am w vP B) (hE:AR w vE E) (hlen:E.length≤65536) (hc:g≠0→c.TOK) (hk:k.size≤4611686018427386000):
  Calls Tryz.prog 33 #[.pointer (some ⟨q,0,none⟩),.int .i64 d,.string k] w (EH w (IR g c B E k)):=by
 have H:=jp hd;have hq:=fun wx (hx:Aa w wx)=>XZ p fm g c vP vE cg cf cp vT nf B E k wx (h.bel hx) (hP.later hx) (hE.later hx) hlen hc hk
 generalize IR g c B E k=hv at *;clear hd h hP hE hc;go_enter Tryz.func33,Tryz.ntmps33;go_wp2_with fail;refine H.out.mono ?_;rintro e w1 ⟨rfl,hb1⟩;have H2:=jp (hq w1 hb1);have HB1:=jp hb1;clear hb1 H hq;go_wp2_with fail;refine H2.out.mono ?_;rintro e w2 ⟨rfl,hb2⟩;have HB2:=jp (HB1.out.trans hb2);clear hb2 H2 HB1;go_wp2;go_ret2;exact ⟨rfl,HB2.out⟩
def KM (w:World) (err:Int) (e:Ending) (w':World):Prop:=e= .returned (.int .i64 err)∧Aa w w'
def QZ (p:Nat) (cs:Array Value) (w:World) (e:Ending) (w':World):Prop:=e= .returned (.int .i64 0)∧Ab [p] w w'∧Ae p 146 cs w'
theorem VM (q:Nat) (d:Int) (w:World) (hd:Calls Tryz.prog 59 #[.pointer (some ⟨q,0,none⟩),.int .i64 d] w (RQ w (.pointer none))):
  Calls Tryz.prog 78 #[.pointer (some ⟨q,0,none⟩),.int .i64 d] w (KM w 4):=by
 have H:=jp hd;clear hd;go_enter Tryz.func78,Tryz.ntmps78;go_wp2_with fail;refine H.out.mono ?_;rintro e w1 ⟨rfl,hb1⟩;have HB1:=jp hb1;clear hb1 H;go_wp2;go_ret;exact ⟨rfl,HB1.out⟩
theorem Xc (q p:Nat) (d:Int) (fm g:Nat) (c:Ac) (vP vE:Value) (cg cf cp:Nat) (vT:Value) (nf:Bool) (w:World) (hd:Calls Tryz.prog 59 #[.pointer (some ⟨q,0,none⟩),.int .i64 d] w (RQ w (.pointer (some ⟨p,0,none⟩)))) (h:Ae p 146 (BD fm g c vP vE cg cf cp vT nf) w):
  Calls Tryz.prog 78 #[.pointer (some ⟨q,0,none⟩),.int .i64 d] w (QZ p (FW fm) w):=by
 have H:=jp hd;have hq:=fun wx (hx:Aa w wx)=>Wh p fm g c vP vE cg cf cp vT nf wx (h.bel hx)
 generalize FW fm=pn at *;clear hd h;go_enter Tryz.func78,Tryz.ntmps78;go_wp2_with fail;refine H.out.mono ?_;rintro e w1 ⟨rfl,hb1⟩;have H2:=jp (hq w1 hb1);have HB1:=jp hb1;clear hb1 H hq;go_wp2_with fail;refine H2.out.mono ?_;rintro e w2 ⟨rfl,hB2,hX2⟩;have HB2:=jp ((Ab.of_bel (M:=[p]) HB1.out).trans hB2);have HX2:=jp hX2;clear hB2 hX2 H2 HB1;go_wp2;go_ret;exact ⟨rfl,HB2.out,HX2.out⟩
theorem Ox {l:List UInt8} {a:Bl} (h:DY l=some a):EO a∧a.2.1<4294967296∧a.2.2.1<256∧a.2.2.2.1<65536∧a.2.2.2.2.1<65536∧a.2.2.2.2.2.length≤48:=by
 unfold DY at h;cases hO:CQ l with
 |none=>rw [hO] at h;cases h
 |some b=>
  rw [hO] at h;have h':(Hw (b.length - 11) (Az b)).bind (fun y=>if BW (some y.2)=true∧y.1.1=[65]∧EO y.1.2 then some y.1.2 else none)=some a:=h;cases hX:Hw (b.length - 11) (Az b) with
  |none=>rw [hX] at h';cases h'
  |some y=>
   rw [hX] at h';have h2:(if BW (some y.2)=true∧y.1.1=[65]∧EO y.1.2 then some y.1.2 else none)=some a:=h';split at h2
   ·rename_i hok;injection h2 with h2
    subst h2;refine ⟨hok.2.2,?_⟩;obtain ⟨t,Y1, -,hX⟩:=Da hX;obtain ⟨k,Y2, -,hX⟩:=Da hX;split at hX
    ·obtain ⟨g,Y3,p1,hX⟩:=Da hX;obtain ⟨f,Y4,p2,hX⟩:=Da hX;obtain ⟨c,Y5,p3,hX⟩:=Da hX;obtain ⟨n,Y6,p4,hX⟩:=Da hX;obtain ⟨s,Y7, -,hX⟩:=Da hX;unfold DT at hX;injection hX with hX
     subst hX;refine ⟨(Dx p1).1,(Dx p2).1,(Dx p3).1,(Dx p4).1,?_⟩;rcases hok.2.2 with h|h|h
     ·cases h
     ·cases h
     ·exact h.2.2
    ·unfold DT at hX;injection hX with hX
     subst hX;exact ⟨by simp,by simp,by simp,by simp,by simp⟩
   ·cases h2
def Ra (p fm g:Nat) (c:Ac) (vP vE:Value) (cg cf cp:Nat) (vT:Value) (nf:Bool) (T:List TP) (o:Option Bl) (w:World) (e:Ending) (w':World):Prop:=e= .returned (.int .i64 0)∧match o with
 |none=>Aa w w'
 |some a=>∃w0,Aa w w0∧My p fm g c vP vE cg cf cp vT nf T a w0 (.returned (.tuple #[])) w'
theorem UA (q:Nat) (d:Int) (t:ByteArray) (w:World) (hd:Calls Tryz.prog 59 #[.pointer (some ⟨q,0,none⟩),.int .i64 d] w (RQ w (.pointer none))):
  Calls Tryz.prog 31 #[.pointer (some ⟨q,0,none⟩),.int .i64 d,.string t] w (KM w 4):=by
 have H:=jp hd;clear hd;go_enter Tryz.func31,Tryz.ntmps31;go_wp2_with fail;refine H.out.mono ?_;rintro e w1 ⟨rfl,hb1⟩;have HB1:=jp hb1;clear hb1 H;go_wp2;go_ret;exact ⟨rfl,HB1.out⟩
theorem WJ (q p:Nat) (d:Int) (t:ByteArray) (fm g:Nat) (c:Ac) (vP vE:Value) (cg cf cp:Nat) (vT:Value) (nf:Bool) (T:List TP) (w:World) (hd:Calls Tryz.prog 59 #[.pointer (some ⟨q,0,none⟩),.int .i64 d] w (RQ w (.pointer (some ⟨p,0,none⟩)))) (h:Ae p 146 (BD fm g c vP vE cg cf cp vT nf) w) (hT:AN w vT T) (hl:T.length≤65535) (hs:∀x∈T,x.2.length≤65536) (hfm:fm<256) (ht:t.size≤1099511627776):
  Calls Tryz.prog 31 #[.pointer (some ⟨q,0,none⟩),.int .i64 d,.string t] w (Ra p fm g c vP vE cg cf cp vT nf T (DY t.data.toList) w):=by
 have H:=jp hd;have hra:=fun wx=>Wl t wx ht
 have HX:=jp h;have HT:=jp hT;clear hd h hT;rcases ho:DY t.data.toList with _|a
 ·rw [ho] at hra;unfold Lz CR BP at hra;go_enter Tryz.func31,Tryz.ntmps31;go_wp2_with fail;refine H.out.mono ?_;rintro e w1 ⟨rfl,hb1⟩;have HB1:=jp hb1;clear hb1 H;go_wp2_with fail;refine (hra _).mono ?_;rintro e w2 ⟨rfl,hb2⟩;have HB2:=jp ((HB1.out.trans hb2).step_alloc (.cells #[.int .i64 0,.int .i64 0,.int .i64 0,.int .i64 0,.int .i64 0,.string (Ai [])] 97));clear hb2 hra HB1;go_wp2;go_ret;exact ⟨rfl,HB2.out⟩
 ·rw [ho] at hra;have ok:=Ox ho
  have hk:a.1=0∨a.1=1∨a.1=2:=by
   rcases ok.1 with h|h|h
   ·exact Or.inl h
   ·exact Or.inr (Or.inr h)
   ·exact Or.inr (Or.inl h.1)
  have htk:=fun wx (hx:Aa w wx)=>WQ p fm g c vP vE cg cf cp vT nf T a wx (HX.out.bel hx) (HT.out.later hx) hl hs (by have:=ok.2.2.2.2.2;omega) ok.2.2.1 hfm hk
  unfold Lz CR BP at hra;unfold GZ at htk;clear ok hk ho;obtain ⟨k,ag,af,ap,an,ab⟩:=a;simp only at *;go_enter Tryz.func31,Tryz.ntmps31;go_wp2_with fail;refine H.out.mono ?_;rintro e w1 ⟨rfl,hb1⟩;have HB1:=jp hb1;clear hb1 H;go_wp2_with fail;refine (hra _).mono ?_;rintro e w2 ⟨rfl,hb2⟩;have HB2:=jp ((HB1.out.trans hb2).step_alloc (.cells #[.int .i64 (k:Int),.int .i64 (ag:Int),.int .i64 (af:Int),.int .i64 (ap:Int),.int .i64 (an:Int),.string (Ai ab)] 97));have H3:=jp (htk _ HB2.out);clear hb2 hra HB1 htk;go_wp2_with fail;refine H3.out.mono ?_;rintro e w3 hR;obtain ⟨rfl, -⟩:=id hR;have HR:=jp hR;clear hR H3;go_wp2;go_ret;exact ⟨rfl,_,HB2.out,HR.out⟩
end Go.Proofs.YtpapdkhjdelfcabGreat
