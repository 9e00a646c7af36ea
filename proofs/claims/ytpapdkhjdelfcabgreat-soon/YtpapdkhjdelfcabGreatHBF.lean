import Derived.Test.YtpapdkhjdelfcabGreatHAO
import Derived.Test.YtpapdkhjdelfcabGreatHBE
import Derived.Deep.RegionHeld3
set_option maxRecDepth 100000
set_option maxHeartbeats 4000000
namespace Go.Proofs.YtpapdkhjdelfcabGreat
open Go.RowKit
variable {vL:Value}
theorem mkF_nil (c:Cfg):mkF c []=[]:=by rw [mkF,if_pos];simp [wSum]
def RNew (c:Cfg) (w:World) (e:Ending) (w':World):Prop:=∃q,e= .returned (.tuple #[.pointer (some ⟨q,0,none⟩),.int .i64 0])∧Bel w w'∧w.heap.size≤q∧q<w'.heap.size∧∀M:List Nat,q∈M→SvcAt (.slice none 0 0) M q c [] 0 w'
theorem new_is (c:Cfg) (w:World) (hc:c.OK):
  Calls Tryz.prog 23 #[.agg c.cells] w (RNew c w):=by
 have hcf:=fun wx=>config_any c wx
 unfold RNew;have hmk:=mkF_nil c;have HC:=Hid.mk hc;unfold SvcAt FrzL;rw [hmk];unfold TabAt;obtain ⟨alg,slots,points,probes,key,formats⟩:=c;simp only [Cfg.cells] at *;clear hc hmk;go_enter Tryz.func23,Tryz.ntmps23;go_wp2_with fail;refine (hcf _).mono ?_;rintro e w1 ⟨x,rfl,hb1,hx⟩;have hxt:x=true:=hx.2 HC.out;subst hxt;have hb0:Bel w w1:=(Bel.step_alloc (Bel.refl w) _).trans hb1;have k0:w1.cell? ⟨w.heap.size,0,none⟩=some (.int .i64 alg):=hb1.cell (by simp);have k1:w1.cell? ⟨w.heap.size,1,none⟩=some (.int .i64 slots):=hb1.cell (by simp);have k2:w1.cell? ⟨w.heap.size,2,none⟩=some (.int .i64 points):=hb1.cell (by simp);have k3:w1.cell? ⟨w.heap.size,3,none⟩=some (.int .i64 probes):=hb1.cell (by simp);have k4:w1.cell? ⟨w.heap.size,4,none⟩=some (.string key):=hb1.cell (by simp);have k5:w1.cell? ⟨w.heap.size,5,none⟩=some (.int .i64 formats):=hb1.cell (by simp);clear hx hb1 hcf;go_wp2;go_ret2;refine ⟨w1.heap.size,rfl,hb0.step_alloc _,hb0.size,by simp,fun M hM=>⟨hM,.slice none 0 0,.slice none 0 0,⟨⟨by simp,by simp,by simp,by simp,by simp,by simp⟩,by simp,by simp⟩,by simp,⟨⟨by simp,by simp,by simp,by simp,by simp,by simp,by simp,by simp,by simp⟩,by simp,by simp⟩,Or.inl ⟨rfl,rfl,rfl⟩,Or.inl ⟨rfl,rfl,rfl⟩⟩⟩
end Go.Proofs.YtpapdkhjdelfcabGreat
namespace Go.Proofs.YtpapdkhjdelfcabGreat
open Go.RowKit
theorem spatch_is (t1 t2:ByteArray) (w:World) (h1:t1.size≤1099511627776) (h2:t2.size≤1099511627776):
  Calls Tryz.prog 91 #[.string t1,.string t2] w (RTxE w (patchF t1.data.toList t2.data.toList)):=by
 have H:=Hid.mk (patch_is t1 t2 w h1 h2);generalize patchF t1.data.toList t2.data.toList=x at *;go_enter Tryz.func91,Tryz.ntmps91;go_wp2_with fail;refine H.out.mono ?_;rintro e w1 ⟨rfl,hb1⟩;have HB1:=Hid.mk hb1;clear hb1 H;go_wp2;go_ret2;exact ⟨rfl,HB1.out⟩
theorem sapply_is (t1 t2:ByteArray) (w:World) (h1:t1.size≤1099511627776) (h2:t2.size≤1099511627776):
  Calls Tryz.prog 93 #[.string t1,.string t2] w (RTxE w (applyF t1.data.toList t2.data.toList)):=by
 have H:=Hid.mk (apply_is t1 t2 w h1 h2);generalize applyF t1.data.toList t2.data.toList=x at *;go_enter Tryz.func93,Tryz.ntmps93;go_wp2_with fail;refine H.out.mono ?_;rintro e w1 ⟨rfl,hb1⟩;have HB1:=Hid.mk hb1;clear hb1 H;go_wp2;go_ret2;exact ⟨rfl,HB1.out⟩
def decF (l:List UInt8):List UInt8×List UInt8×Nat×Int:=match imageP l with
 |some (_,g,c,B,E)=>(imageB 1 g c B E,imageB 2 g c B E,g,0)
 |none=>([],[],0,9)
def RDec (w:World) (x:List UInt8×List UInt8×Nat×Int) (e:Ending) (w':World):Prop:=e= .returned (.tuple #[.string (txt x.1),.string (txt x.2.1),.int .i64 (x.2.2.1:Int),.int .i64 x.2.2.2])∧Bel w w'
theorem decode_is (t:ByteArray) (w:World) (h1:t.size≤1099511627776):
  Calls Tryz.prog 89 #[.string t] w (RDec w (decF t.data.toList)):=by
 have hr1:=fun wx=>readi_is t wx h1
 rcases hi1:imageP t.data.toList with _|⟨f,g,c,B,E⟩
 ·rw [hi1] at hr1;unfold RImg imgNo at hr1;have HF:Hid (decF t.data.toList=([],[],0,9)):=by show _=_;unfold decF;rw [hi1]
  rw [HF.out];go_enter Tryz.func89,Tryz.ntmps89;go_wp2_with fail;refine (hr1 _).mono ?_;rintro e w1 ⟨hb1,rfl⟩;go_wp2;exact bodyPost_ret (v:= .tuple #[.string (txt []),.string (txt []),.int .i64 0,.int .i64 9]) (by simp [results,Tryz.results89,go_sem,txt_nil]) rfl ⟨rfl,hb1.step_alloc _⟩
 ·rw [hi1] at hr1;unfold RImg imgV at hr1;have ok1:=imageP_ok hi1;have hl1:=ok1.len;have hg1:=ok1.right.1.2;have HF:Hid (decF t.data.toList=(imageB 1 g c B E,imageB 2 g c B E,g,0)):=by show _=_;unfold decF;rw [hi1]
  have hw1:=fun vP vE wx hP hE=>writei_is 1 g c B E vP vE wx (by omega) (by omega) ok1.tok hP ok1.good.1 hE (fun e he=>(ok1.ents e he).1) (by omega)
  have hw2:=fun vP vE wx hP hE=>writei_is 2 g c B E vP vE wx (by omega) (by omega) ok1.tok hP ok1.good.1 hE (fun e he=>(ok1.ents e he).1) (by omega)
  unfold tabV at hw1 hw2;rw [HF.out];generalize imageB 1 g c B E=I1 at *;generalize imageB 2 g c B E=I2 at *;clear ok1 HF hi1;go_enter Tryz.func89,Tryz.ntmps89;go_wp2_with fail;refine (hr1 _).mono ?_;rintro e w1 ⟨hb1,vP1,vE1,rfl,hoP1,hoE1⟩;obtain ⟨aP,kP,rfl⟩:=own_sliceW hoP1;obtain ⟨aE,kE,rfl⟩:=own_sliceW hoE1;have HP:=Hid.mk (OwnB.pool hoP1);have HE:=Hid.mk (OwnE.ents hoE1);have HB1:=Hid.mk hb1;obtain ⟨W1,hW1⟩:∃W1,W1=w1.alloc (.cells #[.int .i64 (f:Int),.int .i64 (g:Int),.int .i64 c.alg,.int .i64 c.slots,.int .i64 c.points,.int .i64 c.probes,.string c.key,.int .i64 c.formats,.slice aP B.length kP,.slice aE E.length kE] 173):=⟨_,rfl⟩;have hbw:Bel w1 W1:=by rw [hW1];exact (Bel.refl w1).step_alloc _
  have HX:Hid (BoxC w1.heap.size 173 #[.int .i64 (f:Int),.int .i64 (g:Int),.int .i64 c.alg,.int .i64 c.slots,.int .i64 c.points,.int .i64 c.probes,.string c.key,.int .i64 c.formats,.slice aP B.length kP,.slice aE E.length kE] W1):=by show BoxC _ _ _ W1;rw [hW1];exact BoxC.new _ _ _
  have H1:=Hid.mk (hw1 _ _ W1 (HP.out.later hbw) (EOff.of (HE.out.later hbw)));have HBW:=Hid.mk hbw;clear hoP1 hoE1 hb1 hr1 hw1 hbw;go_wp2_with fail;rw [←hW1];clear hW1;refine H1.out.mono ?_;rintro e w2 ⟨rfl,hb2⟩;have X2:=HX.out.bel hb2;have HB2:=Hid.mk (HBW.out.trans hb2);have x1:=X2.cell 1 rfl;have x2:=X2.cell 2 rfl;have x3:=X2.cell 3 rfl;have x4:=X2.cell 4 rfl;have x5:=X2.cell 5 rfl;have x6:=X2.cell 6 rfl;have x7:=X2.cell 7 rfl;have x8:=X2.cell 8 rfl;have x9:=X2.cell 9 rfl;have H2:=Hid.mk (hw2 _ _ w2 (HP.out.later HB2.out) (EOff.of (HE.out.later HB2.out)));have HX2:=Hid.mk X2;clear X2 hb2 H1 hw2;go_wp2_with fail;refine H2.out.mono ?_;rintro e w3 ⟨rfl,hb3⟩;have X3:=HX2.out.bel hb3;have y1:=X3.cell 1 rfl;have HB3:=Hid.mk (HB1.out.trans (HB2.out.trans hb3));clear X3 hb3 H2 x1 x2 x3 x4 x5 x6 x7 x8 x9;go_wp2_with fail;go_quiet (fail);go_wp2;exact bodyPost_ret (v:= .tuple #[.string (txt I1),.string (txt I2),.int .i64 (g:Int),.int .i64 0]) (by simp [results,Tryz.results89,go_sem]) rfl ⟨rfl,HB3.out.step_drewN _⟩
def fmtF (cg cf cm g:Nat):Nat:=if cm≠3 then cm else if cg=g∧cf=1 then 1 else 2
theorem formatfor_is (h fo cg cf mi cm g:Nat) (w:World):
  Calls Tryz.prog 121 #[questA h fo cg cf mi,.int .i64 (cm:Int),.int .i64 (g:Int)] w (RNat w (fmtF cg cf cm g)):=by
 unfold questA;have HF:Hid (fmtF cg cf cm g=if cm≠3 then cm else if cg=g∧cf=1 then 1 else 2):=rfl;by_cases h3:cm=3
 ·subst h3;rw [if_neg (by simp)] at HF;by_cases hg:cg=g
  ·subst hg;by_cases hf:cf=1
   ·subst hf;rw [if_pos (by simp)] at HF;go_enter Tryz.func121,Tryz.ntmps121;go_wp2;go_ret;exact ⟨ret_int (by rw [HF.out];rfl),by (repeat (first|exact Bel.refl _|assumption|refine Bel.step_alloc ?_ _|refine Bel.step_drew ?_|refine Bel.step_drewN ?_ _|refine Bel.step_set ?_ (by simp <;>omega) _|refine Bel.trans ?_ (by assumption)))⟩
   ·have hfb:((cf:Int)==1)=false:=by rw [beq_eq_false_iff_ne];omega
    rw [if_neg (fun h=>hf h.2)] at HF;go_enter Tryz.func121,Tryz.ntmps121;go_wp2;go_ret;exact ⟨ret_int (by rw [HF.out];rfl),by (repeat (first|exact Bel.refl _|assumption|refine Bel.step_alloc ?_ _|refine Bel.step_drew ?_|refine Bel.step_drewN ?_ _|refine Bel.step_set ?_ (by simp <;>omega) _|refine Bel.trans ?_ (by assumption)))⟩
  ·have hgb:((cg:Int)==(g:Int))=false:=by rw [beq_eq_false_iff_ne];omega
   rw [if_neg (fun h=>hg h.1)] at HF;go_enter Tryz.func121,Tryz.ntmps121;go_wp2;go_ret;exact ⟨ret_int (by rw [HF.out];rfl),by (repeat (first|exact Bel.refl _|assumption|refine Bel.step_alloc ?_ _|refine Bel.step_drew ?_|refine Bel.step_drewN ?_ _|refine Bel.step_set ?_ (by simp <;>omega) _|refine Bel.trans ?_ (by assumption)))⟩
 ·have h3b:((cm:Int) !=3)=true:=by rw [bne_iff_ne];omega
  rw [if_pos h3] at HF;go_enter Tryz.func121,Tryz.ntmps121;go_wp2;go_ret;exact ⟨ret_int (by rw [HF.out]),by (repeat (first|exact Bel.refl _|assumption|refine Bel.step_alloc ?_ _|refine Bel.step_drew ?_|refine Bel.step_drewN ?_ _|refine Bel.step_set ?_ (by simp <;>omega) _|refine Bel.trans ?_ (by assumption)))⟩
end Go.Proofs.YtpapdkhjdelfcabGreat
namespace Go.Proofs.YtpapdkhjdelfcabGreat
open Go.RowKit
def simgF (f:Int) (g:Nat) (c:Cfg) (B:List BK) (E:List EI):List UInt8×Int:=if 1≤f∧f≤2 then if g=0 then ([],7) else (imageB f.toNat g c B E,0) else ([],11)
theorem simage_is (q:Nat) (f:Int) (g:Nat) (c:Cfg) (vP vE:Value) (B:List BK) (E:List EI) (w:World) (hT:TabAt w q c vP vE) (t8:w.cell? ⟨q,8,none⟩=some (.int .i64 (g:Int))) (hP:PoolAt w vP B) (hE:EIAt w vE E) (hB:PoolOK B) (hc:c.TOK) (hok:∀e∈E,EntOK e) (hlen:E.length≤65536) (hg:g≤4611686018427387904):
  Calls Tryz.prog 99 #[.pointer (some ⟨q,0,none⟩),.int .i64 f] w (RTxE w (simgF f g c B E)):=by
 have hfm:=fun wx=>format_is f wx
 have HF:Hid (simgF f g c B E=if 1≤f∧f≤2 then if g=0 then ([],7) else (imageB f.toNat g c B E,0) else ([],11)):=rfl;obtain ⟨⟨t0,t1,t2,t3,t4,t5⟩,t6,t7⟩:=hT;by_cases hf:1≤f∧f≤2
 rotate_left
 ·rw [if_neg hf] at HF;go_enter Tryz.func99,Tryz.ntmps99;go_wp2_with fail;refine (hfm _).mono ?_;rintro e w1 ⟨x,rfl,rfl,hx⟩
  have hxf:x=false:=by
   cases x
   ·rfl
   ·exact absurd (hx.1 rfl) hf
  subst hxf;clear hx hfm hP hE hok hf;go_wp2;go_ret2;rw [HF.out];exact ⟨rfl,by (repeat (first|exact Bel.refl _|assumption|refine Bel.step_alloc ?_ _|refine Bel.step_drew ?_|refine Bel.step_drewN ?_ _|refine Bel.step_set ?_ (by simp <;>omega) _|refine Bel.trans ?_ (by assumption)))⟩
 rw [if_pos hf] at HF;obtain ⟨n,rfl⟩:∃n:Nat,f=(n:Int):=⟨f.toNat,by omega⟩;by_cases h0:g=0
 ·subst h0;rw [if_pos rfl] at HF;replace t8:w.cell? ⟨q,8,none⟩=some (.int .i64 0):=t8;go_enter Tryz.func99,Tryz.ntmps99;go_wp2_with fail;refine (hfm _).mono ?_;rintro e w1 ⟨x,rfl,rfl,hx⟩;have hxf:x=true:=hx.2 hf;subst hxf;clear hx hfm hP hE hok hf;go_wp2;go_ret2;rw [HF.out];exact ⟨rfl,by (repeat (first|exact Bel.refl _|assumption|refine Bel.step_alloc ?_ _|refine Bel.step_drew ?_|refine Bel.step_drewN ?_ _|refine Bel.step_set ?_ (by simp <;>omega) _|refine Bel.trans ?_ (by assumption)))⟩
 ·rw [if_neg h0] at HF;have hg0:((g:Int)==0)=false:=by rw [beq_eq_false_iff_ne];omega
  have hwi:=fun wx h1 h2=>writei_is n g c B E vP vE wx (by omega) hg hc h1 hB h2 hok hlen
  unfold tabV at hwi;rw [Int.toNat_natCast] at HF;generalize imageB n g c B E=IB at *;have HP:=Hid.mk hP;have HE:=Hid.mk hE;clear hP hE hok hB hc;go_enter Tryz.func99,Tryz.ntmps99;go_wp2_with fail;refine (hfm _).mono ?_;rintro e w1 ⟨x,rfl,rfl,hx⟩;have hxf:x=true:=hx.2 hf;subst hxf;clear hx hfm hf;go_wp2_with fail
  go_region_held3 (fun w'=>Bel w w'∧w'.cell? ⟨q,8,none⟩=some (.int .i64 (g:Int))∧w'.cell? ⟨q,0,none⟩=some (.int .i64 c.alg)∧w'.cell? ⟨q,1,none⟩=some (.int .i64 c.slots)∧w'.cell? ⟨q,2,none⟩=some (.int .i64 c.points)∧w'.cell? ⟨q,3,none⟩=some (.int .i64 c.probes)∧w'.cell? ⟨q,4,none⟩=some (.string c.key)∧w'.cell? ⟨q,5,none⟩=some (.int .i64 c.formats)∧w'.cell? ⟨q,6,none⟩=some (vP)∧w'.cell? ⟨q,7,none⟩=some (vE)) ((exact ⟨by (repeat (first|exact Bel.refl _|assumption|refine Bel.step_alloc ?_ _|refine Bel.step_drew ?_|refine Bel.step_drewN ?_ _|refine Bel.step_set ?_ (by simp <;>omega) _|refine Bel.trans ?_ (by assumption))),Bel.cell (by (repeat (first|exact Bel.refl _|assumption|refine Bel.step_alloc ?_ _|refine Bel.step_drew ?_|refine Bel.step_drewN ?_ _|refine Bel.step_set ?_ (by simp <;>omega) _|refine Bel.trans ?_ (by assumption)))) t8,Bel.cell (by (repeat (first|exact Bel.refl _|assumption|refine Bel.step_alloc ?_ _|refine Bel.step_drew ?_|refine Bel.step_drewN ?_ _|refine Bel.step_set ?_ (by simp <;>omega) _|refine Bel.trans ?_ (by assumption)))) t0,Bel.cell (by (repeat (first|exact Bel.refl _|assumption|refine Bel.step_alloc ?_ _|refine Bel.step_drew ?_|refine Bel.step_drewN ?_ _|refine Bel.step_set ?_ (by simp <;>omega) _|refine Bel.trans ?_ (by assumption)))) t1,Bel.cell (by (repeat (first|exact Bel.refl _|assumption|refine Bel.step_alloc ?_ _|refine Bel.step_drew ?_|refine Bel.step_drewN ?_ _|refine Bel.step_set ?_ (by simp <;>omega) _|refine Bel.trans ?_ (by assumption)))) t2,Bel.cell (by (repeat (first|exact Bel.refl _|assumption|refine Bel.step_alloc ?_ _|refine Bel.step_drew ?_|refine Bel.step_drewN ?_ _|refine Bel.step_set ?_ (by simp <;>omega) _|refine Bel.trans ?_ (by assumption)))) t3,Bel.cell (by (repeat (first|exact Bel.refl _|assumption|refine Bel.step_alloc ?_ _|refine Bel.step_drew ?_|refine Bel.step_drewN ?_ _|refine Bel.step_set ?_ (by simp <;>omega) _|refine Bel.trans ?_ (by assumption)))) t4,Bel.cell (by (repeat (first|exact Bel.refl _|assumption|refine Bel.step_alloc ?_ _|refine Bel.step_drew ?_|refine Bel.step_drewN ?_ _|refine Bel.step_set ?_ (by simp <;>omega) _|refine Bel.trans ?_ (by assumption)))) t5,Bel.cell (by (repeat (first|exact Bel.refl _|assumption|refine Bel.step_alloc ?_ _|refine Bel.step_drew ?_|refine Bel.step_drewN ?_ _|refine Bel.step_set ?_ (by simp <;>omega) _|refine Bel.trans ?_ (by assumption)))) t6,Bel.cell (by (repeat (first|exact Bel.refl _|assumption|refine Bel.step_alloc ?_ _|refine Bel.step_drew ?_|refine Bel.step_drewN ?_ _|refine Bel.step_set ?_ (by simp <;>omega) _|refine Bel.trans ?_ (by assumption)))) t7⟩)) ((go_at_call 122;refine Calls.mono (hwi _ (HP.out.later (by (repeat (first|exact Bel.refl _|assumption|refine Bel.step_alloc ?_ _|refine Bel.step_drew ?_|refine Bel.step_drewN ?_ _|refine Bel.step_set ?_ (by simp <;>omega) _|refine Bel.trans ?_ (by assumption))))) (EOff.of (HE.out.later (by (repeat (first|exact Bel.refl _|assumption|refine Bel.step_alloc ?_ _|refine Bel.step_drew ?_|refine Bel.step_drewN ?_ _|refine Bel.step_set ?_ (by simp <;>omega) _|refine Bel.trans ?_ (by assumption))))))) ?_;rintro e w3 ⟨rfl,hb3⟩))
  all_goals
   have HB:Hid (Bel w w3):=by show Bel w w3;(repeat (first|exact Bel.refl _|assumption|refine Bel.step_alloc ?_ _|refine Bel.step_drew ?_|refine Bel.step_drewN ?_ _|refine Bel.step_set ?_ (by simp <;>omega) _|refine Bel.trans ?_ (by assumption)))
   go_wp2;go_ret2;rw [HF.out];exact ⟨rfl,HB.out⟩
def plcells (ps:List Nat):List Value:=ps.map fun p=> .pointer (some ⟨p,0,none⟩)
def PlRow (w:World) (v:Value) (ps:List Nat):Prop:=w.ownsRow 0 88 1 v ps.length (plcells ps)
theorem PlRow.open {w:World} {v:Value} {ps:List Nat} (h:PlRow w v ps):∃ao cap,v= .slice ao ps.length cap∧∀j (hj:j<ps.length),∃g,ao=some ⟨g,0,none⟩∧w.cell? ⟨g,j,none⟩=some (.pointer (some ⟨ps[j],0,none⟩)):=by
 rcases h.2 with ⟨h1,h2⟩|⟨g,cap,cur,h1,_⟩
 ·exact ⟨none,0,by rw [h1,h2],fun j hj=>by omega⟩
 ·refine ⟨_,_,h1,fun j hj=>⟨g,rfl,?_⟩⟩;have:=h.cells (g:=g) (by rw [h1];rfl) j (.pointer (some ⟨ps[j],0,none⟩)) (by simp [plcells,hj]);have hadd:(⟨g,0,none⟩:Addr).add j=⟨g,j,none⟩:=by unfold Addr.add;split <;>simp_all
  rwa [hadd] at this
theorem PlRow.later {w w':World} {v:Value} {ps:List Nat} (h:PlRow w v ps) (k:Bel w w'):PlRow w' v ps:=own_laterW h k
def planeV (ps:List Nat) (d:Int):Value:= .pointer (if 0≤d then (ps[d.toNat]?).map (fun p=>⟨p,0,none⟩) else none)
theorem dataplane_is (q:Nat) (d:Int) (vL:Value) (ps:List Nat) (w:World) (c9:w.cell? ⟨q,9,none⟩=some vL) (hL:PlRow w vL ps):
  Calls Tryz.prog 59 #[.pointer (some ⟨q,0,none⟩),.int .i64 d] w (RQ w (planeV ps d)):=by
 obtain ⟨ao,cap,rfl,hc⟩:=hL.open;have HV:Hid (planeV ps d= .pointer (if 0≤d then (ps[d.toNat]?).map (fun p=>⟨p,0,none⟩) else none)):=rfl;clear hL;by_cases hd:0≤d
 ·rw [if_pos hd] at HV;obtain ⟨n,rfl⟩:∃n:Nat,d=(n:Int):=⟨d.toNat,by omega⟩;rw [Int.toNat_natCast] at HV;clear hd;by_cases hn:n<ps.length
  ·rw [List.getElem?_eq_getElem hn] at HV;obtain ⟨g,rfl,e0⟩:=hc n hn;clear hc;generalize ps[n]=pn at *;go_enter Tryz.func59,Tryz.ntmps59;go_wp2;go_ret;exact ⟨by rw [HV.out];rfl,by (repeat (first|exact Bel.refl _|assumption|refine Bel.step_alloc ?_ _|refine Bel.step_drew ?_|refine Bel.step_drewN ?_ _|refine Bel.step_set ?_ (by simp <;>omega) _|refine Bel.trans ?_ (by assumption)))⟩
  ·rw [List.getElem?_eq_none (by omega)] at HV;clear hc;go_enter Tryz.func59,Tryz.ntmps59;go_wp2;go_ret;exact ⟨by rw [HV.out];rfl,by (repeat (first|exact Bel.refl _|assumption|refine Bel.step_alloc ?_ _|refine Bel.step_drew ?_|refine Bel.step_drewN ?_ _|refine Bel.step_set ?_ (by simp <;>omega) _|refine Bel.trans ?_ (by assumption)))⟩
 ·rw [if_neg hd] at HV;have hd2:d<0:=by omega
  clear hc hd;go_enter Tryz.func59,Tryz.ntmps59;go_wp2;go_ret;exact ⟨by rw [HV.out];rfl,by (repeat (first|exact Bel.refl _|assumption|refine Bel.step_alloc ?_ _|refine Bel.step_drew ?_|refine Bel.step_drewN ?_ _|refine Bel.step_set ?_ (by simp <;>omega) _|refine Bel.trans ?_ (by assumption)))⟩
end Go.Proofs.YtpapdkhjdelfcabGreat
namespace Go.Proofs.YtpapdkhjdelfcabGreat
open Go.RowKit
def tickB (g fm cg cf:Nat) (T:List TP):List UInt8:=packB (questB g fm cg cf (misF T))++sumB (crcB (packB (questB g fm cg cf (misF T))))
theorem misK_le:∀(T:List TP) (k:Nat),misK T k≤k+T.length
 |[],k=>by simp [misK]
 |x::T,k=>by
  rw [misK];have:=misK_le T (k+1);split <;>simp <;>omega
theorem tick_no (q:Nat) (d:Int) (w:World) (hd:Calls Tryz.prog 59 #[.pointer (some ⟨q,0,none⟩),.int .i64 d] w (RQ w (.pointer none))):
  Calls Tryz.prog 29 #[.pointer (some ⟨q,0,none⟩),.int .i64 d] w (RTxE w ([],4)):=by
 have H:=Hid.mk hd;clear hd;go_enter Tryz.func29,Tryz.ntmps29;go_wp2_with fail;refine H.out.mono ?_;rintro e w1 ⟨rfl,hb1⟩;have HB1:=Hid.mk hb1;clear hb1 H;go_wp2;go_ret2;exact ⟨rfl,HB1.out⟩
theorem tick_is (q p:Nat) (d:Int) (fm g:Nat) (c:Cfg) (vP vE:Value) (cg cf cp:Nat) (vT:Value) (nf:Bool) (T:List TP) (w:World) (hd:Calls Tryz.prog 59 #[.pointer (some ⟨q,0,none⟩),.int .i64 d] w (RQ w (.pointer (some ⟨p,0,none⟩)))) (h:BoxC p 146 (plC fm g c vP vE cg cf cp vT nf) w) (hT:ThAt w vT T) (hl:T.length≤65536) (b1:g≤4611686018427387904) (b2:fm≤4611686018427387904) (b3:cg≤4611686018427387904) (b4:cf≤4611686018427387904):
  Calls Tryz.prog 29 #[.pointer (some ⟨q,0,none⟩),.int .i64 d] w (RTxE w (tickB g fm cg cf T,0)):=by
 have H:=Hid.mk hd;have hq:=fun wx (hx:Bel w wx)=>question_is p fm g c vP vE cg cf cp vT nf T wx (h.bel hx) (hT.later hx) hl
 have hm:misF T≤4611686018427387904:=by have:=misK_le T 0;unfold misF;omega
 have hwq:=fun wx=>writeq_is g fm cg cf (misF T) wx b1 b2 b3 b4 hm
 unfold tickB;unfold questA at hq;generalize packB (questB g fm cg cf (misF T))++sumB (crcB (packB (questB g fm cg cf (misF T))))=TB at *;generalize misF T=mf at *;clear hd h hT;go_enter Tryz.func29,Tryz.ntmps29;go_wp2_with fail;refine H.out.mono ?_;rintro e w1 ⟨rfl,hb1⟩;have H2:=Hid.mk (hq w1 hb1);have HB1:=Hid.mk hb1;clear hb1 H hq;go_wp2_with fail;refine H2.out.mono ?_;rintro e w2 ⟨rfl,hb2⟩;have HB2:=Hid.mk ((HB1.out.trans hb2).step_alloc (.cells #[.int .i64 (g:Int),.int .i64 (fm:Int),.int .i64 (cg:Int),.int .i64 (cf:Int),.int .i64 (mf:Int)] 91));clear hb2 H2 HB1;go_wp2_with fail;refine (hwq _).mono ?_;rintro e w3 ⟨rfl,hb3⟩;have HB3:=Hid.mk (HB2.out.trans hb3);clear hb3 HB2;go_wp2;go_ret2;exact ⟨rfl,HB3.out⟩
theorem held_no (q:Nat) (d:Int) (w:World) (hd:Calls Tryz.prog 59 #[.pointer (some ⟨q,0,none⟩),.int .i64 d] w (RQ w (.pointer none))):
  Calls Tryz.prog 32 #[.pointer (some ⟨q,0,none⟩),.int .i64 d] w (RHeld w (0,4)):=by
 have H:=Hid.mk hd;clear hd;go_enter Tryz.func32,Tryz.ntmps32;go_wp2_with fail;refine H.out.mono ?_;rintro e w1 ⟨rfl,hb1⟩;have HB1:=Hid.mk hb1;clear hb1 H;go_wp2;go_ret2;exact ⟨rfl,HB1.out⟩
theorem held_is (q p:Nat) (d:Int) (fm g:Nat) (c:Cfg) (vP vE:Value) (cg cf cp:Nat) (vT:Value) (nf:Bool) (w:World) (hd:Calls Tryz.prog 59 #[.pointer (some ⟨q,0,none⟩),.int .i64 d] w (RQ w (.pointer (some ⟨p,0,none⟩)))) (h:BoxC p 146 (plC fm g c vP vE cg cf cp vT nf) w):
  Calls Tryz.prog 32 #[.pointer (some ⟨q,0,none⟩),.int .i64 d] w (RHeld w (heldF g nf)):=by
 have H:=Hid.mk hd;have hq:=fun wx (hx:Bel w wx)=>plheld_is p fm g c vP vE cg cf cp vT nf wx (h.bel hx)
 generalize heldF g nf=hv at *;clear hd h;go_enter Tryz.func32,Tryz.ntmps32;go_wp2_with fail;refine H.out.mono ?_;rintro e w1 ⟨rfl,hb1⟩;have H2:=Hid.mk (hq w1 hb1);have HB1:=Hid.mk hb1;clear hb1 H hq;go_wp2_with fail;refine H2.out.mono ?_;rintro e w2 ⟨rfl,hb2⟩;have HB2:=Hid.mk (HB1.out.trans hb2);clear hb2 H2 HB1;go_wp2;go_ret2;exact ⟨rfl,HB2.out⟩
theorem lookup_no (q:Nat) (d:Int) (k:ByteArray) (w:World) (hd:Calls Tryz.prog 59 #[.pointer (some ⟨q,0,none⟩),.int .i64 d] w (RQ w (.pointer none))):
  Calls Tryz.prog 33 #[.pointer (some ⟨q,0,none⟩),.int .i64 d,.string k] w (RStrErr w (⟨#[]⟩,4)):=by
 have H:=Hid.mk hd;clear hd;go_enter Tryz.func33,Tryz.ntmps33;go_wp2_with fail;refine H.out.mono ?_;rintro e w1 ⟨rfl,hb1⟩;have HB1:=Hid.mk hb1;clear hb1 H;go_wp2;go_ret2;exact ⟨rfl,HB1.out⟩
theorem lookup_is (q p:Nat) (d:Int) (k:ByteArray) (fm g:Nat) (c:Cfg) (vP vE:Value) (cg cf cp:Nat) (vT:Value) (nf:Bool) (B:List BK) (E:List EI) (w:World) (hd:Calls Tryz.prog 59 #[.pointer (some ⟨q,0,none⟩),.int .i64 d] w (RQ w (.pointer (some ⟨p,0,none⟩)))) (h:BoxC p 146 (plC fm g c vP vE cg cf cp vT nf) w) (hP:PoolAt w vP B) (hE:EIAt w vE E) (hlen:E.length≤65536) (hc:g≠0→c.TOK) (hk:k.size≤4611686018427386000):
  Calls Tryz.prog 33 #[.pointer (some ⟨q,0,none⟩),.int .i64 d,.string k] w (RStrErr w (plOwnF g c B E k)):=by
 have H:=Hid.mk hd;have hq:=fun wx (hx:Bel w wx)=>plowner_is p fm g c vP vE cg cf cp vT nf B E k wx (h.bel hx) (hP.later hx) (hE.later hx) hlen hc hk
 generalize plOwnF g c B E k=hv at *;clear hd h hP hE hc;go_enter Tryz.func33,Tryz.ntmps33;go_wp2_with fail;refine H.out.mono ?_;rintro e w1 ⟨rfl,hb1⟩;have H2:=Hid.mk (hq w1 hb1);have HB1:=Hid.mk hb1;clear hb1 H hq;go_wp2_with fail;refine H2.out.mono ?_;rintro e w2 ⟨rfl,hb2⟩;have HB2:=Hid.mk (HB1.out.trans hb2);clear hb2 H2 HB1;go_wp2;go_ret2;exact ⟨rfl,HB2.out⟩
def RErr (w:World) (err:Int) (e:Ending) (w':World):Prop:=e= .returned (.int .i64 err)∧Bel w w'
def RErrB (p:Nat) (cs:Array Value) (w:World) (e:Ending) (w':World):Prop:=e= .returned (.int .i64 0)∧But [p] w w'∧BoxC p 146 cs w'
theorem restart_no (q:Nat) (d:Int) (w:World) (hd:Calls Tryz.prog 59 #[.pointer (some ⟨q,0,none⟩),.int .i64 d] w (RQ w (.pointer none))):
  Calls Tryz.prog 78 #[.pointer (some ⟨q,0,none⟩),.int .i64 d] w (RErr w 4):=by
 have H:=Hid.mk hd;clear hd;go_enter Tryz.func78,Tryz.ntmps78;go_wp2_with fail;refine H.out.mono ?_;rintro e w1 ⟨rfl,hb1⟩;have HB1:=Hid.mk hb1;clear hb1 H;go_wp2;go_ret;exact ⟨rfl,HB1.out⟩
theorem restart_is (q p:Nat) (d:Int) (fm g:Nat) (c:Cfg) (vP vE:Value) (cg cf cp:Nat) (vT:Value) (nf:Bool) (w:World) (hd:Calls Tryz.prog 59 #[.pointer (some ⟨q,0,none⟩),.int .i64 d] w (RQ w (.pointer (some ⟨p,0,none⟩)))) (h:BoxC p 146 (plC fm g c vP vE cg cf cp vT nf) w):
  Calls Tryz.prog 78 #[.pointer (some ⟨q,0,none⟩),.int .i64 d] w (RErrB p (plNew fm) w):=by
 have H:=Hid.mk hd;have hq:=fun wx (hx:Bel w wx)=>plrestart_is p fm g c vP vE cg cf cp vT nf wx (h.bel hx)
 generalize plNew fm=pn at *;clear hd h;go_enter Tryz.func78,Tryz.ntmps78;go_wp2_with fail;refine H.out.mono ?_;rintro e w1 ⟨rfl,hb1⟩;have H2:=Hid.mk (hq w1 hb1);have HB1:=Hid.mk hb1;clear hb1 H hq;go_wp2_with fail;refine H2.out.mono ?_;rintro e w2 ⟨rfl,hB2,hX2⟩;have HB2:=Hid.mk ((But.of_bel (M:=[p]) HB1.out).trans hB2);have HX2:=Hid.mk hX2;clear hB2 hX2 H2 HB1;go_wp2;go_ret;exact ⟨rfl,HB2.out,HX2.out⟩
theorem answP_ok {l:List UInt8} {a:Ans} (h:answP l=some a):ansOK a∧a.2.1<4294967296∧a.2.2.1<256∧a.2.2.2.1<65536∧a.2.2.2.2.1<65536∧a.2.2.2.2.2.length≤48:=by
 unfold answP at h;cases hO:openB l with
 |none=>rw [hO] at h;cases h
 |some b=>
  rw [hO] at h;have h':(answX (b.length - 11) (bytesBits b)).bind (fun y=>haveI:=decAns y.1.2;if endP (some y.2)=true∧y.1.1=[65]∧ansOK y.1.2 then some y.1.2 else none)=some a:=h;cases hX:answX (b.length - 11) (bytesBits b) with
  |none=>rw [hX] at h';cases h'
  |some y=>
   rw [hX] at h';have h2:(haveI:=decAns y.1.2;if endP (some y.2)=true∧y.1.1=[65]∧ansOK y.1.2 then some y.1.2 else none)=some a:=h';split at h2
   ·rename_i hok;injection h2 with h2
    subst h2;refine ⟨hok.2.2,?_⟩;obtain ⟨t,Y1, -,hX⟩:=then_some hX;obtain ⟨k,Y2, -,hX⟩:=then_some hX;split at hX
    ·obtain ⟨g,Y3,p1,hX⟩:=then_some hX;obtain ⟨f,Y4,p2,hX⟩:=then_some hX;obtain ⟨c,Y5,p3,hX⟩:=then_some hX;obtain ⟨n,Y6,p4,hX⟩:=then_some hX;obtain ⟨s,Y7, -,hX⟩:=then_some hX;unfold doneP at hX;injection hX with hX
     subst hX;refine ⟨(numP_lt p1).1,(numP_lt p2).1,(numP_lt p3).1,(numP_lt p4).1,?_⟩;rcases hok.2.2 with h|h|h
     ·cases h
     ·cases h
     ·exact h.2.2
    ·unfold doneP at hX;injection hX with hX
     subst hX;exact ⟨by simp,by simp,by simp,by simp,by simp⟩
   ·cases h2
def RRecv (p fm g:Nat) (c:Cfg) (vP vE:Value) (cg cf cp:Nat) (vT:Value) (nf:Bool) (T:List TP) (o:Option Ans) (w:World) (e:Ending) (w':World):Prop:=e= .returned (.int .i64 0)∧match o with
 |none=>Bel w w'
 |some a=>∃w0,Bel w w0∧RTake p fm g c vP vE cg cf cp vT nf T a w0 (.returned (.tuple #[])) w'
theorem receive_no (q:Nat) (d:Int) (t:ByteArray) (w:World) (hd:Calls Tryz.prog 59 #[.pointer (some ⟨q,0,none⟩),.int .i64 d] w (RQ w (.pointer none))):
  Calls Tryz.prog 31 #[.pointer (some ⟨q,0,none⟩),.int .i64 d,.string t] w (RErr w 4):=by
 have H:=Hid.mk hd;clear hd;go_enter Tryz.func31,Tryz.ntmps31;go_wp2_with fail;refine H.out.mono ?_;rintro e w1 ⟨rfl,hb1⟩;have HB1:=Hid.mk hb1;clear hb1 H;go_wp2;go_ret;exact ⟨rfl,HB1.out⟩
theorem receive_is (q p:Nat) (d:Int) (t:ByteArray) (fm g:Nat) (c:Cfg) (vP vE:Value) (cg cf cp:Nat) (vT:Value) (nf:Bool) (T:List TP) (w:World) (hd:Calls Tryz.prog 59 #[.pointer (some ⟨q,0,none⟩),.int .i64 d] w (RQ w (.pointer (some ⟨p,0,none⟩)))) (h:BoxC p 146 (plC fm g c vP vE cg cf cp vT nf) w) (hT:ThAt w vT T) (hl:T.length≤65535) (hs:∀x∈T,x.2.length≤65536) (hfm:fm<256) (ht:t.size≤1099511627776):
  Calls Tryz.prog 31 #[.pointer (some ⟨q,0,none⟩),.int .i64 d,.string t] w (RRecv p fm g c vP vE cg cf cp vT nf T (answP t.data.toList) w):=by
 have H:=Hid.mk hd;have hra:=fun wx=>reada_is t wx ht
 have HX:=Hid.mk h;have HT:=Hid.mk hT;clear hd h hT;rcases ho:answP t.data.toList with _|a
 ·rw [ho] at hra;unfold RAns ansV ansA at hra;go_enter Tryz.func31,Tryz.ntmps31;go_wp2_with fail;refine H.out.mono ?_;rintro e w1 ⟨rfl,hb1⟩;have HB1:=Hid.mk hb1;clear hb1 H;go_wp2_with fail;refine (hra _).mono ?_;rintro e w2 ⟨rfl,hb2⟩;have HB2:=Hid.mk ((HB1.out.trans hb2).step_alloc (.cells #[.int .i64 0,.int .i64 0,.int .i64 0,.int .i64 0,.int .i64 0,.string (txt [])] 97));clear hb2 hra HB1;go_wp2;go_ret;exact ⟨rfl,HB2.out⟩
 ·rw [ho] at hra;have ok:=answP_ok ho
  have hk:a.1=0∨a.1=1∨a.1=2:=by
   rcases ok.1 with h|h|h
   ·exact Or.inl h
   ·exact Or.inr (Or.inr h)
   ·exact Or.inr (Or.inl h.1)
  have htk:=fun wx (hx:Bel w wx)=>pltake_is p fm g c vP vE cg cf cp vT nf T a wx (HX.out.bel hx) (HT.out.later hx) hl hs (by have:=ok.2.2.2.2.2;omega) ok.2.2.1 hfm hk
  unfold RAns ansV ansA at hra;unfold ansC at htk;clear ok hk ho;obtain ⟨k,ag,af,ap,an,ab⟩:=a;simp only at *;go_enter Tryz.func31,Tryz.ntmps31;go_wp2_with fail;refine H.out.mono ?_;rintro e w1 ⟨rfl,hb1⟩;have HB1:=Hid.mk hb1;clear hb1 H;go_wp2_with fail;refine (hra _).mono ?_;rintro e w2 ⟨rfl,hb2⟩;have HB2:=Hid.mk ((HB1.out.trans hb2).step_alloc (.cells #[.int .i64 (k:Int),.int .i64 (ag:Int),.int .i64 (af:Int),.int .i64 (ap:Int),.int .i64 (an:Int),.string (txt ab)] 97));have H3:=Hid.mk (htk _ HB2.out);clear hb2 hra HB1 htk;go_wp2_with fail;refine H3.out.mono ?_;rintro e w3 hR;obtain ⟨rfl, -⟩:=id hR;have HR:=Hid.mk hR;clear hR H3;go_wp2;go_ret;exact ⟨rfl,_,HB2.out,HR.out⟩
end Go.Proofs.YtpapdkhjdelfcabGreat
