import Derived.Test.YtpapdkhjdelfcabGreatHAR
import Derived.Test.YtpapdkhjdelfcabGreatHAP
import Derived.Test.YtpapdkhjdelfcabGreatHAQ
set_option maxRecDepth 100000
set_option maxHeartbeats 4000000
namespace Go.Proofs.YtpapdkhjdelfcabGreat
open Go.RowKit
def RightT (c:Cfg) (B:List BK) (E:List EI):Prop:=(E.length:Int)=cntF c B∧(∀e∈E,ServE B e.2)∧(hasP c.alg=true→RiseE E∧AllOwn c B E)
theorem right_is (q:Nat) (c:Cfg) (vP vE:Value) (B:List BK) (E:List EI) (w:World) (hT:TabAt w q c vP vE) (hP:PoolAt w vP B) (hE:EIAt w vE E) (hB:PoolOK B) (hlen:E.length≤1048576) (hc:c.TOK):
  Calls Tryz.prog 227 #[.pointer (some ⟨q,0,none⟩)] w (RRight (RightT c B E) w):=by
 have hcn:=fun wx hx=>tcount_is c B vP wx hx hB hc
 have hsv:=fun x wx (h1:TabAt wx q c vP vE) (h2:PoolAt wx vP B)=>serves_is q c vP vE B x wx h1 h2
 have hri:=fun wx (h:EIAt wx vE E)=>rises_is E vE wx h hlen
 have hao:=fun wx (h1:TabAt wx q c vP vE) (h2:PoolAt wx vP B) (h3:EIAt wx vE E)=>allown_is q c vP vE B E wx h1 h2 h3 hB hlen hc
 have hhp:=fun wx=>hasp_is c.alg wx
 have HR:Hid (RightT c B E↔(E.length:Int)=cntF c B∧(∀e∈E,ServE B e.2)∧(hasP c.alg=true→RiseE E∧AllOwn c B E)):=Iff.rfl;generalize cntF c B=cn at *;generalize hasP c.alg=hp at *;generalize RightT c B E=RT at *;generalize RiseE E=RE at *;generalize AllOwn c B E=AE at *;have HT:=Hid.mk hT;have HP:=Hid.mk hP;have HE:=Hid.mk hE;obtain ⟨⟨t0,t1,t2,t3,t4,t5⟩,t6,t7⟩:=hT;obtain ⟨aP,capP,hvP, -⟩:=hP.open;obtain ⟨aE,capE,hvE,hcE⟩:=hE.open;subst hvP hvE;obtain ⟨alg,slots,points,probes,key,formats⟩:=c;simp only [Cfg.cells] at *;clear hP hE hc hB;go_enter Tryz.func227,Tryz.ntmps227;go_wp2_with fail
 go_region_held3 (fun w'=>Bel w w'∧w'.cell? ⟨q,0,none⟩=some (.int .i64 alg)∧w'.cell? ⟨q,1,none⟩=some (.int .i64 slots)∧w'.cell? ⟨q,2,none⟩=some (.int .i64 points)∧w'.cell? ⟨q,3,none⟩=some (.int .i64 probes)∧w'.cell? ⟨q,4,none⟩=some (.string key)∧w'.cell? ⟨q,5,none⟩=some (.int .i64 formats)∧w'.cell? ⟨q,6,none⟩=some (.slice aP B.length capP)∧w'.cell? ⟨q,7,none⟩=some (.slice aE E.length capE)) ((exact ⟨by (repeat (first|exact Bel.refl _|assumption|refine Bel.step_alloc ?_ _|refine Bel.step_drew ?_|refine Bel.step_drewN ?_ _|refine Bel.step_set ?_ (by simp <;>omega) _|refine Bel.trans ?_ (by assumption))),Bel.cell (by (repeat (first|exact Bel.refl _|assumption|refine Bel.step_alloc ?_ _|refine Bel.step_drew ?_|refine Bel.step_drewN ?_ _|refine Bel.step_set ?_ (by simp <;>omega) _|refine Bel.trans ?_ (by assumption)))) t0,Bel.cell (by (repeat (first|exact Bel.refl _|assumption|refine Bel.step_alloc ?_ _|refine Bel.step_drew ?_|refine Bel.step_drewN ?_ _|refine Bel.step_set ?_ (by simp <;>omega) _|refine Bel.trans ?_ (by assumption)))) t1,Bel.cell (by (repeat (first|exact Bel.refl _|assumption|refine Bel.step_alloc ?_ _|refine Bel.step_drew ?_|refine Bel.step_drewN ?_ _|refine Bel.step_set ?_ (by simp <;>omega) _|refine Bel.trans ?_ (by assumption)))) t2,Bel.cell (by (repeat (first|exact Bel.refl _|assumption|refine Bel.step_alloc ?_ _|refine Bel.step_drew ?_|refine Bel.step_drewN ?_ _|refine Bel.step_set ?_ (by simp <;>omega) _|refine Bel.trans ?_ (by assumption)))) t3,Bel.cell (by (repeat (first|exact Bel.refl _|assumption|refine Bel.step_alloc ?_ _|refine Bel.step_drew ?_|refine Bel.step_drewN ?_ _|refine Bel.step_set ?_ (by simp <;>omega) _|refine Bel.trans ?_ (by assumption)))) t4,Bel.cell (by (repeat (first|exact Bel.refl _|assumption|refine Bel.step_alloc ?_ _|refine Bel.step_drew ?_|refine Bel.step_drewN ?_ _|refine Bel.step_set ?_ (by simp <;>omega) _|refine Bel.trans ?_ (by assumption)))) t5,Bel.cell (by (repeat (first|exact Bel.refl _|assumption|refine Bel.step_alloc ?_ _|refine Bel.step_drew ?_|refine Bel.step_drewN ?_ _|refine Bel.step_set ?_ (by simp <;>omega) _|refine Bel.trans ?_ (by assumption)))) t6,Bel.cell (by (repeat (first|exact Bel.refl _|assumption|refine Bel.step_alloc ?_ _|refine Bel.step_drew ?_|refine Bel.step_drewN ?_ _|refine Bel.step_set ?_ (by simp <;>omega) _|refine Bel.trans ?_ (by assumption)))) t7⟩)) ((go_at_call 235;refine (hcn _ (HP.out.later (by (repeat (first|exact Bel.refl _|assumption|refine Bel.step_alloc ?_ _|refine Bel.step_drew ?_|refine Bel.step_drewN ?_ _|refine Bel.step_set ?_ (by simp <;>omega) _|refine Bel.trans ?_ (by assumption)))))).mono ?_;rintro e w9 ⟨rfl,hb9⟩));have HB9:Hid (Bel w w9):=by show Bel w w9;(repeat (first|exact Bel.refl _|assumption|refine Bel.step_alloc ?_ _|refine Bel.step_drew ?_|refine Bel.step_drewN ?_ _|refine Bel.step_set ?_ (by simp <;>omega) _|refine Bel.trans ?_ (by assumption)))
 have z7:=HB9.out.cell t7;cases hq:((E.length:Int) !=cn)
 rotate_left
 ·have HQ:Hid (¬(E.length:Int)=cn):=by show ¬_;simpa using hq
  go_wp2;go_ret;exact ⟨false,rfl,HB9.out,⟨fun h=>(by cases h),fun h=>absurd (HR.out.1 h).1 HQ.out⟩⟩
 ·have HQ:Hid ((E.length:Int)=cn):=by show _=_;simpa using hq
  clear hq;go_wp2_with fail;go_loopg [25] E.length (fun r n wr=>Bel w wr∧∃k:Nat,r=E.length - k∧k≤E.length∧n= .int .i64 k∧∀j (h:j<E.length),j<k→ServE B E[j].2)
  case atStart=>exact ⟨HB9.out,0,by omega,by omega,rfl,fun j h hj=>by omega⟩
  case round=>
   obtain ⟨hb,k,hr,hk,rfl,hA⟩:=hrel;have HA:=Hid.mk hA;clear hA HB9 z7;by_cases hlt:k<E.length
   ·obtain ⟨g,rfl,c0,c1⟩:=hcE k hlt;have c0':=hb.cell c0;have c1':=hb.cell c1;have HN:Hid (RT→ServE B E[k].2):=fun h=>(HR.out.1 h).2.1 _ (List.getElem_mem hlt)
    have HY:Hid (ServE B E[k].2→∀j (h:j<E.length),j<k+1→ServE B E[j].2):=fun h0 j h hj=>by
     by_cases hjk:j=k
     ·subst hjk;exact h0
     ·exact HA.out j h (by omega)
    have hsk:=hsv E[k].2;clear HA c0 c1;generalize E[k].1=pt at *;generalize E[k].2=ow at *;go_wp2_with fail;refine (hsk _ (HT.out.later (hb.step_alloc _)) (HP.out.later (hb.step_alloc _))).mono ?_;rintro e w2 ⟨x,rfl,hb2,hx⟩;have HX:=Hid.mk hx;have HB2:=Hid.mk ((hb.step_alloc _).trans hb2);clear hx hb2;cases x
    ·go_wp2;go_ret;exact ⟨false,rfl,HB2.out,⟨fun h=>(by cases h),fun h=>by have:=HX.out.2 (HN.out h);cases this⟩⟩
    ·go_wp2_with fail;go_roundg (E.length - (k+1))
     case measure=>omega
     case rel=>exact ⟨HB2.out,k+1,rfl,by omega,by go_num,HY.out (HX.out.1 (by simp))⟩
   ·have HAll:Hid (∀e∈E,ServE B e.2):=fun e he=>by
     obtain ⟨j,hj,rfl⟩:=List.getElem_of_mem he;exact HA.out j hj (by omega)
    have s0:=hb.cell t0
    have HB:=Hid.mk hb
    clear HA hcE hsv hb
    go_wp2_with fail
    refine (hhp _).mono ?_
    rintro e w2 ⟨rfl,hb2⟩
    have HB2:=Hid.mk (HB.out.trans hb2)
    have s7:=HB2.out.cell t7
    clear hb2 HB s0
    cases hp
    ·go_wp2
     go_ret
     exact ⟨true,rfl,HB2.out,⟨fun _=>HR.out.2 ⟨HQ.out,HAll.out,fun h=>by simp at h⟩,fun _=>rfl⟩⟩
    ·go_wp2_with fail
     refine (hri _ (HE.out.later HB2.out)).mono ?_
     rintro e w3 ⟨x,rfl,hb3,hx⟩
     have HX:=Hid.mk hx
     have HB3:=Hid.mk (HB2.out.trans hb3)
     clear hx hb3 HB2 s7
     cases x
     ·go_wp2
      go_ret
      exact ⟨false,rfl,HB3.out,⟨fun h=>(by cases h),fun h=>by have:=HX.out.2 ((HR.out.1 h).2.2 (by simp)).1;cases this⟩⟩
     ·go_wp2_with fail
      refine (hao _ (HT.out.later HB3.out) (HP.out.later HB3.out) (HE.out.later HB3.out)).mono ?_
      rintro e w4 ⟨y,rfl,hb4,hy⟩
      have HY:=Hid.mk hy
      have HB4:=Hid.mk (HB3.out.trans hb4)
      clear hy hb4 HB3
      go_wp2
      go_ret
      exact ⟨y,rfl,HB4.out,⟨fun h=>HR.out.2 ⟨HQ.out,HAll.out,fun _=>⟨HX.out.1 (by simp),HY.out.1 h⟩⟩,fun h=>HY.out.2 ((HR.out.1 h).2.2 (by simp)).2⟩⟩
def RightG (g:Nat) (c:Cfg) (B:List BK) (E:List EI):Prop:=(1≤g∧g≤1073741824)∧RightT c B E
theorem cright_is (g:Nat) (c:Cfg) (vP vE:Value) (B:List BK) (E:List EI) (w:World) (hP:PoolAt w vP B) (hE:EIAt w vE E) (hB:PoolOK B) (hlen:E.length≤1048576) (hc:c.TOK):
  Calls Tryz.prog 193 #[.int .i64 (g:Int),tabV c vP vE] w (RRight (RightG g c B E) w):=by
 have hgn:=fun wx=>generation_is (g:Int) wx
 have hri:=fun wx h1 h2 h3=>right_is w.heap.size c vP vE B E wx h1 h2 h3 hB hlen hc
 have HR:Hid (RightG g c B E↔(1≤g∧g≤1073741824)∧RightT c B E):=Iff.rfl;generalize RightG g c B E=RG at *;generalize RightT c B E=RT at *;obtain ⟨W0,hW0⟩:∃W0,W0=w.alloc (.cells #[.int .i64 c.alg,.int .i64 c.slots,.int .i64 c.points,.int .i64 c.probes,.string c.key,.int .i64 c.formats,vP,vE] 66):=⟨_,rfl⟩;have hb0:Bel w W0:=by rw [hW0];exact (Bel.refl w).step_alloc _
 have HT:Hid (TabAt W0 w.heap.size c vP vE):=by
  show TabAt _ _ _ _ _;have X:=BoxC.new w 66 #[.int .i64 c.alg,.int .i64 c.slots,.int .i64 c.points,.int .i64 c.probes,.string c.key,.int .i64 c.formats,vP,vE];rw [←hW0] at X;exact ⟨⟨X.cell 0 rfl,X.cell 1 rfl,X.cell 2 rfl,X.cell 3 rfl,X.cell 4 rfl,X.cell 5 rfl⟩,X.cell 6 rfl,X.cell 7 rfl⟩
 have HP:=Hid.mk (hP.later hb0);have HE:=Hid.mk (hE.later hb0);have HB0:=Hid.mk hb0;clear hP hE hb0 hB hc;unfold tabV;go_enter Tryz.func193,Tryz.ntmps193;go_wp2_with fail;rw [←hW0];refine (hgn _).mono ?_;rintro e w1 ⟨x,rfl,rfl,hx⟩;have HX:Hid (x=true↔1≤g∧g≤1073741824):=⟨fun h=>by have:=hx.1 h;unfold Within at this;omega,fun h=>hx.2 (by unfold Within;omega)⟩;clear hx hgn hW0;cases x
 ·go_wp2;go_ret;exact ⟨false,rfl,HB0.out,⟨fun h=>(by cases h),fun h=>by have:=HX.out.2 (HR.out.1 h).1;cases this⟩⟩
 ·go_wp2_with fail;refine (hri _ HT.out HP.out HE.out).mono ?_;rintro e w2 ⟨y,rfl,hb2,hy⟩;have HY:=Hid.mk hy;have HB2:=Hid.mk (HB0.out.trans hb2);clear hy hb2;go_wp2;go_ret;exact ⟨y,rfl,HB2.out,⟨fun h=>HR.out.2 ⟨HX.out.1 (by simp),HY.out.1 h⟩,fun h=>HY.out.2 (HR.out.1 h).2⟩⟩
end Go.Proofs.YtpapdkhjdelfcabGreat
namespace Go.Proofs.YtpapdkhjdelfcabGreat
open Go.RowKit
def imageB (f g:Nat) (c:Cfg) (B:List BK) (E:List EI):List UInt8:=packB (bodyB f g c B E)++sumB (crcB (packB (bodyB f g c B E)))
theorem packB_body_le {f g:Nat} {c:Cfg} {B:List BK} {E:List EI} (hk:c.key.size=16) (hB:PoolOK B) (hE:E.length≤65536):(packB (bodyB f g c B E)).length≤8389600:=Nat.le_trans (packB_len_le _ _ (Nat.le_refl _)) (bodyB_len hk hB hE)
theorem writei_is (f g:Nat) (c:Cfg) (B:List BK) (E:List EI) (vP vE:Value) (w:World) (hf:f≤4611686018427387904) (hg:g≤4611686018427387904) (hc:c.TOK) (hP:PoolAt w vP B) (hB:PoolOK B) (hE:EOff w vE E) (hok:∀e∈E,EntOK e) (hlen:E.length≤65536):
  Calls Tryz.prog 122 #[.int .i64 (f:Int),.int .i64 (g:Int),tabV c vP vE] w (RTx w (imageB f g c B E)):=by
 have hbo:=fun wx h1 h2=>body_is f g c B E vP vE wx hf hg hc h1 hB h2 hok hlen
 have hle:=packB_body_le (f:=f) (g:=g) (E:=E) hc.2.2.2.2.2.2.2.2.2 hB hlen;have hse:=fun wx=>sealed_is (txt (packB (bodyB f g c B E))) wx (by simp [txt,ByteArray.size];omega)
 rw [txt_list] at hse;unfold imageB;generalize packB (bodyB f g c B E)=PB at *;have HP:=Hid.mk hP;have HE:=Hid.mk hE;unfold tabV at *;obtain ⟨alg,slots,points,probes,key,formats⟩:=c;simp only at *;clear hc hP hE hB hok;go_enter Tryz.func122,Tryz.ntmps122;go_wp2_with fail;refine (hbo _ (HP.out.later (by (repeat (first|exact Bel.refl _|assumption|refine Bel.step_alloc ?_ _|refine Bel.step_drew ?_|refine Bel.step_drewN ?_ _|refine Bel.step_set ?_ (by simp <;>omega) _|refine Bel.trans ?_ (by assumption))))) (HE.out.later (by (repeat (first|exact Bel.refl _|assumption|refine Bel.step_alloc ?_ _|refine Bel.step_drew ?_|refine Bel.step_drewN ?_ _|refine Bel.step_set ?_ (by simp <;>omega) _|refine Bel.trans ?_ (by assumption)))))).mono ?_;rintro e w1 ⟨rfl,hb1⟩;have HB1:Hid (Bel w w1):=((Bel.refl w).step_alloc _).trans hb1;clear hb1;go_wp2_with fail;refine (hse _).mono ?_;rintro e w2 ⟨rfl,hb2⟩;have HB2:=Hid.mk (HB1.out.trans hb2);clear hb2;go_wp2;go_ret;exact ⟨rfl,HB2.out⟩
theorem St.setO {W0:World} {p:Nat} {o:Option (List Bool)} {q:Nat} {tq:TypeId} {qc:Array Value} {W:World} (h:St W0 p o q tq qc W) {a:Addr} (h1:W0.heap.size≤a.block) (h2:a.block≠p) (h3:a.block≠q) (u:Value):St W0 p o q tq qc (W.setCell a u):=
 ⟨h.1.setN h1 u,h.2.1.kept (by simp only [World.setCell,Array.getElem?_modify,if_neg h2]),h.2.2.1.setO h3 u,h.2.2.2⟩
theorem Rs.setO {p:Nat} {o:Option (List Bool)} {W:World} (h:Rs p o W) {a:Addr} (h2:a.block≠p) (u:Value):Rs p o (W.setCell a u):=h.kept (by simp only [World.setCell,Array.getElem?_modify,if_neg h2])
def imgV (f g:Nat) (c:Cfg) (vP vE:Value):Value:= .agg #[.int .i64 (f:Int),.int .i64 (g:Int),.int .i64 c.alg,.int .i64 c.slots,.int .i64 c.points,.int .i64 c.probes,.string c.key,.int .i64 c.formats,vP,vE]
def headX:List Bool→Option ((Nat×Nat×Cfg)×List Bool):=thenP (numP 8) fun f=>thenP (numP 8) fun a=>thenP (numP 32) fun g=>thenP (numP 16) fun s=>thenP (numP 8) fun pt=>thenP (numP 8) fun pr=>thenP (textP 16) fun k=>doneP (f,g,⟨(a:Int),(s:Int),(pt:Int),(pr:Int),txt k,0⟩)
def RHead (p:Nat) (o:Option (List Bool)) (w:World) (e:Ending) (w':World):Prop:=
 ∃(f g:Nat) (c:Cfg) (o':Option (List Bool)),e= .returned (imgV f g c (.slice none 0 0) (.slice none 0 0))∧But [p] w w'∧Rs p o' w'∧o.bind headX=o'.map (Prod.mk (f,g,c))∧g<4294967296∧f<256
theorem takeh_is (p:Nat) (o:Option (List Bool)) (w:World) (h:Rs p o w):
  Calls Tryz.prog 189 #[.pointer (some ⟨p,0,none⟩)] w (RHead p o w):=by
 have hp:=h.lt;obtain ⟨W0,hW0⟩:∃W0,W0=w.alloc (.cells #[.int .i64 0,.int .i64 0,.int .i64 0,.int .i64 0,.int .i64 0,.int .i64 0,.string ⟨#[]⟩,.int .i64 0,.slice none 0 0,.slice none 0 0] 173):=⟨_,rfl⟩;obtain ⟨W1,hW1⟩:∃W1,W1=W0.alloc (.cells #[.int .i64 0,.int .i64 0,.int .i64 0,.int .i64 0,.int .i64 0,.int .i64 0,.string ⟨#[]⟩,.int .i64 0,.slice none 0 0,.slice none 0 0] 173):=⟨_,rfl⟩;have hs0:W0.heap.size=w.heap.size+1:=by rw [hW0];simp
 have hs1:W1.heap.size=w.heap.size+1+1:=by rw [hW1];simp [hs0]
 have hb0:Bel w W0:=by rw [hW0];exact (Bel.refl w).step_alloc _
 have hb1:Bel W0 W1:=by rw [hW1];exact (Bel.refl W0).step_alloc _
 have HR0:Hid (BoxC w.heap.size 173 #[.int .i64 0,.int .i64 0,.int .i64 0,.int .i64 0,.int .i64 0,.int .i64 0,.string ⟨#[]⟩,.int .i64 0,.slice none 0 0,.slice none 0 0] W0):=by show BoxC _ _ _ W0;rw [hW0];exact BoxC.new _ _ _
 have HM:Hid (BoxC (w.heap.size+1) 173 #[.int .i64 0,.int .i64 0,.int .i64 0,.int .i64 0,.int .i64 0,.int .i64 0,.string ⟨#[]⟩,.int .i64 0,.slice none 0 0,.slice none 0 0] W1):=by show BoxC _ _ _ W1;rw [←hs0,hW1];exact BoxC.new _ _ _
 have HS:=Hid.mk (St.new (tq:=34) (qc:=#[.int .i64 0,.int .i64 0,.int .i64 0,.int .i64 0,.string ⟨#[]⟩,.int .i64 0]) (But.of_bel (M:=[p]) hb1) (h.kept ((hb0.trans hb1).block p h.lt)));rw [hs1] at HS;replace HM:=Hid.mk (HM.out.alloc (.cells #[.int .i64 0,.int .i64 0,.int .i64 0,.int .i64 0,.string ⟨#[]⟩,.int .i64 0] 34));have HB0:=Hid.mk hb0;have HZ0:=Hid.mk hs0;clear h hb0 hb1;go_enter Tryz.func189,Tryz.ntmps189;have K0:=Hid.mk (rint_p p _ 1 _ HS.out.rs (by omega));go_wp2_with fail;rw [←hW0,←hW1];refine K0.out.mono ?_;rintro e v0 ⟨f,o1,rfl,hB,hR,hlt0,hq0⟩;replace HS:=Hid.mk (HS.out.read hB hR);replace HM:=Hid.mk (HM.out.but hB (by simp;omega));have g0:=HM.out.cell 0 rfl;have k0:=HM.out.free 0;replace HS:=Hid.mk (HS.out.setO (a:=⟨w.heap.size+1,0,none⟩) (by have:=HZ0.out;simp only;omega) (by simp only;omega) (by simp) (.int .i64 (f:Int)));replace HM:=Hid.mk (HM.out.set 0 (.int .i64 (f:Int)) (cs':=#[.int .i64 (f:Int),.int .i64 0,.int .i64 0,.int .i64 0,.int .i64 0,.int .i64 0,.string ⟨#[]⟩,.int .i64 0,.slice none 0 0,.slice none 0 0]) rfl);have P0:=Hid.mk hq0;clear hB hR hq0 K0;have HF:Hid (f<256):=hlt0;clear hlt0;have K1:=Hid.mk (rint_p p _ 1 _ HS.out.rs (by omega));go_wp2_with fail;refine K1.out.mono ?_;rintro e v1 ⟨a,o2,rfl,hB,hR,hlt1,hq1⟩;replace HS:=Hid.mk (HS.out.read hB hR);replace HM:=Hid.mk (HM.out.but hB (by simp;omega));have g1:=HS.out.box.cell 0 rfl;have k1:=HS.out.box.free 0;replace HS:=Hid.mk (HS.out.put 0 (.int .i64 (a:Int)) (qc':=#[.int .i64 (a:Int),.int .i64 0,.int .i64 0,.int .i64 0,.string ⟨#[]⟩,.int .i64 0]) rfl);replace HM:=Hid.mk (HM.out.setO (a:=⟨w.heap.size+1+1,0,none⟩) (by simp) (.int .i64 (a:Int)));have P1:=Hid.mk hq1;clear hB hR hq1 K1 hlt1;have K2:=Hid.mk (rint_p p _ 4 _ HS.out.rs (by omega));go_wp2_with fail;refine K2.out.mono ?_;rintro e v2 ⟨g,o3,rfl,hB,hR,hlt2,hq2⟩;replace HS:=Hid.mk (HS.out.read hB hR);replace HM:=Hid.mk (HM.out.but hB (by simp;omega));have g2:=HM.out.cell 1 rfl;have k2:=HM.out.free 1;replace HS:=Hid.mk (HS.out.setO (a:=⟨w.heap.size+1,1,none⟩) (by have:=HZ0.out;simp only;omega) (by simp only;omega) (by simp) (.int .i64 (g:Int)));replace HM:=Hid.mk (HM.out.set 1 (.int .i64 (g:Int)) (cs':=#[.int .i64 (f:Int),.int .i64 (g:Int),.int .i64 0,.int .i64 0,.int .i64 0,.int .i64 0,.string ⟨#[]⟩,.int .i64 0,.slice none 0 0,.slice none 0 0]) rfl);have P2:=Hid.mk hq2;clear hB hR hq2 K2;have HG:Hid (g<4294967296):=hlt2;clear hlt2;have K3:=Hid.mk (rint_p p _ 2 _ HS.out.rs (by omega));go_wp2_with fail;refine K3.out.mono ?_;rintro e v3 ⟨sl,o4,rfl,hB,hR,hlt3,hq3⟩;replace HS:=Hid.mk (HS.out.read hB hR);replace HM:=Hid.mk (HM.out.but hB (by simp;omega));have g3:=HS.out.box.cell 1 rfl;have k3:=HS.out.box.free 1;replace HS:=Hid.mk (HS.out.put 1 (.int .i64 (sl:Int)) (qc':=#[.int .i64 (a:Int),.int .i64 (sl:Int),.int .i64 0,.int .i64 0,.string ⟨#[]⟩,.int .i64 0]) rfl);replace HM:=Hid.mk (HM.out.setO (a:=⟨w.heap.size+1+1,1,none⟩) (by simp) (.int .i64 (sl:Int)));have P3:=Hid.mk hq3;clear hB hR hq3 K3 hlt3
 have K4:=Hid.mk (rint_p p _ 1 _ HS.out.rs (by omega));go_wp2_with fail;refine K4.out.mono ?_;rintro e v4 ⟨pt,o5,rfl,hB,hR,hlt4,hq4⟩;replace HS:=Hid.mk (HS.out.read hB hR);replace HM:=Hid.mk (HM.out.but hB (by simp;omega));have g4:=HS.out.box.cell 2 rfl;have k4:=HS.out.box.free 2;replace HS:=Hid.mk (HS.out.put 2 (.int .i64 (pt:Int)) (qc':=#[.int .i64 (a:Int),.int .i64 (sl:Int),.int .i64 (pt:Int),.int .i64 0,.string ⟨#[]⟩,.int .i64 0]) rfl);replace HM:=Hid.mk (HM.out.setO (a:=⟨w.heap.size+1+1,2,none⟩) (by simp) (.int .i64 (pt:Int)));have P4:=Hid.mk hq4;clear hB hR hq4 K4 hlt4;have K5:=Hid.mk (rint_p p _ 1 _ HS.out.rs (by omega));go_wp2_with fail;refine K5.out.mono ?_;rintro e v5 ⟨pr,o6,rfl,hB,hR,hlt5,hq5⟩;replace HS:=Hid.mk (HS.out.read hB hR);replace HM:=Hid.mk (HM.out.but hB (by simp;omega));have g5:=HS.out.box.cell 3 rfl;have k5:=HS.out.box.free 3;replace HS:=Hid.mk (HS.out.put 3 (.int .i64 (pr:Int)) (qc':=#[.int .i64 (a:Int),.int .i64 (sl:Int),.int .i64 (pt:Int),.int .i64 (pr:Int),.string ⟨#[]⟩,.int .i64 0]) rfl);replace HM:=Hid.mk (HM.out.setO (a:=⟨w.heap.size+1+1,3,none⟩) (by simp) (.int .i64 (pr:Int)));have P5:=Hid.mk hq5;clear hB hR hq5 K5 hlt5;have K6:=Hid.mk (rtext_p p _ 16 _ HS.out.rs (by omega));go_wp2_with fail;refine K6.out.mono ?_;rintro e v6 ⟨k,o7,rfl,hB,hR, -,hq6⟩;have S6:=HS.out.read hB hR;have M6:=HM.out.but hB (by simp;omega);have R6:=HR0.out.but S6.1 (by simp;omega);have C6:=S6.box;have m0:=M6.cell 0 rfl;have n0:=M6.free 0;have m1:=M6.cell 1 rfl;have n1:=M6.free 1;have m2:=M6.cell 2 rfl;have n2:=M6.free 2;have m3:=M6.cell 3 rfl;have n3:=M6.free 3;have m4:=M6.cell 4 rfl;have n4:=M6.free 4;have m5:=M6.cell 5 rfl;have n5:=M6.free 5;have m6:=M6.cell 6 rfl;have n6:=M6.free 6;have m7:=M6.cell 7 rfl;have n7:=M6.free 7;have m8:=M6.cell 8 rfl;have n8:=M6.free 8;have m9:=M6.cell 9 rfl;have n9:=M6.free 9;have r0:=R6.cell 0 rfl;have s0:=R6.free 0;have r1:=R6.cell 1 rfl;have s1:=R6.free 1;have r2:=R6.cell 2 rfl;have s2:=R6.free 2;have r3:=R6.cell 3 rfl;have s3:=R6.free 3;have r4:=R6.cell 4 rfl;have s4:=R6.free 4;have r5:=R6.cell 5 rfl;have s5:=R6.free 5;have r6:=R6.cell 6 rfl;have s6:=R6.free 6;have r7:=R6.cell 7 rfl;have s7:=R6.free 7;have r8:=R6.cell 8 rfl;have s8:=R6.free 8;have r9:=R6.cell 9 rfl;have s9:=R6.free 9;have c0:=C6.cell 0 rfl;have d0:=C6.free 0;have c1:=C6.cell 1 rfl;have d1:=C6.free 1;have c2:=C6.cell 2 rfl;have d2:=C6.free 2;have c3:=C6.cell 3 rfl;have d3:=C6.free 3;have c4:=C6.cell 4 rfl;have d4:=C6.free 4;have c5:=C6.cell 5 rfl;have d5:=C6.free 5;have HPX:Hid (o.bind headX=o7.map (Prod.mk (f,g,⟨(a:Int),(sl:Int),(pt:Int),(pr:Int),txt k,0⟩))):=then_step P0.out (then_step P1.out (then_step P2.out (then_step P3.out (then_step P4.out (then_step P5.out (then_step hq6 (done_step _)))))));have HB6:=Hid.mk ((But.of_bel HB0.out).trans S6.1);have HR6:=Hid.mk S6.rs;clear S6 M6 R6 C6 hB hR hq6 P0 P1 P2 P3 P4 P5 HR0 HS HM K6;go_wp2
 refine bodyPost_ret (by simp [results,Tryz.results189,go_sem,r0,r1,r2,r3,r4,r5,r6,r7,r8,r9];rfl) rfl ⟨f,g,⟨(a:Int),(sl:Int),(pt:Int),(pr:Int),txt k,0⟩,o7,rfl,?_,?_,HPX.out,HG.out,HF.out⟩
 ·iterate 17 (refine But.setN ?_ (by simp only;omega) _)
  exact HB6.out
 ·iterate 17 (refine Rs.setO ?_ (by simp only;omega) _)
  exact HR6.out
end Go.Proofs.YtpapdkhjdelfcabGreat
namespace Go.Proofs.YtpapdkhjdelfcabGreat
open Go.RowKit
def questX:List Bool→Option ((List UInt8×Nat×Nat×Nat×Nat×Nat)×List Bool):=
 thenP (textP 1) fun t=>thenP (numP 32) fun h=>thenP (numP 8) fun f=>thenP (numP 32) fun c=>thenP (numP 8) fun m=>thenP (numP 16) fun n=>doneP (t,h,f,c,m,n)
def questP (l:List UInt8):Option (Nat×Nat×Nat×Nat×Nat):=(openB l).bind fun b=>(questX (bytesBits b)).bind fun y=>if endP (some y.2)=true∧y.1.1=[81] then some y.1.2 else none
def questA (h f c m n:Nat):Value:= .agg #[.int .i64 (h:Int),.int .i64 (f:Int),.int .i64 (c:Int),.int .i64 (m:Int),.int .i64 (n:Int)]
def questV:Option (Nat×Nat×Nat×Nat×Nat)→Value
 |some (h,f,c,m,n)=> .tuple #[questA h f c m n,.bool true]
 |none=> .tuple #[questA 0 0 0 0 0,.bool false]
def RQuest (w:World) (o:Option (Nat×Nat×Nat×Nat×Nat)) (e:Ending) (w':World):Prop:=e= .returned (questV o)∧Bel w w'
theorem questP_no {l:List UInt8} (h:openB l=none):questP l=none:=by simp [questP,h]
theorem questP_is {l b:List UInt8} {o:Option (List Bool)} {t:List UInt8} {h f c m n:Nat} (h1:openB l=some b) (h2:(some (bytesBits b)).bind questX=o.map (Prod.mk (t,h,f,c,m,n))):questP l=if endP o=true∧t=[81] then some (h,f,c,m,n) else none:=by
 have h2':questX (bytesBits b)=o.map (Prod.mk (t,h,f,c,m,n)):=h2;rw [questP,h1,Option.bind_some,h2'];cases o with
 |none=>simp [endP]
 |some X=>rfl
theorem readq_is (t:ByteArray) (w:World) (ht:t.size≤1099511627776):
  Calls Tryz.prog 62 #[.string t] w (RQuest w (questP t.data.toList)):=by
 have HR:=Hid.mk (BoxC.new w 91 #[.int .i64 0,.int .i64 0,.int .i64 0,.int .i64 0,.int .i64 0]);cases hO:openB t.data.toList with
 |none=>
  rw [questP_no hO];have H0:=fun wx=>opened_is t wx ht
  rw [hO] at H0;unfold ROpen openV at H0;go_enter Tryz.func62,Tryz.ntmps62;go_wp2_with fail;refine (H0 _).mono ?_;rintro e w1 ⟨rfl,hb1⟩;have R1:=HR.out.bel hb1;have r0:=R1.cell 0 rfl;have f0:=R1.free 0;have r1:=R1.cell 1 rfl;have f1:=R1.free 1;have r2:=R1.cell 2 rfl;have f2:=R1.free 2;have r3:=R1.cell 3 rfl;have f3:=R1.free 3;have r4:=R1.cell 4 rfl;have f4:=R1.free 4;have HB1:Hid (Bel w w1):=((Bel.refl w).step_alloc _).trans hb1;clear R1 HR hb1 H0;go_wp2;refine bodyPost_ret (v:=questV none) (by simp [questV,questA,results,Tryz.results62,go_sem,r0,r1,r2,r3,r4]) rfl ⟨rfl,?_⟩;exact ((((HB1.out.step_set (p:=⟨w.heap.size,0,none⟩) (Nat.le_refl _) _).step_set (p:=⟨w.heap.size,1,none⟩) (Nat.le_refl _) _).step_set (p:=⟨w.heap.size,2,none⟩) (Nat.le_refl _) _).step_set (p:=⟨w.heap.size,3,none⟩) (Nat.le_refl _) _).step_set (p:=⟨w.heap.size,4,none⟩) (Nat.le_refl _) _
 |some b=>
  have H0:=fun wx=>opened_is t wx ht
  rw [hO] at H0;unfold ROpen openV at H0;go_enter Tryz.func62,Tryz.ntmps62;go_wp2_with fail;refine (H0 _).mono ?_;rintro e w1 ⟨rfl,hb1⟩;go_wp2_with fail;refine (read_is _ _).mono ?_;rintro e w2 ⟨rfl,hb2⟩;obtain ⟨W0,hW0⟩:∃W0,W0=w.alloc (.cells #[.int .i64 0,.int .i64 0,.int .i64 0,.int .i64 0,.int .i64 0] 91):=⟨_,rfl⟩;rw [←hW0] at HR hb1;have hS0:=Rs.new w2 b 151;have hB0:But [w2.heap.size] W0 (w2.alloc (.cells #[.string (txt b),.int .u64 0,.bool false] 151)):=But.of_bel ((hb1.trans hb2).step_alloc _);have H1:=Hid.mk (rtext_p w2.heap.size _ 1 _ hS0 (by omega));have hp0:W0.heap.size≤w2.heap.size:=(hb1.trans hb2).size;have hrp:Hid (w.heap.size<W0.heap.size):=by show _<_;rw [hW0];simp
  have hw0:Hid (Bel w W0):=by show Bel w W0;rw [hW0];exact (Bel.refl w).step_alloc _
  have HB0:=Hid.mk hB0;clear hb1 hb2 H0 hS0 hB0 hW0;go_wp2_with fail;refine H1.out.mono ?_;rintro e w3 ⟨l,o1,rfl,hB3,hR3,hl3,hq1⟩;have HS:=Hid.mk (St.new (tq:=91) (qc:=#[.int .i64 0,.int .i64 0,.int .i64 0,.int .i64 0,.int .i64 0]) (HB0.out.trans hB3) hR3);have HQ1:=Hid.mk hq1;clear hB3 hR3 hl3 hq1 H1 HB0;have K0:=Hid.mk (rint_p _ _ 4 _ HS.out.rs (by omega));go_wp2_with fail;refine K0.out.mono ?_;rintro e v0 ⟨h,o2,rfl,hB,hR, -,hq0⟩;have HT0:=HS.out.read hB hR;have g0:=HT0.box.cell 0 rfl;have k0:=HT0.box.free 0;replace HS:=Hid.mk (HT0.put 0 (.int .i64 (h:Int)) (qc':=#[.int .i64 (h:Int),.int .i64 0,.int .i64 0,.int .i64 0,.int .i64 0]) rfl);have P0:=Hid.mk hq0;clear hB hR hq0 K0;have HT:=Hid.mk HT0;clear HT0;have K1:=Hid.mk (rint_p _ _ 1 _ HS.out.rs (by omega));go_wp2_with fail;refine K1.out.mono ?_;rintro e v1 ⟨f,o3,rfl,hB,hR, -,hq1⟩;have HT1:=HS.out.read hB hR;have g1:=HT1.box.cell 1 rfl;have k1:=HT1.box.free 1;replace HS:=Hid.mk (HT1.put 1 (.int .i64 (f:Int)) (qc':=#[.int .i64 (h:Int),.int .i64 (f:Int),.int .i64 0,.int .i64 0,.int .i64 0]) rfl);have P1:=Hid.mk hq1;clear hB hR hq1 K1;have HT:=Hid.mk HT1;clear HT1;have K2:=Hid.mk (rint_p _ _ 4 _ HS.out.rs (by omega));go_wp2_with fail;refine K2.out.mono ?_;rintro e v2 ⟨c,o4,rfl,hB,hR, -,hq2⟩;have HT2:=HS.out.read hB hR;have g2:=HT2.box.cell 2 rfl;have k2:=HT2.box.free 2;replace HS:=Hid.mk (HT2.put 2 (.int .i64 (c:Int)) (qc':=#[.int .i64 (h:Int),.int .i64 (f:Int),.int .i64 (c:Int),.int .i64 0,.int .i64 0]) rfl);have P2:=Hid.mk hq2;clear hB hR hq2 K2;have HT:=Hid.mk HT2;clear HT2;have K3:=Hid.mk (rint_p _ _ 1 _ HS.out.rs (by omega));go_wp2_with fail;refine K3.out.mono ?_;rintro e v3 ⟨m,o5,rfl,hB,hR, -,hq3⟩;have HT3:=HS.out.read hB hR;have g3:=HT3.box.cell 3 rfl;have k3:=HT3.box.free 3;replace HS:=Hid.mk (HT3.put 3 (.int .i64 (m:Int)) (qc':=#[.int .i64 (h:Int),.int .i64 (f:Int),.int .i64 (c:Int),.int .i64 (m:Int),.int .i64 0]) rfl);have P3:=Hid.mk hq3;clear hB hR hq3 K3;have HT:=Hid.mk HT3;clear HT3;have K4:=Hid.mk (rint_p _ _ 2 _ HS.out.rs (by omega));go_wp2_with fail;refine K4.out.mono ?_;rintro e v4 ⟨n,o6,rfl,hB,hR, -,hq4⟩;have HT4:=HS.out.read hB hR;have g4:=HT4.box.cell 4 rfl;have k4:=HT4.box.free 4;replace HS:=Hid.mk (HT4.put 4 (.int .i64 (n:Int)) (qc':=#[.int .i64 (h:Int),.int .i64 (f:Int),.int .i64 (c:Int),.int .i64 (m:Int),.int .i64 (n:Int)]) rfl);have P4:=Hid.mk hq4;clear hB hR hq4 K4;have HT:=Hid.mk HT4;clear HT4;have hfin:Hid (questP t.data.toList=if endP o6=true∧l=[81] then some (h,f,c,m,n) else none):=questP_is hO (then_step HQ1.out (then_step P0.out (then_step P1.out (then_step P2.out (then_step P3.out (then_step P4.out (done_step _)))))));have hne:w.heap.size≠w3.heap.size:=by have:=hrp.out;have:=HS.out.2.2.2.1;omega
  have HW:Hid (Bel w (v4.setCell ⟨w3.heap.size,4,none⟩ (.int .i64 (n:Int)))):=But.belTo hw0.out HS.out.1 (fun j hj=>by have:=hrp.out;simp at hj;omega);have hte:((txt l).toList==[81])=decide (l=[81]):=txt_is l [81];clear HQ1 P0 P1 P2 P3 P4;by_cases hl:l=[81]
  rotate_left
  ·have hte2:((txt l).toList==[81])=false:=by rw [hte];exact decide_eq_false hl
   rw [if_neg (fun e=>hl e.2)] at hfin;have R9:=HR.out.but HT.out.1 (by have:=hrp.out;simp;omega);have r0:=R9.cell 0 rfl;have f0:=R9.free 0;have r1:=R9.cell 1 rfl;have f1:=R9.free 1;have r2:=R9.cell 2 rfl;have f2:=R9.free 2;have r3:=R9.cell 3 rfl;have f3:=R9.free 3;have r4:=R9.cell 4 rfl;have f4:=R9.free 4;clear R9 hte HS hl HT HR hrp;go_wp2;rw [hfin.out];exact bodyPost_ret (v:=questV none) (by simp [questV,questA,results,Tryz.results62,go_sem,r0,r1,r2,r3,r4]) rfl ⟨rfl,HW.out.sets5 (Nat.le_refl _) _ _ _ _ _⟩
  ·subst hl;have H9:=Hid.mk (rover_p _ _ _ HS.out.rs);have HQ:=Hid.mk HS.out.box;have hte2:((txt [81]).toList==[81])=true:=by rw [hte];simp
   have HR9:=Hid.mk (HR.out.but HS.out.1 (by have:=hrp.out;simp;omega));clear hte HS HT HR hrp;go_wp2_with fail;refine H9.out.mono ?_;rintro e w9 ⟨rfl,hb9⟩;have R9:=HR9.out.bel hb9;have Q9:=HQ.out.bel hb9;have r0:=R9.cell 0 rfl;have f0:=R9.free 0;have r1:=R9.cell 1 rfl;have f1:=R9.free 1;have r2:=R9.cell 2 rfl;have f2:=R9.free 2;have r3:=R9.cell 3 rfl;have f3:=R9.free 3;have r4:=R9.cell 4 rfl;have f4:=R9.free 4;have a0:=Q9.cell 0 rfl;have b0:=Q9.free 0;have a1:=Q9.cell 1 rfl;have b1:=Q9.free 1;have a2:=Q9.cell 2 rfl;have b2:=Q9.free 2;have a3:=Q9.cell 3 rfl;have b3:=Q9.free 3;have a4:=Q9.cell 4 rfl;have b4:=Q9.free 4;replace HW:=Hid.mk (HW.out.trans hb9);clear R9 Q9 HR9 HQ hb9 H9 g0 g1 g2 g3 g4 k0 k1 k2 k3 k4;cases hx:endP o6
   ·rw [if_neg (fun e=>by rw [hx] at e;exact absurd e.1 (by simp))] at hfin;go_wp2;rw [hfin.out];exact bodyPost_ret (v:=questV none) (by simp [questV,questA,results,Tryz.results62,go_sem,r0,r1,r2,r3,r4]) rfl ⟨rfl,HW.out.sets5 (Nat.le_refl _) _ _ _ _ _⟩
   ·rw [if_pos ⟨hx,(by simp)⟩] at hfin;go_wp2;rw [hfin.out];exact bodyPost_ret (v:=questV (some (h,f,c,m,n))) (by simp [questV,questA,results,Tryz.results62,go_sem,r0,r1,r2,r3,r4]) rfl ⟨rfl,HW.out.sets5 (Nat.le_refl _) _ _ _ _ _⟩
end Go.Proofs.YtpapdkhjdelfcabGreat
