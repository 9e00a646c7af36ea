import Derived.Test.YtpapdkhjdelfcabGreatLBL
import Derived.Test.YtpapdkhjdelfcabGreatLBM
namespace Go.Proofs.YtpapdkhjdelfcabGreat
open Go.RowKit
set_option maxRecDepth 100000
set_option maxHeartbeats 4000000
def IZ (w:World) (c:Ac) (gen:Int) (vB:Value) (B:List BK) (e:Ending) (w':World):Prop:=∃(q:Nat) (vE:Value) (E:List EN),e= .returned (.pointer (some ⟨q,0,none⟩))∧Aa w w'∧w.heap.size≤q∧
 ((w'.cell? ⟨q, 0, none⟩ = some (.int .i64 c.alg) ∧ w'.cell? ⟨q, 1, none⟩ = some (.int .i64 c.slots) ∧ w'.cell? ⟨q, 2, none⟩ = some (.int .i64 c.points) ∧ w'.cell? ⟨q, 3, none⟩ = some (.int .i64 c.probes) ∧ w'.cell? ⟨q, 4, none⟩ = some (.string c.key) ∧ w'.cell? ⟨q, 5, none⟩ = some (.int .i64 c.formats)) ∧
 w'.cell? ⟨q, 6, none⟩ = some (.int .i64 gen) ∧ w'.cell? ⟨q, 7, none⟩ = some vB ∧ w'.cell? ⟨q, 8, none⟩ = some vE ∧ Am w' vB B ∧ Cl w' vE E) ∧ (∀ g, vE.ownBlock = some g → w.heap.size ≤ g) ∧ Dh c gen B E ∧ (∀ x ∈ E, Af x.2.1 ∧ Af x.2.2) ∧ BU c B E
def DQ (w:World) (v:Value) (c:Ac) (B:List BK) (gen:Int):Prop:=(v= .pointer none∧gen=0)∨∃(q:Nat) (E:List EN),v= .pointer (some ⟨q,0,none⟩)∧Bz w q c gen B E∧Dh c gen B E∧(∀x∈E,Af x.2.1∧Af x.2.2)∧BU c B E∧gen≠0
theorem DQ.later {a w:World} {v:Value} {c:Ac} {B:List BK} {gen:Int} (h:DQ a v c B gen) (k:Aa a w):DQ w v c B gen:=by
 rcases h with h|⟨q,E,hv,hs,ho⟩
 ·exact Or.inl h
 ·exact Or.inr ⟨q,E,hv,hs.later k,ho⟩
theorem DQ.has {w:World} {v:Value} {c:Ac} {B:List BK} {gen:Int} (h:DQ w v c B gen):Do w v gen:=by
 rcases h with h|⟨q,E,hv,hs,ho,hw, -⟩
 ·exact Or.inl h
 ·exact Or.inr ⟨q,c,B,E,hv,hs,ho,hw⟩
theorem Fx.from {w w1:World} {c:Ac} {B:List BK} {e:Ending} {w':World} (h:Fx w1 c B e w') (b:Aa w w1):Fx w c B e w':=by
 obtain ⟨v,E,h1,h2,h3,h4⟩:=h;exact ⟨v,E,h1,b.trans h2,⟨h3.1,fun g hg=>jX b.size (h3.2 g hg)⟩,h4⟩
theorem KC.tab {w:World} {c:Ac} {B:List BK} {letter:UInt8} {per:Int} {e:Ending} {w':World} (h:KC w c B letter per e w') (hB:AL B) (hl:(c.alg=2∧letter=114∧per=c.points)∨(c.alg=4∧letter=109∧per=1)):Fx w c B e w':=by
 obtain ⟨v,E,h1,h2,h3,h4,h5,h6,h7⟩:=h;refine ⟨v,E,h1,h2,h3,h4,h5,h6,?_⟩;unfold BU;rw [h7];rcases Int.lt_or_le (As B) 1 with hw|hw
 ·rw [TJ hB hw];unfold An;rw [if_pos hw]
 ·unfold An;rw [if_neg (by omega)];rcases hl with ⟨h8,rfl,rfl⟩|⟨h8,rfl,rfl⟩
  ·rw [if_neg (by omega),if_pos h8]
  ·rw [if_neg (by omega),if_neg (by omega),if_neg (by omega),if_pos h8]
theorem RU (c:Ac) (vB:Value) (B:List BK) (w:World) (hc:c.OK) (hP:Am w vB B) (hB:AL B):
  Calls Tryz.prog 164 #[.agg c.cells,vB] w (Fx w c B):=by
 have hsl:=fun wx (b:Aa w wx) (ha:c.alg=1)=>Xf c vB B wx hc (hP.later b) hB ha
 have hsc:=fun wx (b:Aa w wx) (ha:c.alg=3)=>Tk c vB B wx hc (hP.later b) hB ha
 have hpr:=fun wx (b:Aa w wx) (ha:c.alg=2)=>(NH c vB B 114 c.points wx hc (hP.later b) hB (by have:=hc.2.2.2.2.2.1;omega) hc.2.2.2.2.2.2.1 (Or.inl ha)).mono (fun e w' h=>h.tab hB (Or.inl ⟨ha,rfl,rfl⟩))
 have hpm:=fun wx (b:Aa w wx) (ha:c.alg=4)=>(NH c vB B 109 1 wx hc (hP.later b) hB (by decide) (by decide) (Or.inr ha)).mono (fun e w' h=>h.tab hB (Or.inr ⟨ha,rfl,rfl⟩))
 have ha:c.alg=1∨c.alg=2∨c.alg=3∨c.alg=4:=by have:=hc.1;have:=hc.2.1;omega
 obtain ⟨CC,hCC⟩:∃CC,CC=c:=⟨_,rfl⟩;have HC:=jp hCC;clear hCC hP hB hc;obtain ⟨alg,slots,points,probes,key,formats⟩:=c;simp only [Ac.cells] at *;rcases ha with rfl|rfl|rfl|rfl
 ·clear hsc hpr hpm;replace hsl:=fun wx b=>hsl wx b rfl
  go_enter Tryz.func164,Tryz.ntmps164;go_wp2_with fail;refine (hsl _ (by solve_by_elim [jA,jB,jC,jD,jE])).mono ?_;intro e w2 hr;have hr2:=Fx.from (w:=w) hr (by solve_by_elim [jA,jB,jC,jD,jE])
  obtain ⟨v,E,rfl, -⟩:=id hr2;have HR:=jp hr2;clear hr hr2 hsl;go_wp2;go_ret;exact HR.out
 ·clear hsc hsl hpm;replace hpr:=fun wx b=>hpr wx b rfl
  go_enter Tryz.func164,Tryz.ntmps164;go_wp2_with fail;refine (hpr _ (by solve_by_elim [jA,jB,jC,jD,jE])).mono ?_;intro e w2 hr;have hr2:=Fx.from (w:=w) hr (by solve_by_elim [jA,jB,jC,jD,jE])
  obtain ⟨v,E,rfl, -⟩:=id hr2;have HR:=jp hr2;clear hr hr2 hpr;go_wp2;go_ret;exact HR.out
 ·clear hsl hpr hpm;replace hsc:=fun wx b=>hsc wx b rfl
  go_enter Tryz.func164,Tryz.ntmps164;go_wp2_with fail;refine (hsc _ (by solve_by_elim [jA,jB,jC,jD,jE])).mono ?_;intro e w2 hr;have hr2:=Fx.from (w:=w) hr (by solve_by_elim [jA,jB,jC,jD,jE])
  obtain ⟨v,E,rfl, -⟩:=id hr2;have HR:=jp hr2;clear hr hr2 hsc;go_wp2;go_ret;exact HR.out
 ·clear hsc hpr hsl;replace hpm:=fun wx b=>hpm wx b rfl
  go_enter Tryz.func164,Tryz.ntmps164;go_wp2_with fail;refine (hpm _ (by solve_by_elim [jA,jB,jC,jD,jE])).mono ?_;intro e w2 hr;have hr2:=Fx.from (w:=w) hr (by solve_by_elim [jA,jB,jC,jD,jE])
  obtain ⟨v,E,rfl, -⟩:=id hr2;have HR:=jp hr2;clear hr hr2 hpm;go_wp2;go_ret;exact HR.out
theorem Xx (c:Ac) (gen:Int) (vB:Value) (B:List BK) (w:World) (hc:c.OK) (hP:Am w vB B) (hB:AL B) (hg:Aj gen):
  Calls Tryz.prog 98 #[.agg c.cells,.int .i64 gen,vB] w (IZ w c gen vB B):=by
 have htb:=fun wx (b:Aa w wx)=>RU c vB B wx hc (hP.later b) hB
 obtain ⟨aoB,capB,rfl⟩:∃ao cap,vB= .slice ao B.length cap:=by
  obtain ⟨ao,cap,h,_⟩:=hP.open;exact ⟨ao,cap,h⟩
 have HP:=jp hP;have HC:=jp hc;have HB:=jp hB;clear hP hc hB;obtain ⟨alg,slots,points,probes,key,formats⟩:=c;simp only [Ac.cells] at *;go_enter Tryz.func98,Tryz.ntmps98;go_wp2_with fail;refine (htb _ (by solve_by_elim [jA,jB,jC,jD,jE])).mono ?_;rintro e w1 ⟨v,E,rfl,hb1,hE,hlen,hgood,hsl,htq⟩;have HTQ:=jp htq;clear htq
 obtain ⟨aoE,capE,rfl⟩:∃ao cap,v= .slice ao E.length cap:=by
  rcases hE.1.form with ⟨rfl,rfl⟩|⟨g,cap,rfl,_⟩
  ·exact ⟨none,0,rfl⟩
  ·exact ⟨_,cap,rfl⟩
 have hbw:Aa w w1:=(Aa.step_alloc (jD w) _).trans hb1;have m0:=hb1.cell (p:=⟨w.heap.size,0,none⟩) (v:= .int .i64 alg) (by simp);have m1:=hb1.cell (p:=⟨w.heap.size,1,none⟩) (v:= .int .i64 slots) (by simp);have m2:=hb1.cell (p:=⟨w.heap.size,2,none⟩) (v:= .int .i64 points) (by simp);have m3:=hb1.cell (p:=⟨w.heap.size,3,none⟩) (v:= .int .i64 probes) (by simp);have m4:=hb1.cell (p:=⟨w.heap.size,4,none⟩) (v:= .string key) (by simp);have m5:=hb1.cell (p:=⟨w.heap.size,5,none⟩) (v:= .int .i64 formats) (by simp);have HH:Hid (Dz (w.alloc (.cells #[.int .i64 alg,.int .i64 slots,.int .i64 points,.int .i64 probes,.string key,.int .i64 formats] 34)).heap.size w1 (.slice aoE E.length capE) E∧E.length≤140000∧(∀x∈E,DZ B x)∧(¬EV ⟨alg,slots,points,probes,key,formats⟩→E=[]∨(E.length:Int)=slots)):=⟨hE,hlen,hgood,hsl⟩;have hs:=hbw.size;clear htb hb1 hE hlen hgood hsl;go_wp2;go_ret;obtain ⟨g1,g2,g3,g4⟩:=HH.out;refine ⟨w1.heap.size,_,E,rfl,hbw.step_alloc _,hs,⟨⟨by simp,by simp,by simp,by simp,by simp,by simp⟩,by simp,by simp,by simp,HP.out.later (hbw.step_alloc _),g1.1.later ((jD _).step_alloc _)⟩,?_,⟨HC.out,hg,HB.out,g2,fun x hx=>(g3 x hx).1,g4⟩,fun x hx=>(g3 x hx).2,HTQ.out⟩;intro g hg;have:=g1.2 g hg;simp at this;omega
def dE (E:List EN) (H:Int) (i:Nat):Int:=match E[i]? with
 |some x=>Hq (wv x.2.1 x.2.2) H
 |none=>0
def Ek (E:List EN) (H:Int) (k:Nat) (s:ByteArray) (F:Int):Prop:=k=0∨∃j,∃(hj:j<E.length),j<k∧s=E[j].1∧F=dE E H j∧(∀i,i<k→dE E H j≤dE E H i)∧∀i,i<j→dE E H j<dE E H i
theorem Ek.take {E:List EN} {H:Int} {k:Nat} {s:ByteArray} {F:Int} (h:Ek E H k s F) (hk:k<E.length) (hl:k=0∨dE E H k<F):Ek E H (k+1) E[k].1 (dE E H k):=by
 refine Or.inr ⟨k,hk,by omega,rfl,rfl,?_⟩;rcases h with h|⟨j,hj,hjk, -,hF,hmin,hst⟩
 ·subst h;exact ⟨fun i hi=>by rw [show i=0 by omega];exact Int.le_refl _,fun i hi=>by omega⟩
 ·have hlt:dE E H k<F:=by
   rcases hl with hl|hl
   ·omega
   ·exact hl
  rw [hF] at hlt
  refine ⟨fun i hi=>?_,fun i hi=>?_⟩
  ·by_cases hik:i=k
   ·rw [hik];exact Int.le_refl _
   ·have:=hmin i (by omega)
    omega
  ·have:=hmin i hi
   omega
theorem Ek.keep {E:List EN} {H:Int} {k:Nat} {s:ByteArray} {F:Int} (h:Ek E H k s F) (h0:k≠0) (hl:¬dE E H k<F):Ek E H (k+1) s F:=by
 rcases h with h|⟨j,hj,hjk,hs,hF,hmin,hst⟩
 ·exact absurd h h0
 ·refine Or.inr ⟨j,hj,by omega,hs,hF,fun i hi=>?_,hst⟩;by_cases hik:i=k
  ·rw [hik];rw [hF] at hl;omega
  ·exact hmin i (by omega)
def S5 (w:World) (E:List EN) (H:Int) (e:Ending) (w':World):Prop:=∃(s:ByteArray) (x y:Int),e= .returned (.tuple #[.string s,.agg #[.int .i64 x,.int .i64 y]])∧Aa w w'∧Af x∧Af y∧Ek E H E.length s (wv x y)
theorem AP.sub3 {w a:World} {x y z:Value×Int} {u:Value×Int} (h:AP w [x,y,z,u] a):AP w [x,y,z] a:=by
 refine ⟨h.1,fun v hv=>h.2.1 v (by simp only [ja,List.not_mem_nil,or_false] at hv ⊢;rcases hv with h|h|h <;>simp [h]),?_⟩;have:=h.2.2;rw [show [x,y,z,u]=[x,y,z]++[u] from rfl,List.map_append] at this;exact (List.nodup_append.1 this).1
theorem PK (p:Nat) (c:Ac) (gen:Int) (B:List BK) (E:List EN) (h1 h2:Int) (w:World) (h:Bz w p c gen B E) (hE:E.length≤140000) (hI:∀x∈E,Af x.2.1∧Af x.2.2) (hh1:Af h1) (hh2:Af h2):
  Calls Tryz.prog 167 #[.pointer (some ⟨p,0,none⟩),.agg #[.int .i64 h1,.int .i64 h2]] w (S5 w E (wv h1 h2)):=by
 obtain ⟨H,hH⟩:∃H,H=wv h1 h2:=⟨_,rfl⟩;rw [←hH];have HH:=jp hH;clear hH;obtain ⟨vB,vE,_,_,_,c8,_,hpE⟩:=h;have hpw:p<w.heap.size:=World.block_lt_of_cell? w ⟨p,8,none⟩ c8;obtain ⟨ao,cap,rfl,hc⟩:=hpE.off;go_enter Tryz.func167,Tryz.ntmps167;go_wp2
 have S0:AP w [(.pointer (some ⟨w.heap.size,0,none⟩),H),(.pointer (some ⟨w.heap.size+1,0,none⟩),0),(.pointer (some ⟨w.heap.size+1+1,0,none⟩),0)] (((w.alloc (.cells #[.int .i64 h1,.int .i64 h2] 181)).alloc (.cells #[.int .i64 0,.int .i64 0] 181)).alloc (.cells #[.int .i64 0,.int .i64 0] 181)):=by
  have q1:=(AP.nil w).more (Aa.step_alloc (jD _) _) (AX.new (jH _) hh1 hh2 HH.out.symm 181) (jH _);have q2:=q1.more (Aa.step_alloc (jD _) _) (AX.new (by simp) Cd Cd (X:=0) rfl 181) (jH _);have q3:=q2.more (Aa.step_alloc (jD _) _) (AX.new (by simp;omega) Cd Cd (X:=0) rfl 181) (jH _);simpa using q3
 go_loopg [6,8] E.length (fun r b i wr=>∃(s:ByteArray) (k:Nat) (F:Int),k≤E.length∧r=E.length - k∧b= .string s∧i= .int .i64 k∧AP w [(.pointer (some ⟨w.heap.size,0,none⟩),H),(.pointer (some ⟨w.heap.size+1,0,none⟩),0),(.pointer (some ⟨w.heap.size+1+1,0,none⟩),F)] wr∧Ek E H k s F)
 case atStart=>exact ⟨_,0,0,by omega,by omega,rfl,rfl,S0,Or.inl rfl⟩
 case round=>
  obtain ⟨s,k,F,hk,hr,rfl,rfl,hbx,hI0⟩:=hrel;have HI0:=jp hI0;clear hI0 S0;have d8:=hbx.1.cell c8;by_cases hlt:k<E.length
  ·obtain ⟨g,off,rfl,q0,q1,q2⟩:=hc k hlt;have r0:=hbx.1.cell q0;have r1:=hbx.1.cell q1;have r2:=hbx.1.cell q2;obtain ⟨hW1,hW2⟩:=hI _ (jJ hlt);clear hc hI q0 q1 q2;have HTK:Hid (k=0∨dE E H k<F→Ek E H (k+1) E[k].1 (dE E H k)):=fun h=>HI0.out.take hlt h
   have HKP:Hid (k≠0→¬dE E H k<F→Ek E H (k+1) s F):=fun h1 h2=>HI0.out.keep h1 h2
   obtain ⟨DV,hDV⟩:∃X,X=dE E H k:=⟨_,rfl⟩
   have HDV:Hid (DV=Hq (wv E[k].2.1 E[k].2.2) H):=by
    show DV=_;rw [hDV];unfold dE;rw [jG hlt]
   rw [←hDV] at HTK HKP;clear hDV HI0;generalize E[k]=en at *;obtain ⟨id,ehi,elo⟩:=en;simp only at r0 r1 r2 hW1 hW2 HTK HDV;go_upto_region 6 with fail
   go_cut [9] (fun u9 wc=>AP w [(.pointer (some ⟨w.heap.size,0,none⟩),H),(.pointer (some ⟨w.heap.size+1,0,none⟩),0),(.pointer (some ⟨w.heap.size+1+1,0,none⟩),F),(u9,DV)] wc∧wc.cell? ⟨g,off+k * 3,none⟩=some (.string id))
   case first=>
    obtain ⟨p3,x3,y3,E3,hp3,c30,c31,f30,f31,hx3,hy3,hv3⟩:=hbx.2.1 (.pointer (some ⟨w.heap.size,0,none⟩),H) (by simp);simp only at hv3;simp only [Value.pointer.injEq,Option.some.injEq,Addr.mk.injEq,and_true] at E3;subst E3;go_region_held3 (fun w'=>Aa wr w'∧w'.cell? ⟨p,8,none⟩=some (.slice (some ⟨g,off,none⟩) E.length cap)∧w'.cell? ⟨g,off+k * 3+1,none⟩=some (.int .i64 ehi)∧w'.cell? ⟨g,off+k * 3+2,none⟩=some (.int .i64 elo)∧w'.cell? ⟨w.heap.size,0,none⟩=some (.int .i64 x3)∧w'.cell? ⟨w.heap.size,1,none⟩=some (.int .i64 y3)) ((refine K8 ?_ d8 r1 r2 c30 c31;(repeat (first|exact jD _|assumption|refine jA ?_|refine jB ?_|refine jC ?_|refine Aa.step_set ?_ (by simp <;>omega) _|refine jE ?_ (by assumption))))) ((go_at_call 209;refine (RD _ _ _ _ _ hW1 hW2 hx3 hy3).mono ?_;rintro e w2 ⟨z0,z1,rfl,hb2,k0,k1,ez⟩;obtain ⟨hq2,hf2⟩:=hb2.cells))
    all_goals
     have EZ:Hid (wv z0 z1=DV):=by
      show wv z0 z1=DV;have ez':wv z0 z1=Hq (wv ehi elo) (wv x3 y3):=ez;rw [ez',hv3,HDV.out]
     clear ez;go_wp2_with fail;go_meet
     case rel=>
      have hB:Aa wr w2:=by (repeat (first|exact jD _|assumption|refine jA ?_|refine jB ?_|refine jC ?_|refine Aa.step_set ?_ (by simp <;>omega) _|refine jE ?_ (by assumption)))
      have hw:=(hbx.1.trans hB).size;have hw1:=hbx.1.size
      first
       |exact ⟨hbx.more (hB.step_alloc _) (AX.new hw k0 k1 EZ.out _) hB.size,(hB.trans (Aa.step_alloc (jD _) _)).cell r0⟩
       |exact ⟨hbx.more ((hB.step_set (p:=⟨wr.heap.size,0,none⟩) (jH _) _).step_set (p:=⟨wr.heap.size,1,none⟩) (jH _) _) (AX.stored hw1 ((hq2 _ _ (by simp)).trans (by simp;rfl)) ((hq2 _ _ (by simp)).trans (by simp;rfl)) ((hf2 _ _ (by simp)).trans (by simp)) ((hf2 _ _ (by simp)).trans (by simp)) k0 k1 EZ.out) (jH _),((hB.step_set (p:=⟨wr.heap.size,0,none⟩) (jH _) _).step_set (p:=⟨wr.heap.size,1,none⟩) (jH _) _).cell r0⟩
   case rest=>
    obtain ⟨hbx',hid⟩:=hcut;obtain ⟨p9,x9,y9,E9,hp9,c90,c91,f90,f91,hx9,hy9,hv9⟩:=hbx'.2.1 (u9,DV) (by simp);simp only at E9 hv9;subst E9;obtain ⟨p7,x7,y7,E7,hp7,c70,c71,f70,f71,hx7,hy7,hv7⟩:=hbx'.2.1 (.pointer (some ⟨w.heap.size+1+1,0,none⟩),F) (by simp);simp only at hv7;have HV7:=jp hv7;have HV9:=jp hv9;clear hv7 hv9;simp only [Value.pointer.injEq,Option.some.injEq,Addr.mk.injEq,and_true] at E7;subst E7;have e8:=hbx'.1.cell c8;clear r0 r1 r2 d8;go_wp2_with fail;refine (J7 _ _ _ _ _ hx9 hy9 hx7 hy7).mono ?_;rintro e w3 ⟨AO,rfl,hb3,hless⟩
    have HLS:Hid (Co (DV<F) AO):=by
     show Co _ _;rw [←HV7.out,←HV9.out];exact hless
    clear hless;have d90:=hb3.cell c90;have d91:=hb3.cell c91;have d70:=hb3.cell c70;have d71:=hb3.cell c71;have e70:=hb3.frozen c70 f70;have e71:=hb3.frozen c71 f71;have g8:=hb3.cell e8;have hid3:=hb3.cell hid;have hbx3:=hbx'.later hb3;by_cases hd:k=0∨DV<F
    ·have HB2:=jp (HTK.out hd)
     have hkl:((k:Int)==0)=true∨(((k:Int)==0)=false∧AO=true):=by
      by_cases h0:k=0
      ·exact Or.inl (by rw [h0];rfl)
      ·exact Or.inr ⟨by rw [jI];omega,HLS.out.2 (hd.resolve_left h0)⟩
     clear HTK HKP HLS;rcases hkl with hk0|⟨hk0,rfl⟩
     all_goals
      go_wp2_with fail;go_roundg (E.length - (k+1))
      case measure=>omega
      case rel=>exact ⟨_,k+1,DV,by omega,rfl,rfl,by go_num,hbx3.sub3.put (jD _) 2 rfl hx9 hy9 HV9.out,HB2.out⟩
    ·have h0:k≠0:=fun e=>hd (Or.inl e)
     have hnl:¬DV<F:=fun e=>hd (Or.inr e)
     have HB2:=jp (HKP.out (by omega) (by omega));have hk0:((k:Int)==0)=false:=by rw [jI];omega
     have hle:AO=false:=by
      cases AO
      ·rfl
      ·exact absurd (HLS.out.1 rfl) hnl
     subst hle;clear HTK HKP HLS hd hnl;go_wp2_with fail;go_roundg (E.length - (k+1))
     case measure=>omega
     case rel=>exact ⟨_,k+1,F,by omega,rfl,rfl,by go_num,hbx3.sub3,HB2.out⟩
  ·obtain rfl:k=E.length:=by omega
   obtain ⟨p7,x7,y7,E7,hp7,c70,c71,f70,f71,hx7,hy7,hv7⟩:=hbx.2.1 (.pointer (some ⟨w.heap.size+1+1,0,none⟩),F) (by simp);simp only at hv7
   have HBI:Hid (Ek E H E.length s (wv x7 y7)):=by
    show Ek _ _ _ _ _;rw [hv7];exact HI0.out
   clear hv7;simp only [Value.pointer.injEq,Option.some.injEq,Addr.mk.injEq,and_true] at E7;subst E7;obtain ⟨p5,x5,y5,E5,hp5,c50,c51,f50,f51,hx5,hy5, -⟩:=hbx.2.1 (.pointer (some ⟨w.heap.size+1,0,none⟩),0) (by simp);simp only [Value.pointer.injEq,Option.some.injEq,Addr.mk.injEq,and_true] at E5;subst E5;go_wp2_with fail;go_region
   all_goals
    go_wp2;refine bodyPost_ret (v:= .tuple #[.string s,.agg #[.int .i64 x7,.int .i64 y7]]) (by simp [results,Tryz.results167,go_sem,c50,c51]) rfl ⟨s,x7,y7,rfl,?_,hx7,hy7,HBI.out⟩;exact ((hbx.1.step_drew).step_set (p:=⟨w.heap.size+1,0,none⟩) hp5 _).step_set (p:=⟨w.heap.size+1,1,none⟩) hp5 _
theorem BU.len {c:Ac} {B:List BK} {E:List EN} (h:BU c B E):E.length=(An c B).length:=by
 have:=congrArg List.length h;simpa using this
theorem BU.at {c:Ac} {B:List BK} {E:List EN} (h:BU c B E) {i:Nat} (hi:i<E.length):wv E[i].2.1 E[i].2.2=((An c B).getD i (0,0)).1∧E[i].1=A7 B ((An c B).getD i (0,0)).2:=by
 have hl:=h.len;have h1:(E.map Fj)[i]?=((An c B).map (F7 B))[i]?:=by rw [show E.map Fj=_ from h]
 rw [List.getElem?_map,List.getElem?_map,jG hi,jG (by omega)] at h1;simp only [Option.map_some,Option.some.injEq,Fj,F7,Prod.mk.injEq] at h1;rw [jV,jG (by omega)];exact h1
theorem Wv {c:Ac} {B:List BK} (h:EV c):An c B=[]∨∃letter each,An c B=Dk c.key letter each B:=by
 unfold An;split
 ·exact Or.inl rfl
 ·right;rcases h with h|h
  ·rw [if_neg (by omega),if_pos h];exact ⟨_,_,rfl⟩
  ·rw [if_neg (by omega),if_neg (by omega),if_neg (by omega),if_pos h];exact ⟨_,_,rfl⟩
theorem OU {c:Ac} {B:List BK} {E:List EN} {H F:Int} {s:ByteArray} (ht:BU c B E) (hp:EV c) (h1:1≤E.length) (hH:BC H) (h:Ek E H E.length s F):
  A8 (An c B) H<(An c B).length∧s=A7 B ((An c B).getD (A8 (An c B) H) (0,0)).2∧F=(((An c B).getD (A8 (An c B) H) (0,0)).1 - H) % 18446744073709551616:=by
 have hl:=ht.len;rcases Wv (B:=B) hp with h0|⟨letter,each,hP⟩
 ·rw [h0] at hl;simp only [List.length_nil] at hl;omega
 have hsrt:IA (An c B):=by rw [hP];exact NQ _ _
 have hrg:∀x∈An c B,0≤x.1∧x.1<18446744073709551616:=fun x hx=>by
  rw [hP] at hx;obtain ⟨i,hi,k,_,rfl⟩:=((UG c.key letter each B).1 x).1 hx;exact He _ _ _ _
 obtain ⟨n1,n2,n3⟩:=Vp hsrt (by omega) hrg hH
 have hd:∀i,i<E.length→dE E H i=Gt ((An c B).getD i (0,0)).1 H:=fun i hi=>by
  unfold dE;rw [jG hi];show Hq _ _=_;rw [(ht.at hi).1];rfl
 have hg:∀i (hi:i<(An c B).length),(An c B).getD i (0,0)=(An c B)[i]:=fun i hi=>by
  rw [jV,jG hi];rfl
 rcases h with h|⟨j,hj, -,hs,hF,hmin,hst⟩
 ·omega
 have e:j=A8 (An c B) H:=by
  refine Xn (n:=E.length) (d:=dE E H) hj (by omega) hmin hst (fun i hi=>?_) (fun i hi=>?_)
  ·rw [hd _ (by omega),hd _ hi,hg i (by omega)];exact n2 i (by omega)
  ·rw [hd _ (by omega),hd _ (by omega),hg i (by omega)];exact n3 i (by omega) hi
 subst e;exact ⟨n1,by rw [hs];exact (ht.at hj).2,by rw [hF,hd _ hj];rfl⟩
theorem Vn {c:Ac} {B:List BK} {k:ByteArray} (ha:c.alg=2) (hne:0<(An c B).length) (hn:A8 (An c B) (Al c.key 107 [] k)<(An c B).length):Ee c B k=(A7 B ((An c B).getD (A8 (An c B) (Al c.key 107 [] k)) (0,0)).2,0):=by
 unfold Ee Dc;rw [if_neg (by omega),if_neg (by omega),if_pos ha,jV,jG hn];rfl
theorem WB {c:Ac} {B:List BK} {k:ByteArray} (ha:c.alg=4) (hne:0<(An c B).length) (hn:(C9 c (An c B) k c.probes.toNat).1<(An c B).length):Ee c B k=(A7 B ((An c B).getD (C9 c (An c B) k c.probes.toNat).1 (0,0)).2,0):=by
 unfold Ee Dc;rw [if_neg (by omega),if_pos ha,jV,jG hn];rfl
theorem SM {c:Ac} {B:List BK} {k:ByteArray} {m:Nat} (ha:c.alg≠2∧c.alg≠4) (hm:(m:Int)=Al c.key 107 [] k % (An c B).length) (hn:m<(An c B).length):Ee c B k=(A7 B ((An c B).getD m (0,0)).2,0):=by
 have e:(Al c.key 107 [] k % ((An c B).length:Int)).toNat=m:=by rw [←hm];simp
 unfold Ee Dc;rw [if_neg (by omega),if_neg ha.2,if_neg ha.1,e,jV,jG hn];rfl
theorem QL {c:Ac} {B:List BK} {k:ByteArray} (h:An c B=[]):Ee c B k=(ByteArray.empty,8):=by
 unfold Ee;rw [h];rfl
def Gc (c:Ac) (B:List BK) (key:ByteArray) (k:Nat) (s:ByteArray) (F:Int):Prop:=k=0∨(F=(C9 c (An c B) key k).2∧s=A7 B ((An c B).getD (C9 c (An c B) key k).1 (0,0)).2∧(C9 c (An c B) key k).1<(An c B).length)
theorem R7 {c:Ac} {E:List EI} {k:ByteArray} {n:Nat} (h:n=0∨((E.getD (A8 E (Al c.key 112 [n] k)) (0,0)).1 - Al c.key 112 [n] k) % 18446744073709551616<(C9 c E k n).2):C9 c E k (n+1)=(A8 E (Al c.key 112 [n] k),((E.getD (A8 E (Al c.key 112 [n] k)) (0,0)).1 - Al c.key 112 [n] k) % 18446744073709551616):=by
 rw [C9];exact if_pos h
theorem YG {c:Ac} {E:List EI} {k:ByteArray} {n:Nat} (h:¬(n=0∨((E.getD (A8 E (Al c.key 112 [n] k)) (0,0)).1 - Al c.key 112 [n] k) % 18446744073709551616<(C9 c E k n).2)):C9 c E k (n+1)=C9 c E k n:=by
 rw [C9];exact if_neg h
theorem Gc.take {c:Ac} {B:List BK} {key:ByteArray} {k:Nat} {s s2:ByteArray} {F D:Int} (h:Gc c B key k s F) (hn:A8 (An c B) (Al c.key 112 [k] key)<(An c B).length) (hs:s2=A7 B ((An c B).getD (A8 (An c B) (Al c.key 112 [k] key)) (0,0)).2) (hD:D=(((An c B).getD (A8 (An c B) (Al c.key 112 [k] key)) (0,0)).1 - Al c.key 112 [k] key) % 18446744073709551616) (hl:k=0∨D<F):Gc c B key (k+1) s2 D:=by
 have he := R7 (c := c) (E := An c B) (k := key) (n := k) (by
   rcases h with h | ⟨h, -⟩
   · exact Or.inl h
   · rw [← hD, ← h]; exact hl)
 exact Or.inr ⟨by rw [he];exact hD,by rw [he];exact hs,by rw [he];exact hn⟩
theorem Gc.keep {c:Ac} {B:List BK} {key:ByteArray} {k:Nat} {s:ByteArray} {F D:Int} (h:Gc c B key k s F) (hD:D=(((An c B).getD (A8 (An c B) (Al c.key 112 [k] key)) (0,0)).1 - Al c.key 112 [k] key) % 18446744073709551616) (h0:k≠0) (hl:F≤D):Gc c B key (k+1) s F:=by
 rcases h with h|⟨h1,h2,h3⟩
 ·exact absurd h h0
 have he := YG (c := c) (E := An c B) (k := key) (n := k) (by
   rw [← hD, ← h1]
   rintro (h | h)
   · exact h0 h
   · omega)
 exact Or.inr ⟨by rw [he];exact h1,by rw [he];exact h2,by rw [he];exact h3⟩
theorem O6 (key:ByteArray) (letter:UInt8) (nums:List Nat) (t:ByteArray):BC (Al key letter nums t):=He key letter nums t
theorem Uv (p:Nat) (c:Ac) (gen:Int) (B:List BK) (E:List EN) (key:ByteArray) (w:World) (h:Bz w p c gen B E) (hok:Dh c gen B E) (hI:∀x∈E,Af x.2.1∧Af x.2.2) (hkey:key.size≤1099511627000) (ht:BU c B E):
  Calls Tryz.prog 104 #[.pointer (some ⟨p,0,none⟩),.string key] w (EH w (Ee c B key)):=by
 have HTQ:=jp ht;obtain ⟨OW,hOW⟩:∃X,X=Ee c B key:=⟨_,rfl⟩;rw [←hOW];have HOW:=jp hOW;clear hOW ht;obtain ⟨CC,hCC⟩:∃X,X=c:=⟨_,rfl⟩;have HCC:=jp hCC.symm;rw [←hCC] at HTQ HOW;have HKY:Hid (CC.key=c.key):=by show CC.key=_;rw [hCC]
 have HAL:Hid (CC.alg=c.alg):=by show CC.alg=_;rw [hCC]
 have HPB:Hid (CC.probes=c.probes):=by show CC.probes=_;rw [hCC]
 have HSL:Hid (CC.slots=c.slots):=by show CC.slots=_;rw [hCC]
 clear hCC HCC;have h0:=h;obtain ⟨vB,vE,⟨c0,c1,c2,c3,c4,c5⟩,c6,c7,c8,hpB,hpE⟩:=h;obtain ⟨hc,hg,hB,hE,hid,hsl⟩:=hok;obtain ⟨k1,k2,k3,k4, -,k5,k6,k7,k8,k9, -, -⟩:=hc;obtain ⟨ao,cap,rfl,hcE⟩:=hpE.off;obtain ⟨alg,slots,points,probes,ckey,formats⟩:=c;simp only at c0 c1 c2 c3 c4 c5 k1 k2 k3 k4 k5 k6 k7 k8 k9 hsl HKY HAL HPB HSL;by_cases hE0:E=[]
 ·subst hE0
  have hOE:Hid (OW=(ByteArray.empty,8)):=by
   show OW=_;rw [HOW.out];exact QL (jS (by have:=HTQ.out.len;simpa using this.symm))
  obtain ⟨o1,o2⟩:=OW;have ho1:o1=ByteArray.empty:=(Prod.mk.inj hOE.out).1;have ho2:o2=8:=(Prod.mk.inj hOE.out).2;subst ho1 ho2;clear hOE HOW HTQ;go_enter Tryz.func104,Tryz.ntmps104;go_wp2;go_ret2;exact ⟨rfl,by solve_by_elim [jA,jB,jC,jD,jE]⟩
 ·have hEl:1≤E.length:=by
   rcases Nat.lt_or_ge 0 E.length with h|h
   ·exact h
   ·exact absurd (jS (by omega)) hE0
  have hE0':((E.length:Int)==0)=false:=by rw [jI];omega
  by_cases ha2:alg=2
  ·subst ha2
   go_enter Tryz.func104,Tryz.ntmps104
   go_wp2_with fail
   refine (F2 ckey _ _ k9 (by rw [jY,show (({data:=#[107]}:ByteArray)).size=1 from rfl];omega)).mono ?_
   rintro e w1 ⟨x,y,rfl,hb1,hx,hy,ez⟩
   have EZ:Hid (wv x y=Al CC.key 107 [] key):=by
    have ez':wv x y=Cs ckey (⟨#[107]⟩++key):=ez;show wv x y=_;rw [ez',HKY.out];exact Ki ckey 107 key
   clear ez
   go_wp2_with fail
   refine (PK p _ gen B E x y _ (h0.later (by solve_by_elim [jA,jB,jC,jD,jE])) hE hI hx hy).mono ?_
   rintro e w2 ⟨s,x2,y2,rfl,hb2, -, -,hbeh⟩
   have HOE:Hid (OW=(s,0)):=by
    show OW=_;rw [EZ.out] at hbeh;obtain ⟨n1,n2,n3⟩:=OU HTQ.out (Or.inl HAL.out) hEl (O6 _ _ _ _) hbeh;rw [HOW.out,Vn HAL.out (by have:=HTQ.out.len;omega) n1,n2]
   clear hbeh
   obtain ⟨o1,o2⟩:=OW
   have ho1:o1=s:=(Prod.mk.inj HOE.out).1
   have ho2:o2=0:=(Prod.mk.inj HOE.out).2
   subst ho1 ho2
   clear HOE HOW
   go_wp2
   go_ret2
   exact ⟨rfl,by (repeat (first|exact jD _|assumption|refine jA ?_|refine jB ?_|refine jC ?_|refine Aa.step_set ?_ (by simp <;>omega) _|refine jE ?_ (by assumption)))⟩
  ·by_cases ha4:alg=4
   ·subst ha4
    clear hsl
    go_enter Tryz.func104,Tryz.ntmps104
    go_wp2_with fail
    go_loopg [9,11] probes.toNat (fun r b i wr=>∃(s:ByteArray) (k:Nat) (F:Int),r=probes.toNat - k∧(k:Int)≤probes∧b= .string s∧i= .int .i64 k∧AP w [(.pointer (some ⟨w.heap.size,0,none⟩),F)] wr∧Gc CC B key k s F)
    case atStart=>exact ⟨_,0,0,by omega,by omega,rfl,rfl,(AP.nil w).more (Aa.step_alloc (jD _) _) (AX.new (jH _) Cd Cd rfl _) (jH _),Or.inl rfl⟩
    case round=>
     obtain ⟨s,k,F,hr,hkp,rfl,rfl,hbx,hprb⟩:=hrel
     have HPR:=jp hprb
     clear hprb
     have d3:=hbx.1.cell c3
     have d4:=hbx.1.cell c4
     by_cases hlt:(k:Int)<probes
     ·go_wp2_with fail
      refine (Ka _ 2 _ (by omega) (by omega) (by decide)).mono ?_
      rintro e w1 ⟨a,rfl,hb1,ha⟩
      have HA:Hid (a=DF k 2):=ha
      have ha2:a.size=2:=by rw [HA.out,Hm];rfl
      clear ha
      have e4:=hb1.cell d4
      go_wp2_with fail
      refine (F2 ckey _ _ k9 (by simp only [jY,show (({data:=#[112]}:ByteArray)).size=1 from rfl];omega)).mono ?_
      rintro e w2 ⟨x,y,rfl,hb2,hx,hy,ez⟩
      have EZ:Hid (wv x y=Al CC.key 112 [k] key):=by
       have ez':wv x y=Cs ckey ((⟨#[112]⟩++a)++key):=ez;show wv x y=_;rw [ez',HA.out,HKY.out];exact Og ckey 112 k key
      clear ez
      have hB2:Aa wr w2:=by solve_by_elim [jA,jB,jC,jD,jE]
      go_wp2_with fail
      refine (PK p _ gen B E x y _ (h0.later (hbx.1.trans (by solve_by_elim [jA,jB,jC,jD,jE]))) hE hI hx hy).mono ?_
      rintro e w3 ⟨s2,x2,y2,rfl,hb3,hx2,hy2,hbeh⟩
      have HBN:Hid (A8 (An CC B) (Al CC.key 112 [k] key)<(An CC B).length∧s2=A7 B ((An CC B).getD (A8 (An CC B) (Al CC.key 112 [k] key)) (0,0)).2∧wv x2 y2=(((An CC B).getD (A8 (An CC B) (Al CC.key 112 [k] key)) (0,0)).1 - Al CC.key 112 [k] key) % 18446744073709551616):=by
       rw [EZ.out] at hbeh;exact OU HTQ.out (Or.inr HAL.out) hEl (O6 _ _ _ _) hbeh
      clear hbeh
      have hB3:Aa wr w3:=by (repeat (first|exact jD _|assumption|refine jA ?_|refine jB ?_|refine jC ?_|refine Aa.step_set ?_ (by simp <;>omega) _|refine jE ?_ (by assumption)))
      have hbx3:=hbx.later hB3
      obtain ⟨p10,x10,y10,E10,hp10,c100,c101,f100,f101,hx10,hy10,hv10⟩:=hbx3.2.1 (.pointer (some ⟨w.heap.size,0,none⟩),F) (by simp)
      simp only at hv10
      have HV10:=jp hv10
      clear hv10
      simp only [Value.pointer.injEq,Option.some.injEq,Addr.mk.injEq,and_true] at E10
      subst E10
      have hlt3:w.heap.size<w3.heap.size:=World.block_lt_of_cell? w3 ⟨w.heap.size,0,none⟩ c100
      go_wp2_with fail
      refine (J7 _ _ _ _ _ hx2 hy2 hx10 hy10).mono ?_
      rintro e w4 ⟨AO,rfl,hb4,hless⟩
      have HLS:Hid (Co (wv x2 y2<F) AO):=by
       show Co _ _;rw [←HV10.out];exact hless
      clear hless
      have hB4:Aa w3 w4:=by (repeat (first|exact jD _|assumption|refine jA ?_|refine jB ?_|refine jC ?_|refine Aa.step_set ?_ (by simp <;>omega) _|refine jE ?_ (by assumption)))
      have d100:=hB4.cell c100
      have d101:=hB4.cell c101
      have e100:=hB4.frozen c100 f100
      have e101:=hB4.frozen c101 f101
      have q0:w4.cell? ⟨w3.heap.size,0,none⟩=some (.int .i64 x2):=hb4.cell (by simp)
      have q1:w4.cell? ⟨w3.heap.size,1,none⟩=some (.int .i64 y2):=hb4.cell (by simp)
      have hbx4:=hbx3.later hB4
      by_cases hd:k=0∨wv x2 y2<F
      ·have HB2:Hid (Gc CC B key (k+1) s2 (wv x2 y2)):=HPR.out.take HBN.out.1 HBN.out.2.1 HBN.out.2.2 hd
       have hkl:((k:Int)==0)=true∨(((k:Int)==0)=false∧AO=true):=by
        by_cases h0:k=0
        ·exact Or.inl (by rw [h0];rfl)
        ·exact Or.inr ⟨by rw [jI];omega,HLS.out.2 (hd.resolve_left h0)⟩
       clear HLS HBN HPR
       rcases hkl with hk0|⟨hk0,rfl⟩
       all_goals
        go_wp2_with fail
        go_roundg (probes.toNat - (k+1))
        case measure=>omega
        case rel=>exact ⟨_,k+1,wv x2 y2,rfl,by omega,rfl,by go_num,hbx4.put (jD _) 0 rfl hx2 hy2 rfl,HB2.out⟩
      ·have h0:k≠0:=fun e=>hd (Or.inl e)
       have hnl:F≤wv x2 y2:=by
        rcases Int.lt_or_le (wv x2 y2) F with e|e
        ·exact absurd (Or.inr e) hd
        ·exact e
       have HB2:Hid (Gc CC B key (k+1) s F):=HPR.out.keep HBN.out.2.2 h0 hnl
       have hk0:((k:Int)==0)=false:=by rw [jI];omega
       have hle:AO=false:=by
        cases AO
        ·rfl
        ·have:=HLS.out.1 rfl;omega
       subst hle
       clear HLS HBN HPR hd hnl
       go_wp2_with fail
       go_roundg (probes.toNat - (k+1))
       case measure=>omega
       case rel=>exact ⟨_,k+1,F,rfl,by omega,rfl,by go_num,hbx4,HB2.out⟩
     ·have HOE:Hid (OW=(s,0)):=by
       show OW=_;rcases HPR.out with h|⟨h1,h2,h3⟩
       ·omega
       ·have hkk:k=CC.probes.toNat:=by rw [HPB.out];omega
        rw [hkk] at h2 h3;rw [HOW.out,WB HAL.out (by have:=HTQ.out.len;omega) h3,h2]
      obtain ⟨o1,o2⟩:=OW
      have ho1:o1=s:=(Prod.mk.inj HOE.out).1
      have ho2:o2=0:=(Prod.mk.inj HOE.out).2
      subst ho1 ho2
      clear HOE HOW HPR
      go_wp2
      go_ret2
      exact ⟨rfl,hbx.1⟩
   ·have hEs:(E.length:Int)=slots:=by
     rcases hsl (fun h=>by rcases h with h|h;exact ha2 h;exact ha4 h) with h|h
     ·exact absurd h hE0
     ·exact h
    have ha2':(alg==2)=false:=by simpa using ha2
    have ha4':(alg==4)=false:=by simpa using ha4
    obtain ⟨g,off,rfl,hids⟩:=Eb.ids (cap:=cap) hcE hEl rfl
    have HEs:Hid ((E.length:Int)=slots):=hEs
    clear hEs hsl
    go_enter Tryz.func104,Tryz.ntmps104
    go_wp2_with fail
    refine (F2 ckey _ _ k9 (by rw [jY,show (({data:=#[107]}:ByteArray)).size=1 from rfl];omega)).mono ?_
    rintro e w1 ⟨x,y,rfl,hb1,hx,hy,ez⟩
    have EZ:Hid (wv x y=Al CC.key 107 [] key):=by
     have ez':wv x y=Cs ckey (⟨#[107]⟩++key):=ez;show wv x y=_;rw [ez',HKY.out];exact Ki ckey 107 key
    clear ez
    have hBB:Aa w (w1.alloc (.cells #[.int .i64 x,.int .i64 y] 181)):=by solve_by_elim [jA,jB,jC,jD,jE]
    have d8:=hBB.cell c8
    have d1:=hBB.cell c1
    have dids:=fun j hj=>hBB.cell (hids j hj)
    have q0:(w1.alloc (.cells #[.int .i64 x,.int .i64 y] 181)).cell? ⟨w1.heap.size,0,none⟩=some (.int .i64 x):=by simp
    have q1:(w1.alloc (.cells #[.int .i64 x,.int .i64 y] 181)).cell? ⟨w1.heap.size,1,none⟩=some (.int .i64 y):=by simp
    go_upto_region 23 with fail
    generalize (w1.alloc (.cells #[.int .i64 x,.int .i64 y] 181))=w2 at *
    go_region_held3 (fun w'=>Aa w2 w'∧w'.cell? ⟨p,8,none⟩=some (.slice (some ⟨g,off,none⟩) E.length cap)∧w'.cell? ⟨p,1,none⟩=some (.int .i64 slots)∧w'.cell? ⟨w1.heap.size,0,none⟩=some (.int .i64 x)∧w'.cell? ⟨w1.heap.size,1,none⟩=some (.int .i64 y)∧∀j,j<E.length→w'.cell? ⟨g,off+j * 3,none⟩=some (.string (Gg E j))) ((refine NK ?_ d8 d1 q0 q1 dids;solve_by_elim [jA,jB,jC,jD,jE])) ((go_at_call 169;refine (LK _ _ _ _ hx hy (by omega) (by omega)).mono ?_;rintro e w3 ⟨r,rfl,hb3,hro⟩;have hro':r=wv x y % slots:=hro;have hr1:0≤r:=(by rw [hro'];exact Int.emod_nonneg _ (by omega));have hr2:r<slots:=(by rw [hro'];exact Int.emod_lt_of_pos _ (by omega));obtain ⟨m,rfl⟩:=jM hr1;have HRO:=jp hro';clear hro hro';have hm:m<E.length:=(by have:=HEs.out;omega)))
    all_goals
     have HOE:Hid (OW=(Gg E m,0)):=by
      show OW=_;have hl:=HTQ.out.len;rw [HOW.out,SM (m:=m) ⟨by rw [HAL.out];exact ha2,by rw [HAL.out];exact ha4⟩ (by rw [←hl,HEs.out,←EZ.out];exact HRO.out) (by omega),←(HTQ.out.at hm).2];unfold Gg;rw [jG hm];rfl
     obtain ⟨o1,o2⟩:=OW
     have ho1:o1=Gg E m:=(Prod.mk.inj HOE.out).1
     have ho2:o2=0:=(Prod.mk.inj HOE.out).2
     subst ho1 ho2
     clear HOE HOW HRO
     go_wp2
     go_ret2
     exact ⟨rfl,hBB.trans (by solve_by_elim [jA,jB,jC,jD,jE])⟩
end Go.Proofs.YtpapdkhjdelfcabGreat
