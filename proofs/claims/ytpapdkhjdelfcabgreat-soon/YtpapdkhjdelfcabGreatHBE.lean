import Derived.Test.YtpapdkhjdelfcabGreatHBD
import Derived.Deep.RegionHeld3
set_option maxRecDepth 100000
set_option maxHeartbeats 4000000
namespace Go.Proofs.YtpapdkhjdelfcabGreat
open Go.RowKit
def com1 (cg cf cp:Nat) (T:List TP) (a:Ans):Nat×Nat×Nat×List TP:=if cg<a.2.1 then (a.2.1,a.2.2.1,a.2.2.2.1,[]) else (cg,cf,cp,T)
def useP (fm g cg cf cp:Nat) (T:List TP) (a:Ans):Prop:=wantB fm g cg a=true∧a.2.2.1=(com1 cg cf cp T a).2.1∧a.2.2.2.1=(com1 cg cf cp T a).2.2.1
def newT (cg cf cp:Nat) (T:List TP) (a:Ans):List TP:=layF (com1 cg cf cp T a).2.2.2 (a.2.2.2.2.1,a.2.2.2.2.2)
def rowOK (w:World) (vT v':Value):Prop:=∀k,v'.ownBlock=some k→k∈gl vT∨w.heap.size≤k
def RTakeP (q fm g:Nat) (c:Cfg) (vP vE:Value) (cg cf cp:Nat) (vT:Value) (nf:Bool) (T:List TP) (a:Ans) (w:World) (e:Ending) (w':World):Prop:=e= .returned (.tuple #[])∧But (q::gl vT) w w'∧
 ((¬ useP fm g cg cf cp T a ∧ BoxC q 146 (plC fm g c vP vE cg cf cp vT nf) w' ∧ ThAt w' vT T) ∨
  (useP fm g cg cf cp T a ∧ (newT cg cf cp T a).length ≠ (com1 cg cf cp T a).2.2.1 ∧ ∃ v', BoxC q 146 (plC fm g c vP vE (com1 cg cf cp T a).1 (com1 cg cf cp T a).2.1 (com1 cg cf cp T a).2.2.1 v' false) w' ∧ ThAt w' v' (newT cg cf cp T a) ∧ rowOK w vT v') ∨
  (useP fm g cg cf cp T a ∧ (newT cg cf cp T a).length = (com1 cg cf cp T a).2.2.1 ∧
    ((∃ c2 B2 E2 vP2 vE2, imageP (thB (newT cg cf cp T a)) = some ((com1 cg cf cp T a).2.1, (com1 cg cf cp T a).1, c2, B2, E2) ∧ BoxC q 146 (plC fm (com1 cg cf cp T a).1 c2 vP2 vE2 0 0 0 (.slice none 0 0) false) w' ∧ OwnB w.heap.size w' vP2 B2 ∧ OwnE w.heap.size w' vE2 E2) ∨
     ((∀ c2 B2 E2, imageP (thB (newT cg cf cp T a)) ≠ some ((com1 cg cf cp T a).2.1, (com1 cg cf cp T a).1, c2, B2, E2)) ∧ BoxC q 146 (plC fm g c vP vE 0 0 0 (.slice none 0 0) false) w'))))
theorem layF_len (T:List TP) (p:TP):(layF T p).length≤T.length+1:=by
 unfold layF;split
 ·rw [List.length_set];omega
 ·simp only [List.length_append,List.length_take,List.length_cons,List.length_drop];omega
theorem layF_mem {T:List TP} {p x:TP} (h:x∈layF T p):x=p∨x∈T:=by
 unfold layF at h;split at h
 ·rcases List.mem_or_eq_of_mem_set h with h|h
  ·exact Or.inr h
  ·exact Or.inl h
 ·rcases List.mem_append.1 h with h|h
  ·exact Or.inr (List.mem_of_mem_take h)
  ·rcases List.mem_cons.1 h with h|h
   ·exact Or.inl h
   ·exact Or.inr (List.mem_of_mem_drop h)
theorem takep_is (q fm g:Nat) (c:Cfg) (vP vE:Value) (cg cf cp:Nat) (vT:Value) (nf:Bool) (T:List TP) (a:Ans) (w:World) (h:BoxC q 146 (plC fm g c vP vE cg cf cp vT nf) w) (hT:ThAt w vT T) (hl:T.length≤65535) (hs:∀p∈T,p.2.length≤65536) (hab:a.2.2.2.2.2.length≤65536) (hf:a.2.2.1<256) (hfm:fm<256):
  Calls Tryz.prog 126 #[.pointer (some ⟨q,0,none⟩),.agg (ansC a)] w (RTakeP q fm g c vP vE cg cf cp vT nf T a w):=by
 have hwa:=fun wx hx=>wants_is q fm g c vP vE cg cf cp vT nf a wx hx hf hfm
 have HU:Hid (useP fm g cg cf cp T a↔wantB fm g cg a=true∧a.2.2.1=(com1 cg cf cp T a).2.1∧a.2.2.2.1=(com1 cg cf cp T a).2.2.1):=Iff.rfl;have HC1:Hid (com1 cg cf cp T a=if cg<a.2.1 then (a.2.1,a.2.2.1,a.2.2.2.1,[]) else (cg,cf,cp,T)):=rfl;have HNT:Hid (newT cg cf cp T a=layF (com1 cg cf cp T a).2.2.2 (a.2.2.2.2.1,a.2.2.2.2.2)):=rfl;generalize wantB fm g cg a=wt at *
 have hqT:vT.ownBlock≠some q:=fun e=>by
  rcases hT.2 with ⟨g1,_⟩|⟨g',cap',cur,g1,_,g2,_⟩
  ·rw [g1] at e;cases e
  ·rw [g1] at e;have hg:g'=q:=by simpa [Value.ownBlock] using e
   subst hg;rw [BoxC,g2] at h;injection h with h
   injection h with _ h
   revert h;decide
 have hvl:Hid (∀k,vT.ownBlock=some k→k<w.heap.size):=fun k hk=>(World.ownsRow.lt hT k hk).2
 obtain ⟨k,ag,af,ap,an,ab⟩:=a;unfold ansC at *;simp only at *;unfold plC at h hwa;obtain ⟨W0,hW0⟩:∃W0,W0=w.alloc (.cells #[.int .i64 (k:Int),.int .i64 (ag:Int),.int .i64 (af:Int),.int .i64 (ap:Int),.int .i64 (an:Int),.string (txt ab)] 97):=⟨_,rfl⟩;have hb0:Bel w W0:=by rw [hW0];exact (Bel.refl w).step_alloc _
 have HA0:Hid (BoxC w.heap.size 97 #[.int .i64 (k:Int),.int .i64 (ag:Int),.int .i64 (af:Int),.int .i64 (ap:Int),.int .i64 (an:Int),.string (txt ab)] W0):=by show BoxC _ _ _ W0;rw [hW0];exact BoxC.new _ _ _
 have HX0:=Hid.mk (h.bel hb0);have HT0:=Hid.mk (hT.later hb0);have HB0:=Hid.mk hb0;have hql:=h.lt;have hs0:Hid (W0.heap.size=w.heap.size+1):=by show _=_;rw [hW0];simp
 have HQT:=Hid.mk hqT;clear h hT hb0 hqT;go_enter Tryz.func126,Tryz.ntmps126;go_wp2_with fail;rw [←hW0];clear hW0;refine (hwa _ HX0.out).mono ?_;rintro e w1 ⟨rfl,hb1⟩;have HX1:=Hid.mk (HX0.out.bel hb1);have HT1:=Hid.mk (HT0.out.later hb1);have HA1:=Hid.mk (HA0.out.bel hb1);have HB1:=Hid.mk (HB0.out.trans hb1);have hql1:q<w1.heap.size:=HX1.out.lt;have hal1:w.heap.size<w1.heap.size:=HA1.out.lt;clear hb1 hwa HX0 HT0 HA0 HB0;cases wt
 ·have HN:Hid (¬useP fm g cg cf cp T (k,ag,af,ap,an,ab)):=fun h=>by have:=(HU.out.1 h).1;cases this
  go_wp2;go_end0;exact ⟨rfl,But.of_bel HB1.out,Or.inl ⟨HN.out,HX1.out,HT1.out⟩⟩
 have X1:=HX1.out;have A1:=HA1.out;have c0:=X1.cell 0 rfl;have f0:=X1.free 0;have c1:=X1.cell 1 rfl;have f1:=X1.free 1;have c2:=X1.cell 2 rfl;have f2:=X1.free 2;have c3:=X1.cell 3 rfl;have f3:=X1.free 3;have c4:=X1.cell 4 rfl;have f4:=X1.free 4;have c5:=X1.cell 5 rfl;have f5:=X1.free 5;have c6:=X1.cell 6 rfl;have f6:=X1.free 6;have c7:=X1.cell 7 rfl;have f7:=X1.free 7;have c8:=X1.cell 8 rfl;have f8:=X1.free 8;have c9:=X1.cell 9 rfl;have f9:=X1.free 9;have c10:=X1.cell 10 rfl;have f10:=X1.free 10;have c11:=X1.cell 11 rfl;have f11:=X1.free 11;have c12:=X1.cell 12 rfl;have f12:=X1.free 12;have c13:=X1.cell 13 rfl;have f13:=X1.free 13;have c14:=X1.cell 14 rfl;have f14:=X1.free 14;have a0:=A1.cell 0 rfl;have a1:=A1.cell 1 rfl;have a2:=A1.cell 2 rfl;have a3:=A1.cell 3 rfl;have a4:=A1.cell 4 rfl;have a5:=A1.cell 5 rfl;clear X1 A1;by_cases hgt:cg<ag
 ·rw [if_pos hgt] at HC1;have hd1:decide ((cg:Int)<(ag:Int))=true:=decide_eq_true (by omega);have hdf:(((af:Int)) !=(af:Int))=false:=by simp
  have hdp:(((ap:Int)) !=(ap:Int))=false:=by simp
  have HUS:Hid (useP fm g cg cf cp T (k,ag,af,ap,an,ab)):=HU.out.2 ⟨by simp,by rw [HC1.out],by rw [HC1.out]⟩;go_wp2_with fail;go_quiet (fail);go_wp2_with fail;obtain ⟨W2,hW2⟩:∃W2,W2=((((w1.drewN nq).setCell ⟨q,10,none⟩ (.int .i64 (ag:Int))).setCell ⟨q,11,none⟩ (.int .i64 (af:Int))).setCell ⟨q,12,none⟩ (.int .i64 (ap:Int))).setCell ⟨q,13,none⟩ (.slice none 0 0):=⟨_,rfl⟩;have HX2:Hid (BoxC q 146 #[.int .i64 (fm:Int),.int .i64 (g:Int),.int .i64 c.alg,.int .i64 c.slots,.int .i64 c.points,.int .i64 c.probes,.string c.key,.int .i64 c.formats,vP,vE,.int .i64 (ag:Int),.int .i64 (af:Int),.int .i64 (ap:Int),.slice none 0 0,.bool nf] W2):=by show BoxC _ _ _ W2;rw [hW2];exact ((((HX1.out.bel ((Bel.refl _).step_drewN _)).set 10 (.int .i64 (ag:Int)) (cs':=#[.int .i64 (fm:Int),.int .i64 (g:Int),.int .i64 c.alg,.int .i64 c.slots,.int .i64 c.points,.int .i64 c.probes,.string c.key,.int .i64 c.formats,vP,vE,.int .i64 (ag:Int),.int .i64 (cf:Int),.int .i64 (cp:Int),vT,.bool nf]) rfl).set 11 (.int .i64 (af:Int)) (cs':=#[.int .i64 (fm:Int),.int .i64 (g:Int),.int .i64 c.alg,.int .i64 c.slots,.int .i64 c.points,.int .i64 c.probes,.string c.key,.int .i64 c.formats,vP,vE,.int .i64 (ag:Int),.int .i64 (af:Int),.int .i64 (cp:Int),vT,.bool nf]) rfl).set 12 (.int .i64 (ap:Int)) (cs':=#[.int .i64 (fm:Int),.int .i64 (g:Int),.int .i64 c.alg,.int .i64 c.slots,.int .i64 c.points,.int .i64 c.probes,.string c.key,.int .i64 c.formats,vP,vE,.int .i64 (ag:Int),.int .i64 (af:Int),.int .i64 (ap:Int),vT,.bool nf]) rfl).set 13 (.slice none 0 0) (cs':=#[.int .i64 (fm:Int),.int .i64 (g:Int),.int .i64 c.alg,.int .i64 c.slots,.int .i64 c.points,.int .i64 c.probes,.string c.key,.int .i64 c.formats,vP,vE,.int .i64 (ag:Int),.int .i64 (af:Int),.int .i64 (ap:Int),.slice none 0 0,.bool nf]) rfl
  have HA2:Hid (BoxC w.heap.size 97 #[.int .i64 (k:Int),.int .i64 (ag:Int),.int .i64 (af:Int),.int .i64 (ap:Int),.int .i64 (an:Int),.string (txt ab)] W2):=by show BoxC _ _ _ W2;rw [hW2];exact ((((HA1.out.bel ((Bel.refl _).step_drewN _)).setO (by simp only;omega) _).setO (by simp only;omega) _).setO (by simp only;omega) _).setO (by simp only;omega) _
  have HB2:Hid (But (q::gl vT) w W2):=by show But _ _ _;rw [hW2];exact (((((But.of_bel (M:=q::gl vT) HB1.out).drewN _).set (by simp) _).set (by simp) _).set (by simp) _).set (by simp) _
  have HT2:Hid (ThAt W2 (.slice none 0 0) []):=World.ownsRow_nil _ _ _ _;have hs2:Hid (w.heap.size≤W2.heap.size):=HB2.out.size;rw [←hW2];clear hW2 c0 c1 c2 c3 c4 c5 c6 c7 c8 c9 c10 c11 c12 c13 c14 f0 f1 f2 f3 f4 f5 f6 f7 f8 f9 f10 f11 f12 f13 f14 a0 a1 a2 a3 a4 a5 HX1 HT1 HA1 HB1 hal1 hql1;have X2:=HX2.out;have A2:=HA2.out;have hql2:q<W2.heap.size:=X2.lt;have hal2:w.heap.size<W2.heap.size:=A2.lt;have c11:=X2.cell 11 rfl;have c12:=X2.cell 12 rfl;have c14:=X2.cell 14 rfl;have f14:=X2.free 14;have a2:=A2.cell 2 rfl;have a3:=A2.cell 3 rfl;clear X2 A2;go_quiet (fail);go_wp2_with fail;obtain ⟨W3,hW3⟩:∃W3,W3=(W2.drewN nq).setCell ⟨q,14,none⟩ (.bool false):=⟨_,rfl⟩;have HX3:Hid (BoxC q 146 #[.int .i64 (fm:Int),.int .i64 (g:Int),.int .i64 c.alg,.int .i64 c.slots,.int .i64 c.points,.int .i64 c.probes,.string c.key,.int .i64 c.formats,vP,vE,.int .i64 (ag:Int),.int .i64 (af:Int),.int .i64 (ap:Int),.slice none 0 0,.bool false] W3):=by show BoxC _ _ _ W3;rw [hW3];exact (HX2.out.bel ((Bel.refl _).step_drewN _)).set 14 (.bool false) rfl
  have HA3:Hid (BoxC w.heap.size 97 #[.int .i64 (k:Int),.int .i64 (ag:Int),.int .i64 (af:Int),.int .i64 (ap:Int),.int .i64 (an:Int),.string (txt ab)] W3):=by show BoxC _ _ _ W3;rw [hW3];exact (HA2.out.bel ((Bel.refl _).step_drewN _)).setO (by simp only;omega) _
  have HB3:Hid (But (q::gl vT) w W3):=by show But _ _ _;rw [hW3];exact (HB2.out.drewN _).set (by simp) _
  have HT3:Hid (ThAt W3 (.slice none 0 0) []):=by
   show ThAt _ _ _;rw [hW3];exact ownsRow_setCell_other (HT2.out.later ((Bel.refl _).step_drewN _)) (by simp [Value.ownBlock]) _
  have hs3:Hid (w.heap.size≤W3.heap.size):=HB3.out.size;rw [←hW3];clear hW3 c11 c12 c14 f14 a2 a3 HX2 HT2 HA2 HB2 hs2 hql2 hal2;have A3:=HA3.out;have a4:=A3.cell 4 rfl;have a5:=A3.cell 5 rfl;have H6:=fun wx (hx:Bel W3 wx)=>lay_is q 146 _ [] an ab (.slice none 0 0) wx (HX3.out.bel hx) rfl (HT3.out.later hx) (by simp) (by decide)
  clear A3;go_region_with (go_at_call 175;refine Calls.mono (H6 _ (by first|exact Bel.refl _|exact Bel.step_drew (Bel.refl _))) ?_;rintro e w4 ⟨v',rfl,hQ4,hT4,hB4x,hown4⟩;have hB4:But (q::gl (.slice none 0 0)) W3 w4:=(by first|exact hB4x|exact (But.of_bel ((Bel.refl W3).step_drew)).trans hB4x);have hO4:v'.ownBlock=Value.ownBlock (.slice none 0 0)∨∃g,v'.ownBlock=some g∧w.heap.size≤g:=(by rcases hown4 with h|⟨g,h1,h2⟩;exact Or.inl h;exact Or.inr ⟨g,h1,Nat.le_trans hs3.out (by first|exact h2|simpa using h2)⟩);clear hB4x hown4)
  all_goals
   have HX4:Hid (BoxC q 146 #[.int .i64 (fm:Int),.int .i64 (g:Int),.int .i64 c.alg,.int .i64 c.slots,.int .i64 c.points,.int .i64 c.probes,.string c.key,.int .i64 c.formats,vP,vE,.int .i64 (ag:Int),.int .i64 (af:Int),.int .i64 (ap:Int),v',.bool false] w4):=hQ4;have HB4:Hid (But (q::gl vT) w w4):=HB3.out.trans (hB4.mono (fun k hk=>by simp [gl,Value.ownBlock] at hk;subst hk;simp))
   have HR4:Hid (rowOK w vT v'):=fun k hk=>by
    rcases hO4 with e|⟨g4,e1,e2⟩
    ·rw [e] at hk;cases hk
    ·rw [e1] at hk;injection hk with hk
     exact Or.inr (by omega)
   have HNE:Hid (newT cg cf cp T (k,ag,af,ap,an,ab)=layF [] (an,ab)):=by show _=_;rw [HNT.out,HC1.out]
   have hlT:=layF_len [] (an,ab)
   have hsT:∀p∈layF [] (an,ab),p.2.length≤65536:=fun p hp=>by
    rcases layF_mem hp with h|h
    ·rw [h];exact hab
    ·cases h
   obtain ⟨T',hT'⟩:∃T',T'=layF [] (an,ab):=⟨_,rfl⟩;rw [←hT'] at hT4 HNE hlT hsT;have HT4:=Hid.mk hT4;have hlT2:T'.length≤65536:=by simp at hlT;omega
   have H7:=Hid.mk (whole_is q ap v' T' w4 (HX4.out.cell 12 rfl) (HX4.out.cell 13 rfl) hT4);have HST:=Hid.mk hsT;clear hQ4 hT4 hB4 hO4 hT' H6 HX3 HA3 HB3 HT3 a4 a5 hlT hsT;go_wp2_with fail;refine H7.out.mono ?_;rintro e w5 ⟨rfl,hb5⟩;have HX5:=Hid.mk (HX4.out.bel hb5);have HT5:=Hid.mk (HT4.out.later hb5);have HB5:=Hid.mk (HB4.out.step hb5);clear hb5 H7 HX4 HT4 HB4;cases hwh:((T'.length:Int)==(ap:Int))
   ·have HW:Hid ((newT cg cf cp T (k,ag,af,ap,an,ab)).length≠(com1 cg cf cp T (k,ag,af,ap,an,ab)).2.2.1):=by
     show _≠_;rw [HNE.out,HC1.out];intro e;rw [e] at hwh;simp at hwh
    have HF:Hid (∃v',BoxC q 146 (plC fm g c vP vE (com1 cg cf cp T (k,ag,af,ap,an,ab)).1 (com1 cg cf cp T (k,ag,af,ap,an,ab)).2.1 (com1 cg cf cp T (k,ag,af,ap,an,ab)).2.2.1 v' false) w5∧ThAt w5 v' (newT cg cf cp T (k,ag,af,ap,an,ab))∧rowOK w vT v'):=by
     show ∃_,_;rw [HNE.out,HC1.out];exact ⟨v',HX5.out,HT5.out,HR4.out⟩
    clear HX5 HT5 HR4 HST
    go_wp2
    go_end0
    exact ⟨rfl,HB5.out,Or.inr (Or.inl ⟨HUS.out,HW.out,HF.out⟩)⟩
   ·have HW:Hid ((newT cg cf cp T (k,ag,af,ap,an,ab)).length=(com1 cg cf cp T (k,ag,af,ap,an,ab)).2.2.1):=by
     show _=_;rw [HNE.out,HC1.out];have:=beq_iff_eq.1 hwh;simp only;omega
    have H8:=Hid.mk (finish_is q fm g c vP vE ag af ap v' false T' w5 HX5.out HT5.out hlT2 HST.out)
    have hs5:Hid (w.heap.size≤w5.heap.size):=HB5.out.size
    clear HX5 HT5 HR4 HST
    go_wp2_with fail
    refine H8.out.mono ?_
    rintro e w6 ⟨rfl,hB6,hres⟩
    have HB6:=Hid.mk (HB5.out.trans (hB6.mono (M':=q::gl vT) (fun k hk=>Or.inl (by simp at hk;subst hk;simp))))
    have HRES:=Hid.mk hres
    clear hB6 hres H8
    go_wp2
    go_end0
    refine ⟨rfl,HB6.out,Or.inr (Or.inr ⟨HUS.out,HW.out,?_⟩)⟩
    rw [HNE.out,HC1.out]
    rcases HRES.out with ⟨c2,B2,E2,vP2,vE2,r1,r2,r3,r4⟩|r
    ·exact Or.inl ⟨c2,B2,E2,vP2,vE2,r1,r2,OwnB.mono r3 hs5.out,World.ownsRow.mono r4 (base':=w.heap.size) hs5.out⟩
    ·exact Or.inr r
 ·rw [if_neg hgt] at HC1;have hd1:decide ((cg:Int)<(ag:Int))=false:=decide_eq_false (by omega);by_cases hfe:af=cf∧ap=cp
  ·obtain ⟨rfl,rfl⟩:=hfe;have hdf:(((af:Int)) !=(af:Int))=false:=by simp
   have hdp:(((ap:Int)) !=(ap:Int))=false:=by simp
   have HUS:Hid (useP fm g cg af ap T (k,ag,af,ap,an,ab)):=HU.out.2 ⟨by simp,by rw [HC1.out],by rw [HC1.out]⟩;go_wp2_with fail;go_quiet (fail);go_wp2_with fail;obtain ⟨W2,hW2⟩:∃W2,W2=w1.drewN nq:=⟨_,rfl⟩;have HX2:Hid (BoxC q 146 #[.int .i64 (fm:Int),.int .i64 (g:Int),.int .i64 c.alg,.int .i64 c.slots,.int .i64 c.points,.int .i64 c.probes,.string c.key,.int .i64 c.formats,vP,vE,.int .i64 (cg:Int),.int .i64 (af:Int),.int .i64 (ap:Int),vT,.bool nf] W2):=by show BoxC _ _ _ W2;rw [hW2];exact HX1.out.bel ((Bel.refl _).step_drewN _)
   have HA2:Hid (BoxC w.heap.size 97 #[.int .i64 (k:Int),.int .i64 (ag:Int),.int .i64 (af:Int),.int .i64 (ap:Int),.int .i64 (an:Int),.string (txt ab)] W2):=by show BoxC _ _ _ W2;rw [hW2];exact HA1.out.bel ((Bel.refl _).step_drewN _)
   have HB2:Hid (But (q::gl vT) w W2):=by show But _ _ _;rw [hW2];exact (But.of_bel (M:=q::gl vT) HB1.out).drewN _
   have HT2:Hid (ThAt W2 vT T):=by show ThAt _ _ _;rw [hW2];exact HT1.out.later ((Bel.refl _).step_drewN _)
   have hs2:Hid (w.heap.size≤W2.heap.size):=HB2.out.size;rw [←hW2];clear hW2 c0 c1 c2 c3 c4 c5 c6 c7 c8 c9 c10 c11 c12 c13 c14 f0 f1 f2 f3 f4 f5 f6 f7 f8 f9 f10 f11 f12 f13 f14 a0 a1 a2 a3 a4 a5 HX1 HT1 HA1 HB1 hal1 hql1;have X2:=HX2.out;have A2:=HA2.out;have hql2:q<W2.heap.size:=X2.lt;have hal2:w.heap.size<W2.heap.size:=A2.lt;have c11:=X2.cell 11 rfl;have c12:=X2.cell 12 rfl;have c14:=X2.cell 14 rfl;have f14:=X2.free 14;have a2:=A2.cell 2 rfl;have a3:=A2.cell 3 rfl;clear X2 A2;go_quiet (fail);go_wp2_with fail;obtain ⟨W3,hW3⟩:∃W3,W3=(W2.drewN nq).setCell ⟨q,14,none⟩ (.bool false):=⟨_,rfl⟩;have HX3:Hid (BoxC q 146 #[.int .i64 (fm:Int),.int .i64 (g:Int),.int .i64 c.alg,.int .i64 c.slots,.int .i64 c.points,.int .i64 c.probes,.string c.key,.int .i64 c.formats,vP,vE,.int .i64 (cg:Int),.int .i64 (af:Int),.int .i64 (ap:Int),vT,.bool false] W3):=by show BoxC _ _ _ W3;rw [hW3];exact (HX2.out.bel ((Bel.refl _).step_drewN _)).set 14 (.bool false) rfl
   have HA3:Hid (BoxC w.heap.size 97 #[.int .i64 (k:Int),.int .i64 (ag:Int),.int .i64 (af:Int),.int .i64 (ap:Int),.int .i64 (an:Int),.string (txt ab)] W3):=by show BoxC _ _ _ W3;rw [hW3];exact (HA2.out.bel ((Bel.refl _).step_drewN _)).setO (by simp only;omega) _
   have HB3:Hid (But (q::gl vT) w W3):=by show But _ _ _;rw [hW3];exact (HB2.out.drewN _).set (by simp) _
   have HT3:Hid (ThAt W3 vT T):=by
    show ThAt _ _ _;rw [hW3];exact ownsRow_setCell_other (HT2.out.later ((Bel.refl _).step_drewN _)) HQT.out _
   have hs3:Hid (w.heap.size≤W3.heap.size):=HB3.out.size;rw [←hW3];clear hW3 c11 c12 c14 f14 a2 a3 HX2 HT2 HA2 HB2 hs2 hql2 hal2;have A3:=HA3.out;have a4:=A3.cell 4 rfl;have a5:=A3.cell 5 rfl;have H6:=fun wx (hx:Bel W3 wx)=>lay_is q 146 _ T an ab vT wx (HX3.out.bel hx) rfl (HT3.out.later hx) (by omega) (by decide)
   clear A3;go_region_with (go_at_call 175;refine Calls.mono (H6 _ (by first|exact Bel.refl _|exact Bel.step_drew (Bel.refl _))) ?_;rintro e w4 ⟨v',rfl,hQ4,hT4,hB4x,hown4⟩;have hB4:But (q::gl vT) W3 w4:=(by first|exact hB4x|exact (But.of_bel ((Bel.refl W3).step_drew)).trans hB4x);have hO4:v'.ownBlock=Value.ownBlock vT∨∃g,v'.ownBlock=some g∧w.heap.size≤g:=(by rcases hown4 with h|⟨g,h1,h2⟩;exact Or.inl h;exact Or.inr ⟨g,h1,Nat.le_trans hs3.out (by first|exact h2|simpa using h2)⟩);clear hB4x hown4)
   all_goals
    have HX4:Hid (BoxC q 146 #[.int .i64 (fm:Int),.int .i64 (g:Int),.int .i64 c.alg,.int .i64 c.slots,.int .i64 c.points,.int .i64 c.probes,.string c.key,.int .i64 c.formats,vP,vE,.int .i64 (cg:Int),.int .i64 (af:Int),.int .i64 (ap:Int),v',.bool false] w4):=hQ4;have HB4:Hid (But (q::gl vT) w w4):=HB3.out.trans (hB4.mono (fun k hk=>Or.inl hk))
    have HR4:Hid (rowOK w vT v'):=fun k hk=>by
     rcases hO4 with e|⟨g4,e1,e2⟩
     ·exact Or.inl (by unfold gl;rw [←e,hk];simp)
     ·rw [e1] at hk;injection hk with hk
      exact Or.inr (by omega)
    have HNE:Hid (newT cg af ap T (k,ag,af,ap,an,ab)=layF T (an,ab)):=by show _=_;rw [HNT.out,HC1.out]
    have hlT:=layF_len T (an,ab)
    have hsT:∀p∈layF T (an,ab),p.2.length≤65536:=fun p hp=>by
     rcases layF_mem hp with h|h
     ·rw [h];exact hab
     ·exact hs p h
    obtain ⟨T',hT'⟩:∃T',T'=layF T (an,ab):=⟨_,rfl⟩;rw [←hT'] at hT4 HNE hlT hsT;have HT4:=Hid.mk hT4;have hlT2:T'.length≤65536:=by omega
    have H7:=Hid.mk (whole_is q ap v' T' w4 (HX4.out.cell 12 rfl) (HX4.out.cell 13 rfl) hT4);have HST:=Hid.mk hsT;clear hQ4 hT4 hB4 hO4 hT' H6 HX3 HA3 HB3 HT3 a4 a5 hlT hsT;go_wp2_with fail;refine H7.out.mono ?_;rintro e w5 ⟨rfl,hb5⟩;have HX5:=Hid.mk (HX4.out.bel hb5);have HT5:=Hid.mk (HT4.out.later hb5);have HB5:=Hid.mk (HB4.out.step hb5);clear hb5 H7 HX4 HT4 HB4;cases hwh:((T'.length:Int)==(ap:Int))
    ·have HW:Hid ((newT cg af ap T (k,ag,af,ap,an,ab)).length≠(com1 cg af ap T (k,ag,af,ap,an,ab)).2.2.1):=by
      show _≠_;rw [HNE.out,HC1.out];intro e;rw [e] at hwh;simp at hwh
     have HF:Hid (∃v',BoxC q 146 (plC fm g c vP vE (com1 cg af ap T (k,ag,af,ap,an,ab)).1 (com1 cg af ap T (k,ag,af,ap,an,ab)).2.1 (com1 cg af ap T (k,ag,af,ap,an,ab)).2.2.1 v' false) w5∧ThAt w5 v' (newT cg af ap T (k,ag,af,ap,an,ab))∧rowOK w vT v'):=by
      show ∃_,_;rw [HNE.out,HC1.out];exact ⟨v',HX5.out,HT5.out,HR4.out⟩
     clear HX5 HT5 HR4 HST
     go_wp2
     go_end0
     exact ⟨rfl,HB5.out,Or.inr (Or.inl ⟨HUS.out,HW.out,HF.out⟩)⟩
    ·have HW:Hid ((newT cg af ap T (k,ag,af,ap,an,ab)).length=(com1 cg af ap T (k,ag,af,ap,an,ab)).2.2.1):=by
      show _=_;rw [HNE.out,HC1.out];have:=beq_iff_eq.1 hwh;simp only;omega
     have H8:=Hid.mk (finish_is q fm g c vP vE cg af ap v' false T' w5 HX5.out HT5.out hlT2 HST.out)
     have hs5:Hid (w.heap.size≤w5.heap.size):=HB5.out.size
     clear HX5 HT5 HR4 HST
     go_wp2_with fail
     refine H8.out.mono ?_
     rintro e w6 ⟨rfl,hB6,hres⟩
     have HB6:=Hid.mk (HB5.out.trans (hB6.mono (M':=q::gl vT) (fun k hk=>Or.inl (by simp at hk;subst hk;simp))))
     have HRES:=Hid.mk hres
     clear hB6 hres H8
     go_wp2
     go_end0
     refine ⟨rfl,HB6.out,Or.inr (Or.inr ⟨HUS.out,HW.out,?_⟩)⟩
     rw [HNE.out,HC1.out]
     rcases HRES.out with ⟨c2,B2,E2,vP2,vE2,r1,r2,r3,r4⟩|r
     ·exact Or.inl ⟨c2,B2,E2,vP2,vE2,r1,r2,OwnB.mono r3 hs5.out,World.ownsRow.mono r4 (base':=w.heap.size) hs5.out⟩
     ·exact Or.inr r
  ·have HN:Hid (¬useP fm g cg cf cp T (k,ag,af,ap,an,ab)):=fun h=>by
    have h2:=(HU.out.1 h).2;rw [HC1.out] at h2;exact hfe h2
   by_cases hfc:af=cf
   ·have hdf:(((af:Int)) !=(cf:Int))=false:=by rw [hfc];simp
    have hdp:(((ap:Int)) !=(cp:Int))=true:=by rw [bne_iff_ne];omega
    go_wp2_with fail
    go_quiet (fail)
    go_wp2_with fail
    go_quiet (fail)
    go_wp2
    go_end0
    exact ⟨rfl,(((But.of_bel HB1.out).drewN _).drewN _),Or.inl ⟨HN.out,HX1.out.bel (((Bel.refl _).step_drewN _).step_drewN _),HT1.out.later (((Bel.refl _).step_drewN _).step_drewN _)⟩⟩
   ·have hdf:(((af:Int)) !=(cf:Int))=true:=by rw [bne_iff_ne];omega
    go_wp2_with fail
    go_quiet (fail)
    go_wp2_with fail
    go_quiet (fail)
    go_wp2
    go_end0
    exact ⟨rfl,(((But.of_bel HB1.out).drewN _).drewN _),Or.inl ⟨HN.out,HX1.out.bel (((Bel.refl _).step_drewN _).step_drewN _),HT1.out.later (((Bel.refl _).step_drewN _).step_drewN _)⟩⟩
end Go.Proofs.YtpapdkhjdelfcabGreat
namespace Go.Proofs.YtpapdkhjdelfcabGreat
open Go.RowKit
def RTake (q fm g:Nat) (c:Cfg) (vP vE:Value) (cg cf cp:Nat) (vT:Value) (nf:Bool) (T:List TP) (a:Ans) (w:World) (e:Ending) (w':World):Prop:=e= .returned (.tuple #[])∧But (q::gl vT) w w'∧
 ((a.1≠1∧BoxC q 146 (plC fm g c vP vE cg cf cp vT (a.1==2)) w'∧ThAt w' vT T)∨(a.1=1∧∃w0,Bel w w0∧RTakeP q fm g c vP vE cg cf cp vT nf T a w0 (.returned (.tuple #[])) w'))
theorem pltake_is (q fm g:Nat) (c:Cfg) (vP vE:Value) (cg cf cp:Nat) (vT:Value) (nf:Bool) (T:List TP) (a:Ans) (w:World) (h:BoxC q 146 (plC fm g c vP vE cg cf cp vT nf) w) (hT:ThAt w vT T) (hl:T.length≤65535) (hs:∀p∈T,p.2.length≤65536) (hab:a.2.2.2.2.2.length≤65536) (hf:a.2.2.1<256) (hfm:fm<256) (hk:a.1=0∨a.1=1∨a.1=2):
  Calls Tryz.prog 66 #[.pointer (some ⟨q,0,none⟩),.agg (ansC a)] w (RTake q fm g c vP vE cg cf cp vT nf T a w):=by
 have htp:=fun wx hx hT=>takep_is q fm g c vP vE cg cf cp vT nf T a wx hx hT hl hs hab hf hfm
 have hqT:vT.ownBlock≠some q:=fun e=>by
  rcases hT.2 with ⟨g1,_⟩|⟨g',cap',cur,g1,_,g2,_⟩
  ·rw [g1] at e;cases e
  ·rw [g1] at e;have hg:g'=q:=by simpa [Value.ownBlock] using e
   subst hg;rw [BoxC,g2] at h;injection h with h
   injection h with _ h
   revert h;decide
 have HX:=Hid.mk h;have HT:=Hid.mk hT;have HQT:=Hid.mk hqT;have hql:=h.lt;have hqn:q≠w.heap.size:=by omega
 unfold plC at h;have c14:=h.cell 14 rfl;have f14:=h.free 14;obtain ⟨k,ag,af,ap,an,ab⟩:=a;unfold ansC at *;simp only at *;clear h hT hqT hl hs hab hf hfm;rcases hk with rfl|rfl|rfl
 ·go_enter Tryz.func66,Tryz.ntmps66;go_wp2;go_end0;refine ⟨rfl,?_,Or.inl ⟨by simp,?_,?_⟩⟩
  ·first
   |exact ((But.refl (q::gl vT) w).set (by simp) _).alloc _
   |exact ((But.refl (q::gl vT) w).alloc _).set (by simp) _
  ·first
   |exact BoxC.alloc (HX.out.set 14 (.bool false) rfl) _
   |exact (HX.out.alloc _).set 14 (.bool false) rfl
  ·first
   |exact World.ownsRow.alloc (ownsRow_setCell_other HT.out HQT.out _) _
   |exact ownsRow_setCell_other (World.ownsRow.alloc HT.out _) HQT.out _
 ·go_enter Tryz.func66,Tryz.ntmps66;go_wp2_with fail;refine (htp _ (HX.out.bel ((Bel.refl w).step_alloc _)) (HT.out.later ((Bel.refl w).step_alloc _))).mono ?_;rintro e w1 hR;obtain ⟨rfl,hB1, -⟩:=id hR;have HR:=Hid.mk hR;have HB1:=Hid.mk ((But.of_bel (M:=q::gl vT) ((Bel.refl w).step_alloc _)).trans hB1);clear hR hB1;go_wp2;go_end0;exact ⟨rfl,HB1.out,Or.inr ⟨rfl,_,(Bel.refl w).step_alloc _,HR.out⟩⟩
 ·go_enter Tryz.func66,Tryz.ntmps66;go_wp2;go_end0;refine ⟨rfl,?_,Or.inl ⟨by simp,?_,?_⟩⟩
  ·first
   |exact ((But.refl (q::gl vT) w).set (by simp) _).alloc _
   |exact ((But.refl (q::gl vT) w).alloc _).set (by simp) _
  ·first
   |exact BoxC.alloc (HX.out.set 14 (.bool true) rfl) _
   |exact (HX.out.alloc _).set 14 (.bool true) rfl
  ·first
   |exact World.ownsRow.alloc (ownsRow_setCell_other HT.out HQT.out _) _
   |exact ownsRow_setCell_other (World.ownsRow.alloc HT.out _) HQT.out _
def cOf (w:World) (r j:Nat):Value:=(w.cell? ⟨r,j,none⟩).getD (.bool false)
theorem cOf_is {w:World} {r j:Nat} {u:Value} (h:w.cell? ⟨r,j,none⟩=some u):w.cell? ⟨r,j,none⟩=some (cOf w r j):=by rw [cOf,h];rfl
def RQ (w:World) (v:Value) (e:Ending) (w':World):Prop:=e= .returned v∧Bel w w'
theorem five {w:World} {r:Nat} {ty:TypeId} {cs:Array Value} (h:BoxC r ty cs w) (hs:cs.size=5) (j:Nat) (hj:j<5):w.cell? ⟨r,j,none⟩=some (cOf w r j):=by
 have:cs[j]?=some cs[j]:=Array.getElem?_eq_getElem (by omega);exact cOf_is (h.cell j this)
end Go.Proofs.YtpapdkhjdelfcabGreat
namespace Go.Proofs.YtpapdkhjdelfcabGreat
open Go.RowKit
theorem keepQ {w w':World} {q fm g cg cf:Nat} (hb:Bel w w') (c1:w.cell? ⟨q,1,none⟩=some (.int .i64 (g:Int))) (c0:w.cell? ⟨q,0,none⟩=some (.int .i64 (fm:Int))) (c10:w.cell? ⟨q,10,none⟩=some (.int .i64 (cg:Int))) (c11:w.cell? ⟨q,11,none⟩=some (.int .i64 (cf:Int))) (hX:∃ty cs,BoxC w.heap.size ty cs w'∧cs.size=5):Bel w w'∧w'.cell? ⟨q,1,none⟩=some (.int .i64 (g:Int))∧w'.cell? ⟨q,0,none⟩=some (.int .i64 (fm:Int))∧w'.cell? ⟨q,10,none⟩=some (.int .i64 (cg:Int))∧w'.cell? ⟨q,11,none⟩=some (.int .i64 (cf:Int))∧w'.cell? ⟨w.heap.size,0,none⟩=some (cOf w' w.heap.size 0)∧w'.cell? ⟨w.heap.size,1,none⟩=some (cOf w' w.heap.size 1)∧w'.cell? ⟨w.heap.size,2,none⟩=some (cOf w' w.heap.size 2)∧w'.cell? ⟨w.heap.size,3,none⟩=some (cOf w' w.heap.size 3)∧w'.cell? ⟨w.heap.size,4,none⟩=some (cOf w' w.heap.size 4)∧w'.frozen? ⟨w.heap.size,0,none⟩=false∧w'.frozen? ⟨w.heap.size,1,none⟩=false∧w'.frozen? ⟨w.heap.size,2,none⟩=false∧w'.frozen? ⟨w.heap.size,3,none⟩=false∧w'.frozen? ⟨w.heap.size,4,none⟩=false:=by
 obtain ⟨ty,cs,hX,hs⟩:=hX;exact ⟨hb,hb.cell c1,hb.cell c0,hb.cell c10,hb.cell c11,five hX hs 0 (by omega),five hX hs 1 (by omega),five hX hs 2 (by omega),five hX hs 3 (by omega),five hX hs 4 (by omega),hX.free 0,hX.free 1,hX.free 2,hX.free 3,hX.free 4⟩
theorem keepQ5 {w W0 w9:World} {q fm g cg cf:Nat} {u0 u1 u2 u3 u4:Value} {ty:TypeId} (hw:Bel w W0) (hR:BoxC w.heap.size ty #[.int .i64 0,.int .i64 0,.int .i64 0,.int .i64 0,.int .i64 0] W0) (c1:w.cell? ⟨q,1,none⟩=some (.int .i64 (g:Int))) (c0:w.cell? ⟨q,0,none⟩=some (.int .i64 (fm:Int))) (c10:w.cell? ⟨q,10,none⟩=some (.int .i64 (cg:Int))) (c11:w.cell? ⟨q,11,none⟩=some (.int .i64 (cf:Int))) (hb:Bel W0 w9):(fun w'=>Bel w w'∧w'.cell? ⟨q,1,none⟩=some (.int .i64 (g:Int))∧w'.cell? ⟨q,0,none⟩=some (.int .i64 (fm:Int))∧w'.cell? ⟨q,10,none⟩=some (.int .i64 (cg:Int))∧w'.cell? ⟨q,11,none⟩=some (.int .i64 (cf:Int))∧w'.cell? ⟨w.heap.size,0,none⟩=some (cOf w' w.heap.size 0)∧w'.cell? ⟨w.heap.size,1,none⟩=some (cOf w' w.heap.size 1)∧w'.cell? ⟨w.heap.size,2,none⟩=some (cOf w' w.heap.size 2)∧w'.cell? ⟨w.heap.size,3,none⟩=some (cOf w' w.heap.size 3)∧w'.cell? ⟨w.heap.size,4,none⟩=some (cOf w' w.heap.size 4)∧w'.frozen? ⟨w.heap.size,0,none⟩=false∧w'.frozen? ⟨w.heap.size,1,none⟩=false∧w'.frozen? ⟨w.heap.size,2,none⟩=false∧w'.frozen? ⟨w.heap.size,3,none⟩=false∧w'.frozen? ⟨w.heap.size,4,none⟩=false) (((((w9.setCell ⟨w.heap.size,0,none⟩ u0).setCell ⟨w.heap.size,1,none⟩ u1).setCell ⟨w.heap.size,2,none⟩ u2).setCell ⟨w.heap.size,3,none⟩ u3).setCell ⟨w.heap.size,4,none⟩ u4):=
 keepQ ((hw.trans hb).sets5 (Nat.le_refl _) _ _ _ _ _) c1 c0 c10 c11 ⟨_,_,(((((hR.bel hb).set 0 u0 rfl).set 1 u1 rfl).set 2 u2 rfl).set 3 u3 rfl).set 4 u4 rfl,by simp⟩
theorem question_is (q fm g:Nat) (c:Cfg) (vP vE:Value) (cg cf cp:Nat) (vT:Value) (nf:Bool) (T:List TP) (w:World) (h:BoxC q 146 (plC fm g c vP vE cg cf cp vT nf) w) (hT:ThAt w vT T) (hl:T.length≤65536):
  Calls Tryz.prog 60 #[.pointer (some ⟨q,0,none⟩)] w (RQ w (questA g fm cg cf (misF T))):=by
 unfold plC at h;have c0:w.cell? ⟨q,0,none⟩=some (.int .i64 (fm:Int)):=h.cell 0 rfl;have c1:w.cell? ⟨q,1,none⟩=some (.int .i64 (g:Int)):=h.cell 1 rfl;have c10:w.cell? ⟨q,10,none⟩=some (.int .i64 (cg:Int)):=h.cell 10 rfl;have c11:w.cell? ⟨q,11,none⟩=some (.int .i64 (cf:Int)):=h.cell 11 rfl;have c13:w.cell? ⟨q,13,none⟩=some (vT):=h.cell 13 rfl;have hmi:=fun wx (hx:Bel w wx)=>missing_is q vT T wx (hx.cell c13) (hT.later hx) (by omega)
 obtain ⟨W0,hW0⟩:∃W0,W0=w.alloc (.cells #[.int .i64 0,.int .i64 0,.int .i64 0,.int .i64 0,.int .i64 0] 91):=⟨_,rfl⟩;have hbw:Bel w W0:=by rw [hW0];exact (Bel.refl w).step_alloc _
 have HR0:Hid (BoxC w.heap.size 91 #[.int .i64 0,.int .i64 0,.int .i64 0,.int .i64 0,.int .i64 0] W0):=by show BoxC _ _ _ W0;rw [hW0];exact BoxC.new _ _ _
 have hql:=h.lt;have hqn:q≠w.heap.size:=by omega
 generalize misF T=mf at *;clear h hT;go_enter Tryz.func60,Tryz.ntmps60;go_wp2_with fail;rw [←hW0];clear hW0;go_region_held3 (fun w'=>Bel w w'∧w'.cell? ⟨q,1,none⟩=some (.int .i64 (g:Int))∧w'.cell? ⟨q,0,none⟩=some (.int .i64 (fm:Int))∧w'.cell? ⟨q,10,none⟩=some (.int .i64 (cg:Int))∧w'.cell? ⟨q,11,none⟩=some (.int .i64 (cf:Int))∧w'.cell? ⟨w.heap.size,0,none⟩=some (cOf w' w.heap.size 0)∧w'.cell? ⟨w.heap.size,1,none⟩=some (cOf w' w.heap.size 1)∧w'.cell? ⟨w.heap.size,2,none⟩=some (cOf w' w.heap.size 2)∧w'.cell? ⟨w.heap.size,3,none⟩=some (cOf w' w.heap.size 3)∧w'.cell? ⟨w.heap.size,4,none⟩=some (cOf w' w.heap.size 4)∧w'.frozen? ⟨w.heap.size,0,none⟩=false∧w'.frozen? ⟨w.heap.size,1,none⟩=false∧w'.frozen? ⟨w.heap.size,2,none⟩=false∧w'.frozen? ⟨w.heap.size,3,none⟩=false∧w'.frozen? ⟨w.heap.size,4,none⟩=false) ((first|with_reducible exact keepQ5 hbw HR0.out c1 c0 c10 c11 (by (repeat (first|with_reducible assumption|with_reducible exact Bel.refl _|with_reducible refine Bel.step_drew ?_|with_reducible refine Bel.step_drewN ?_ _|with_reducible refine Bel.trans ?_ (by with_reducible assumption))))|exact keepQ (hbw.trans (by (repeat (first|with_reducible assumption|with_reducible exact Bel.refl _|with_reducible refine Bel.step_drew ?_|with_reducible refine Bel.step_drewN ?_ _|with_reducible refine Bel.trans ?_ (by with_reducible assumption))))) c1 c0 c10 c11 ⟨_,_,HR0.out.bel (by (repeat (first|with_reducible assumption|with_reducible exact Bel.refl _|with_reducible refine Bel.step_drew ?_|with_reducible refine Bel.step_drewN ?_ _|with_reducible refine Bel.trans ?_ (by with_reducible assumption)))),rfl⟩)) ((go_at_call 111;refine Calls.mono (hmi _ (hbw.trans (by (repeat (first|with_reducible assumption|with_reducible exact Bel.refl _|with_reducible refine Bel.step_drew ?_|with_reducible refine Bel.step_drewN ?_ _|with_reducible refine Bel.trans ?_ (by with_reducible assumption)))))) ?_;rintro e w9 ⟨rfl,hb9⟩));have hb09:Bel W0 w9:=by (repeat (first|with_reducible assumption|with_reducible exact Bel.refl _|with_reducible refine Bel.step_drew ?_|with_reducible refine Bel.step_drewN ?_ _|with_reducible refine Bel.trans ?_ (by with_reducible assumption)))
 have R9:=HR0.out.bel hb09;have r0:=R9.cell 0 rfl;have r1:=R9.cell 1 rfl;have r2:=R9.cell 2 rfl;have r3:=R9.cell 3 rfl;have r4:=R9.cell 4 rfl;have HB:=Hid.mk (hbw.trans hb09);clear R9 hb09;go_wp2;exact bodyPost_ret (v:=questA g fm cg cf mf) (by simp [questA,results,Tryz.results60,go_sem,r0,r1,r2,r3,r4]) rfl ⟨rfl,HB.out.sets5 (Nat.le_refl _) _ _ _ _ _⟩
end Go.Proofs.YtpapdkhjdelfcabGreat
