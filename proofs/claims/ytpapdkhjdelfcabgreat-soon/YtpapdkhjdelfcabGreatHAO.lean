import Derived.Test.YtpapdkhjdelfcabGreatHAN
import Derived.Test.YtpapdkhjdelfcabGreatHAE
import Derived.Deep.QuietTactic
import Derived.BigQuiet
import Derived.Test.YtpapdkhjdelfcabGreatHAB
import Derived.Test.YtpapdkhjdelfcabGreatHAH
set_option maxRecDepth 100000
set_option maxHeartbeats 4000000
namespace Go.Proofs.YtpapdkhjdelfcabGreat
open Go.RowKit
variable {vL:Value}
theorem nameOK_is (id:ByteArray) (w:World):Calls Tryz.prog 38 #[.string id] w fun e w'=>e= .returned (.bool (decide (1≤id.size∧id.size≤8)))∧w=w':=by
 by_cases h:1≤(id.size:Int)∧(id.size:Int)≤8
 ·have hd:decide (1≤id.size∧id.size≤8)=true:=decide_eq_true (by omega);rw [hd];go_enter Tryz.func38,Tryz.ntmps38;go_wp2_with fail;refine (within_yes _ _ _ _ h.1 h.2).mono ?_;rintro e w' ⟨rfl,rfl⟩;go_wp2;go_ret;exact ⟨rfl,rfl⟩
 ·have hd:decide (1≤id.size∧id.size≤8)=false:=decide_eq_false (by omega);rw [hd];go_enter Tryz.func38,Tryz.ntmps38;go_wp2_with fail;refine (within_no _ _ _ _ h).mono ?_;rintro e w' ⟨rfl,rfl⟩;go_wp2;go_ret;exact ⟨rfl,rfl⟩
theorem weightOK_is (x:Int) (w:World):Calls Tryz.prog 39 #[.int .i64 x] w fun e w'=>e= .returned (.bool (decide (0≤x∧x≤6)))∧w=w':=by
 by_cases h:0≤x∧x≤6
 ·have hd:decide (0≤x∧x≤6)=true:=decide_eq_true h;rw [hd];go_enter Tryz.func39,Tryz.ntmps39;go_wp2_with fail;refine (within_yes _ _ _ _ h.1 h.2).mono ?_;rintro e w' ⟨rfl,rfl⟩;go_wp2;go_ret;exact ⟨rfl,rfl⟩
 ·have hd:decide (0≤x∧x≤6)=false:=decide_eq_false h;rw [hd];go_enter Tryz.func39,Tryz.ntmps39;go_wp2_with fail;refine (within_no _ _ _ _ h).mono ?_;rintro e w' ⟨rfl,rfl⟩;go_wp2;go_ret;exact ⟨rfl,rfl⟩
theorem RSvc.same {M:List Nat} {q:Nat} {c:Cfg} {B:List BK} {g err:Int} {w w':World} (hS:SvcAt vL M q c B g w) (hb:Bel w w'):RSvc vL M q c B g err w (.returned (.int .i64 err)) w':=⟨rfl,But.of_bel hb,hS.later hb⟩
theorem add_is (M:List Nat) (q:Nat) (c:Cfg) (B:List BK) (g:Int) (id:ByteArray) (n:Int) (w:World) (hS:SvcAt vL M q c B g w) (hM:∀k∈M,k<w.heap.size) (hc:c.OK) (hB:Good B) (hg0:0≤g) (hg1:g≤4611686018427387904):
  Calls Tryz.prog 24 #[.pointer (some ⟨q,0,none⟩),.string id,.int .i64 n] w (RSvc vL M q c (addB B id n) (if addE B id n=0 then g+1 else g) (addE B id n) w):=by
 have hGood:=hB.add id n;have h8:=hB.1.1;have hS':=hS;obtain ⟨hm,vP,vE,⟨⟨h0,h1,h2,h3,h4,h5⟩,h6,h7⟩,hg,hF,hPm,hEm⟩:=hS';have hP:=hPm.unmask;have hpl:=place_is B vP id w hP (by omega);by_cases hn:id.size<1∨8<id.size
 ·have he:addE B id n=2:=by unfold addE;rw [if_pos hn]
  unfold addB;rw [he];simp only [show ((2:Int)=0)=False from by simp,if_false];have hnm:=nameOK_is id w;rw [show decide (1≤id.size∧id.size≤8)=false from decide_eq_false (by omega)] at hnm;go_enter Tryz.func24,Tryz.ntmps24;go_wp2_with fail;refine hnm.mono ?_;rintro e w' ⟨rfl,rfl⟩;go_wp2;go_ret;exact RSvc.same hS (Bel.refl _)
 have hnm:=nameOK_is id w;rw [show decide (1≤id.size∧id.size≤8)=true from decide_eq_true (by omega)] at hnm;have hwt:=weightOK_is n w;by_cases hw:n<0∨6<n
 ·have he:addE B id n=5:=by unfold addE;rw [if_neg hn,if_pos hw]
  unfold addB;rw [he];simp only [show ((5:Int)=0)=False from by simp,if_false];rw [show decide (0≤n∧n≤6)=false from decide_eq_false (by omega)] at hwt;go_enter Tryz.func24,Tryz.ntmps24;go_wp2_with fail;refine hnm.mono ?_;rintro e w' ⟨rfl,rfl⟩;go_wp2_with fail;refine hwt.mono ?_;rintro e w' ⟨rfl,rfl⟩;go_wp2;go_ret;exact RSvc.same hS (Bel.refl _)
 rw [show decide (0≤n∧n≤6)=true from decide_eq_true (by omega)] at hwt;unfold RPlace placeF at hpl;by_cases ht:atName id B<B.length
 ·have he:addE B id n=3:=by unfold addE;rw [if_neg hn,if_neg hw,if_pos ht]
  unfold addB;rw [he];simp only [show ((3:Int)=0)=False from by simp,if_false];rw [if_pos ht] at hpl;have HS:=Hid.mk hS;clear hS hGood hB hPm hEm hP hF;generalize atName id B=p at *;go_enter Tryz.func24,Tryz.ntmps24;go_wp2_with fail;refine hnm.mono ?_;rintro e w' ⟨rfl,rfl⟩;go_wp2_with fail;refine hwt.mono ?_;rintro e w' ⟨rfl,rfl⟩;go_wp2_with fail;refine hpl.mono ?_;rintro e w1 ⟨rfl,hb1⟩;go_wp2;go_ret;exact RSvc.same HS.out hb1
 rw [if_neg ht] at hpl;obtain ⟨aP,capP,rfl, -⟩:=hP.open;by_cases hl:8≤B.length
 ·have he:addE B id n=6:=by unfold addE;rw [if_neg hn,if_neg hw,if_neg ht,if_pos hl]
  unfold addB;rw [he];simp only [show ((6:Int)=0)=False from by simp,if_false];have HS:=Hid.mk hS;clear hS hGood hB hPm hEm hP hF;have hd:decide ((B.length:Int)≥8)=true:=decide_eq_true (by omega);go_enter Tryz.func24,Tryz.ntmps24;go_wp2_with fail;refine hnm.mono ?_;rintro e w' ⟨rfl,rfl⟩;go_wp2_with fail;refine hwt.mono ?_;rintro e w' ⟨rfl,rfl⟩;go_wp2_with fail;refine hpl.mono ?_;rintro e w1 ⟨rfl,hb1⟩;have k6:=hb1.cell h6;go_wp2;go_ret;exact RSvc.same HS.out hb1
 have he:addE B id n=0:=by unfold addE;rw [if_neg hn,if_neg hw,if_neg ht,if_neg hl]
 have hin:addB B id n=ins (id,n) B:=by unfold addB;rw [if_pos he]
 rw [hin] at hGood ⊢;rw [he];simp only [if_true];have hd:decide ((B.length:Int)≥8)=false:=decide_eq_false (by omega);have HS:=Hid.mk hS;have HP:=Hid.mk hP;have HG:=Hid.mk hGood;clear hS hGood hB hPm hEm hP hF he hin;generalize hB':ins (id,n) B=B' at *;go_enter Tryz.func24,Tryz.ntmps24;go_wp2_with fail;refine hnm.mono ?_;rintro e w' ⟨rfl,rfl⟩;go_wp2_with fail;refine hwt.mono ?_;rintro e w' ⟨rfl,rfl⟩;go_wp2_with fail;refine hpl.mono ?_;rintro e w1 ⟨rfl,hb1⟩;have k6:=hb1.cell h6;have hwi:=with_is B (.slice aP B.length capP) (id,n) w1 (HP.out.later hb1) (by omega);rw [hB'] at hwi;go_wp2_with fail;refine hwi.mono ?_;rintro e w2 ⟨v2,rfl,hb2,hO2⟩;have hb12:=hb1.trans hb2;have hpu:=publish_is M q c B B' g v2 w2 (HS.out.later hb12) (fun k hk=>Nat.lt_of_lt_of_le (hM k hk) hb12.size) hc hO2.pool HG.out.1 hg0 hg1;clear hwi hO2;go_wp2_with fail;refine hpu.mono ?_;rintro e w3 ⟨rfl,hbt,hS3⟩;go_wp2;go_ret;exact ⟨rfl,(But.of_bel hb12).trans hbt,hS3⟩
theorem remove_is (M:List Nat) (q:Nat) (c:Cfg) (B:List BK) (g:Int) (id:ByteArray) (w:World) (hS:SvcAt vL M q c B g w) (hM:∀k∈M,k<w.heap.size) (hc:c.OK) (hB:Good B) (hg0:0≤g) (hg1:g≤4611686018427387904):
  Calls Tryz.prog 95 #[.pointer (some ⟨q,0,none⟩),.string id] w (RSvc vL M q c (remB B id) (if remE B id=0 then g+1 else g) (remE B id) w):=by
 have hGood:=hB.rem id;have h8:=hB.1.1;have hS':=hS;obtain ⟨hm,vP,vE,⟨⟨h0,h1,h2,h3,h4,h5⟩,h6,h7⟩,hg,hF,hPm,hEm⟩:=hS';have hP:=hPm.unmask;have hpl:=place_is B vP id w hP (by omega);unfold RPlace placeF at hpl;by_cases ht:atName id B<B.length
 rotate_left
 ·have he:remE B id=4:=by unfold remE;rw [if_neg ht]
  unfold remB;rw [he];simp only [show ((4:Int)=0)=False from by simp,if_false];rw [if_neg ht] at hpl;have HS:=Hid.mk hS;clear hS hGood hB hPm hEm hP hF;go_enter Tryz.func95,Tryz.ntmps95;go_wp2_with fail;refine hpl.mono ?_;rintro e w1 ⟨rfl,hb1⟩;go_wp2;go_ret;exact RSvc.same HS.out hb1
 have he:remE B id=0:=by unfold remE;rw [if_pos ht]
 have hin:remB B id=B.eraseIdx (atName id B):=by unfold remB;rw [if_pos he]
 rw [hin] at hGood ⊢;rw [he];simp only [if_true];rw [if_pos ht] at hpl;have HS:=Hid.mk hS;have HP:=Hid.mk hP;have HG:=Hid.mk hGood;clear hS hGood hB hPm hEm hP hF he hin;generalize atName id B=p at *;generalize hB':B.eraseIdx p=B' at *;go_enter Tryz.func95,Tryz.ntmps95;go_wp2_with fail;refine hpl.mono ?_;rintro e w1 ⟨rfl,hb1⟩;have k6:=hb1.cell h6;have hwi:=without_is B vP p w1 (HP.out.later hb1) (by omega) ht;rw [hB'] at hwi;go_wp2_with fail;refine hwi.mono ?_;rintro e w2 ⟨v2,rfl,hb2,hO2⟩;have hb12:=hb1.trans hb2;have hpu:=publish_is M q c B B' g v2 w2 (HS.out.later hb12) (fun k hk=>Nat.lt_of_lt_of_le (hM k hk) hb12.size) hc hO2.pool HG.out.1 hg0 hg1;clear hwi hO2;go_wp2_with fail;refine hpu.mono ?_;rintro e w3 ⟨rfl,hbt,hS3⟩;go_wp2;go_ret;exact ⟨rfl,(But.of_bel hb12).trans hbt,hS3⟩
theorem set_is (M:List Nat) (q:Nat) (c:Cfg) (B:List BK) (g:Int) (id:ByteArray) (n:Int) (w:World) (hS:SvcAt vL M q c B g w) (hM:∀k∈M,k<w.heap.size) (hc:c.OK) (hB:Good B) (hg0:0≤g) (hg1:g≤4611686018427387904):
  Calls Tryz.prog 96 #[.pointer (some ⟨q,0,none⟩),.string id,.int .i64 n] w (RSvc vL M q c (setB B id n) (if setE B id n=0 then g+1 else g) (setE B id n) w):=by
 have hGood:=hB.set id n;have h8:=hB.1.1;have hS':=hS;obtain ⟨hm,vP,vE,⟨⟨h0,h1,h2,h3,h4,h5⟩,h6,h7⟩,hg,hF,hPm,hEm⟩:=hS';have hP:=hPm.unmask;have hpl:=place_is B vP id w hP (by omega);unfold RPlace placeF at hpl;have hwt:=weightOK_is n w;by_cases hw:n<0∨6<n
 ·have he:setE B id n=5:=by unfold setE;rw [if_pos hw]
  unfold setB;rw [he];simp only [show ((5:Int)=0)=False from by simp,if_false];rw [show decide (0≤n∧n≤6)=false from decide_eq_false (by omega)] at hwt;go_enter Tryz.func96,Tryz.ntmps96;go_wp2_with fail;refine hwt.mono ?_;rintro e w' ⟨rfl,rfl⟩;go_wp2;go_ret;exact RSvc.same hS (Bel.refl _)
 rw [show decide (0≤n∧n≤6)=true from decide_eq_true (by omega)] at hwt;by_cases ht:atName id B<B.length
 rotate_left
 ·have he:setE B id n=4:=by unfold setE;rw [if_neg hw,if_neg ht]
  unfold setB;rw [he];simp only [show ((4:Int)=0)=False from by simp,if_false];rw [if_neg ht] at hpl;have HS:=Hid.mk hS;clear hS hGood hB hPm hEm hP hF;go_enter Tryz.func96,Tryz.ntmps96;go_wp2_with fail;refine hwt.mono ?_;rintro e w' ⟨rfl,rfl⟩;go_wp2_with fail;refine hpl.mono ?_;rintro e w1 ⟨rfl,hb1⟩;go_wp2;go_ret;exact RSvc.same HS.out hb1
 have he:setE B id n=0:=by unfold setE;rw [if_neg hw,if_pos ht]
 have hin:setB B id n=B.set (atName id B) (B[atName id B].1,n):=by unfold setB;rw [if_pos he,atName_is ht]
 rw [hin] at hGood ⊢;rw [he];simp only [if_true];rw [if_pos ht] at hpl;have HS:=Hid.mk hS;have HP:=Hid.mk hP;have HG:=Hid.mk hGood;clear hS hGood hB hPm hEm hP hF he hin;generalize atName id B=p at *;generalize hB':B.set p (B[p].1,n)=B' at *;go_enter Tryz.func96,Tryz.ntmps96;go_wp2_with fail;refine hwt.mono ?_;rintro e w' ⟨rfl,rfl⟩;go_wp2_with fail;refine hpl.mono ?_;rintro e w1 ⟨rfl,hb1⟩;have k6:=hb1.cell h6;have hwi:=weighed_is B vP p n w1 (HP.out.later hb1) (by omega) ht;rw [hB'] at hwi;go_wp2_with fail;refine hwi.mono ?_;rintro e w2 ⟨v2,rfl,hb2,hO2⟩;have hb12:=hb1.trans hb2;have hpu:=publish_is M q c B B' g v2 w2 (HS.out.later hb12) (fun k hk=>Nat.lt_of_lt_of_le (hM k hk) hb12.size) hc hO2.pool HG.out.1 hg0 hg1;clear hwi hO2;go_wp2_with fail;refine hpu.mono ?_;rintro e w3 ⟨rfl,hbt,hS3⟩;go_wp2;go_ret;exact ⟨rfl,(But.of_bel hb12).trans hbt,hS3⟩
theorem gen_is (M:List Nat) (q:Nat) (c:Cfg) (B:List BK) (g:Int) (w:World) (hS:SvcAt vL M q c B g w):
  Calls Tryz.prog 101 #[.pointer (some ⟨q,0,none⟩)] w fun e w'=>e= .returned (.int .i64 g)∧w=w':=by
 obtain ⟨-,vP,vE, -,hg, -⟩:=hS;go_enter Tryz.func101,Tryz.ntmps101;go_wp2;go_ret;exact ⟨rfl,rfl⟩
theorem slots_is (M:List Nat) (q:Nat) (c:Cfg) (B:List BK) (g:Int) (w:World) (hS:SvcAt vL M q c B g w) (hE:(mkF c B).length≤65536):
  Calls Tryz.prog 25 #[.pointer (some ⟨q,0,none⟩)] w (RTexts w (namesF B (mkF c B))):=by
 obtain ⟨-,vP,vE,hT,hg, -,hPm,hEm⟩:=hS;have hn:=names_is q c vP vE B (mkF c B) w hT hPm.unmask hEm.unmask hE;generalize namesF B (mkF c B)=NL at *;clear hT hPm hEm;go_enter Tryz.func25,Tryz.ntmps25;go_wp2_with fail;refine hn.mono ?_;rintro e w1 ⟨v,rfl,hb,hO,hnil⟩;go_wp2;go_ret;exact ⟨_,rfl,hb,hO,hnil⟩
def localF (c:Cfg) (B:List BK) (g:Int) (k:ByteArray):ByteArray×Int:=if g=0 then (ByteArray.empty,7) else ownerF c B k
theorem local_is (M:List Nat) (q:Nat) (c:Cfg) (B:List BK) (g:Int) (k:ByteArray) (w:World) (hS:SvcAt vL M q c B g w) (hE:(mkF c B).length≤65536) (hc:c.OK) (hk:k.size≤4611686018427386000):
  Calls Tryz.prog 103 #[.pointer (some ⟨q,0,none⟩),.string k] w (RStrErr w (localF c B g k)):=by
 obtain ⟨-,vP,vE,hT,hg, -,hPm,hEm⟩:=hS;have hn:=owner_is q c vP vE B (mkF c B) k w hT hPm.unmask hEm.unmask hE hc hk;rw [←ownerF_eq] at hn;unfold localF;generalize ownerF c B k=X at *;obtain ⟨x1,x2⟩:=X;clear hT hPm hEm;by_cases hz:g=0
 ·subst hz;rw [if_pos rfl];go_enter Tryz.func103,Tryz.ntmps103;go_wp2;go_ret2;exact ⟨rfl,Bel.refl _⟩
 ·have hzb:(g==0)=false:=by rw [beq_eq_false_iff_ne];exact hz
  rw [if_neg hz];go_enter Tryz.func103,Tryz.ntmps103;go_wp2_with fail;refine hn.mono ?_;rintro e w1 ⟨rfl,hb⟩;go_wp2;go_ret2;exact ⟨rfl,hb⟩
end Go.Proofs.YtpapdkhjdelfcabGreat
namespace Go.Proofs.YtpapdkhjdelfcabGreat
open Go.RowKit
theorem Good.take {B:List BK} (h:Good B) (k:Nat):Good (B.take k):=
 ⟨⟨Nat.le_trans (List.length_take_le' _ _) h.1.1,fun b hb=>h.1.2 b (List.mem_of_mem_take hb)⟩,List.Pairwise.sublist (List.take_sublist _ _) h.2⟩
theorem good_step {B:List BK} {k:Nat} (hk:k<B.length) (h8:B.length≤8) (h:Good (B.take k)) (h1:1≤B[k].1.size∧B[k].1.size≤8) (h2:0≤B[k].2∧B[k].2≤6) (h3:∀j,(hj:j+1=k)→less (B[j]'(by omega)).1 B[k].1=true):Good (B.take (k+1)):=by
 rw [List.take_succ_eq_append_getElem hk];refine ⟨⟨by simp;omega,fun b hb=>?_⟩,?_⟩
 ·rcases List.mem_append.1 hb with hb|hb
  ·exact h.1.2 b hb
  ·obtain rfl:=List.mem_singleton.1 hb;exact ⟨h1.1,h1.2,h2.1,h2.2⟩
 ·refine List.pairwise_append.2 ⟨h.2,List.pairwise_singleton _ _,fun a ha b hb=>?_⟩;obtain rfl:=List.mem_singleton.1 hb;obtain ⟨i,hi,rfl⟩:=List.getElem_of_mem ha;rw [List.length_take] at hi;obtain ⟨j,rfl⟩:∃j,k=j+1:=⟨k - 1,by omega⟩;have hl:=h3 j rfl;by_cases hij:i=j
  ·subst hij;simpa using hl
  ·have:=List.pairwise_iff_getElem.1 h.2 i j (by rw [List.length_take];omega) (by rw [List.length_take];omega) (by omega);simp only [List.getElem_take] at this ⊢;exact less_trans this hl
theorem good_last {B:List BK} {j:Nat} (hk:j+1<B.length) (h:Good B):less B[j].1 B[j+1].1=true:=List.pairwise_iff_getElem.1 h.2 j (j+1) (by omega) hk (by omega)
def RRight (P:Prop) (w:World) (e:Ending) (w':World):Prop:=∃x,e= .returned (.bool x)∧Bel w w'∧(x=true↔P)
theorem poolr_is (B:List BK) (v:Value) (w:World) (hP:PoolAt w v B) (hB:B.length≤1000):
  Calls Tryz.prog 223 #[v] w (RRight (Good B) w):=by
 obtain ⟨ao,cap,rfl,hc⟩:=hP.open;by_cases h8:8<B.length
 ·have hno:Hid (¬Good B):=fun h=>by have:=h.1.1;omega
  clear hc;go_enter Tryz.func223,Tryz.ntmps223;go_wp2;go_ret;exact ⟨false,rfl,by (repeat (first|exact Bel.refl _|assumption|refine Bel.step_alloc ?_ _|refine Bel.step_drew ?_|refine Bel.step_drewN ?_ _|refine Bel.step_set ?_ (by simp <;>omega) _|refine Bel.trans ?_ (by assumption))),⟨fun h=>(by cases h),fun h=>absurd h hno.out⟩⟩
 ·replace h8:B.length≤8:=by omega
  go_enter Tryz.func223,Tryz.ntmps223;go_wp2;go_loopg [10] B.length (fun r n wr=>Bel w wr∧∃k:Nat,r=B.length - k∧k≤B.length∧n= .int .i64 k∧Good (B.take k))
  case atStart=>exact ⟨Bel.refl _,0,by omega,by omega,rfl,by simpa using Good.nil⟩
  case round=>
   obtain ⟨hb,k,hr,hk,rfl,hg⟩:=hrel;have HG:=Hid.mk hg;clear hg;by_cases hlt:k<B.length
   ·obtain ⟨g,rfl,c0,c1⟩:=hc k hlt;have c0':=hb.cell c0;have c1':=hb.cell c1;have hnm:=fun wx=>nameOK_is B[k].1 wx
    have hwt:=fun wx=>weightOK_is B[k].2 wx
    have HST:=Hid.mk (fun h1 h2 h3=>good_step hlt h8 HG.out h1 h2 h3)
    have HN1:Hid (Good B→(1≤B[k].1.size∧B[k].1.size≤8)∧(0≤B[k].2∧B[k].2≤6)):=fun h=>by
     have:=h.1.2 _ (List.getElem_mem hlt);exact ⟨⟨this.1,this.2.1⟩,this.2.2⟩
    by_cases hname:1≤B[k].1.size∧B[k].1.size≤8
    rotate_left
    ·have hno:Hid (¬Good B):=fun h=>hname (HN1.out h).1
     simp only [hname,decide_false] at hnm;clear hc c0 c1 hwt HST HN1 hname HG;generalize B[k].1=idk at *;generalize B[k].2=wk at *;go_wp2_with fail;refine (hnm _).mono ?_;rintro e w2 ⟨rfl,rfl⟩;go_wp2;go_ret;exact ⟨false,rfl,by (repeat (first|exact Bel.refl _|assumption|refine Bel.step_alloc ?_ _|refine Bel.step_drew ?_|refine Bel.step_drewN ?_ _|refine Bel.step_set ?_ (by simp <;>omega) _|refine Bel.trans ?_ (by assumption))),⟨fun h=>(by cases h),fun h=>absurd h hno.out⟩⟩
    simp only [hname,and_self,decide_true] at hnm;by_cases hweight:0≤B[k].2∧B[k].2≤6
    rotate_left
    ·have hno:Hid (¬Good B):=fun h=>hweight (HN1.out h).2
     simp only [hweight,decide_false] at hwt;clear hc c0 c1 HST HN1 hname HG hweight;generalize B[k].1=idk at *;generalize B[k].2=wk at *;go_wp2_with fail;refine (hnm _).mono ?_;rintro e w2 ⟨rfl,rfl⟩;go_wp2_with fail;refine (hwt _).mono ?_;rintro e w2 ⟨rfl,rfl⟩;go_wp2;go_ret;exact ⟨false,rfl,by (repeat (first|exact Bel.refl _|assumption|refine Bel.step_alloc ?_ _|refine Bel.step_drew ?_|refine Bel.step_drewN ?_ _|refine Bel.step_set ?_ (by simp <;>omega) _|refine Bel.trans ?_ (by assumption))),⟨fun h=>(by cases h),fun h=>absurd h hno.out⟩⟩
    simp only [hweight,and_self,decide_true] at hwt;replace HST:=Hid.mk (HST.out hname hweight);clear HN1 hname hweight HG;cases k with
    |zero=>
     have HS2:Hid (Good (B.take (0+1))):=HST.out (fun j hj=>by omega);clear hc c0 c1 HST;generalize B[0].1=idk at *;generalize B[0].2=wk at *;go_wp2_with fail;refine (hnm _).mono ?_;rintro e w2 ⟨rfl,rfl⟩;go_wp2_with fail;refine (hwt _).mono ?_;rintro e w2 ⟨rfl,rfl⟩;go_wp2_with fail;go_quiet (fail);go_wp2_with fail;go_roundg (B.length - (0+1))
     case measure=>omega
     case rel=>exact ⟨by (repeat (first|exact Bel.refl _|assumption|refine Bel.step_alloc ?_ _|refine Bel.step_drew ?_|refine Bel.step_drewN ?_ _|refine Bel.step_set ?_ (by simp <;>omega) _|refine Bel.trans ?_ (by assumption))),0+1,rfl,by omega,by go_num,HS2.out⟩
    |succ j=>
     obtain ⟨g',hgg,d0,d1⟩:=hc j (by omega);cases hgg;have d0':=hb.cell d0
     have HS2 : Hid (less B[j].1 B[j + 1].1 = true → Good (B.take (j + 1 + 1))) := fun h => HST.out (fun i hi => by
       obtain rfl : i = j := by omega
       exact h)
     have hwj:IntKind.i64.wrap (j:Int)=(j:Int):=by rw [IntKind.wrap_i64];omega
     have hjl:j<B.length:=by omega
     have hglt:g<wr.heap.size:=World.block_lt_of_cell? wr _ d0';have hgne:g≠wr.heap.size:=by omega
     have HN2:Hid (Good B→less B[j].1 B[j+1].1=true):=fun h=>good_last hlt h
     unfold less at HS2 HN2;obtain ⟨x,hx⟩:∃x,Op.bytesLess B[j].1.toList B[j+1].1.toList=x:=⟨_,rfl⟩;rw [hx] at HS2 HN2;clear hc c0 c1 HST d0 d1;generalize B[j+1].1=idk at *;generalize B[j+1].2=wk at *;generalize B[j].1=idj at *;go_wp2_with fail;refine (hnm _).mono ?_;rintro e w2 ⟨rfl,rfl⟩;go_wp2_with fail;refine (hwt _).mono ?_;rintro e w2 ⟨rfl,rfl⟩;go_wp2_with fail;cases x
     ·go_quiet (fail);go_wp2;go_ret;exact ⟨false,rfl,by (repeat (first|exact Bel.refl _|assumption|refine Bel.step_alloc ?_ _|refine Bel.step_drew ?_|refine Bel.step_drewN ?_ _|refine Bel.step_set ?_ (by simp <;>omega) _|refine Bel.trans ?_ (by assumption))),⟨fun h=>(by cases h),fun h=>absurd (HN2.out h) (by simp)⟩⟩
     ·go_quiet (fail);go_wp2_with fail;go_roundg (B.length - (j+1+1))
      case measure=>omega
      case rel=>exact ⟨by (repeat (first|exact Bel.refl _|assumption|refine Bel.step_alloc ?_ _|refine Bel.step_drew ?_|refine Bel.step_drewN ?_ _|refine Bel.step_set ?_ (by simp <;>omega) _|refine Bel.trans ?_ (by assumption))),j+1+1,rfl,by omega,by go_num,by first|exact HS2.out rfl|exact HS2.out trivial⟩
   ·have HE:Hid (Good B):=by have:=HG.out;rw [List.take_of_length_le (by omega)] at this;exact this
    clear hc HG;go_wp2;go_ret;exact ⟨true,rfl,by (repeat (first|exact Bel.refl _|assumption|refine Bel.step_alloc ?_ _|refine Bel.step_drew ?_|refine Bel.step_drewN ?_ _|refine Bel.step_set ?_ (by simp <;>omega) _|refine Bel.trans ?_ (by assumption))),⟨fun _=>HE.out,fun _=>rfl⟩⟩
end Go.Proofs.YtpapdkhjdelfcabGreat
namespace Go.Proofs.YtpapdkhjdelfcabGreat
open Go.RowKit
theorem alloc_at (w:World) (o:Obj):(w.alloc o).heap[w.heap.size]?=some o:=by unfold World.alloc;exact Array.getElem?_push_size
def BoxC (b:Nat) (ty:TypeId) (cs:Array Value) (w:World):Prop:=w.heap[b]?=some (.cells cs ty (0,0))
theorem BoxC.new (w:World) (ty:TypeId) (cs:Array Value):BoxC w.heap.size ty cs (w.alloc (.cells cs ty)):=alloc_at w _
theorem BoxC.lt {b:Nat} {ty:TypeId} {cs:Array Value} {w:World} (h:BoxC b ty cs w):b<w.heap.size:=by
 rcases Nat.lt_or_ge b w.heap.size with k|k
 ·exact k
 ·rw [BoxC,Array.getElem?_eq_none k] at h;cases h
theorem BoxC.kept {b:Nat} {ty:TypeId} {cs:Array Value} {w w':World} (h:BoxC b ty cs w) (hb:w'.heap[b]?=w.heap[b]?):BoxC b ty cs w':=hb.trans h
theorem BoxC.bel {b:Nat} {ty:TypeId} {cs:Array Value} {w w':World} (h:BoxC b ty cs w) (k:Bel w w'):BoxC b ty cs w':=h.kept (k.block b h.lt)
theorem BoxC.but {b:Nat} {ty:TypeId} {cs:Array Value} {w w':World} {M:List Nat} (h:BoxC b ty cs w) (k:But M w w') (hm:b∉M):BoxC b ty cs w':=h.kept (k.block b h.lt hm)
theorem BoxC.cell {b:Nat} {ty:TypeId} {cs:Array Value} {w:World} (h:BoxC b ty cs w) (j:Nat) {u:Value} (hj:cs[j]?=some u):w.cell? ⟨b,j,none⟩=some u:=by
 unfold BoxC at h;simp [World.cell?,h,hj]
theorem BoxC.free {b:Nat} {ty:TypeId} {cs:Array Value} {w:World} (h:BoxC b ty cs w) (j:Nat):w.frozen? ⟨b,j,none⟩=false:=by
 unfold BoxC at h;simp [World.frozen?,h]
theorem BoxC.set {b:Nat} {ty:TypeId} {cs:Array Value} {w:World} (h:BoxC b ty cs w) (j:Nat) (u:Value) {cs':Array Value} (hc:cs.setIfInBounds j u=cs'):BoxC b ty cs' (w.setCell ⟨b,j,none⟩ u):=by
 unfold BoxC at h ⊢;subst hc;have hb:b<w.heap.size:=BoxC.lt h;simp only [World.setCell,Array.getElem?_modify,h];simp
theorem BoxC.setO {b:Nat} {ty:TypeId} {cs:Array Value} {w:World} (h:BoxC b ty cs w) {a:Addr} (ha:a.block≠b) (u:Value):BoxC b ty cs (w.setCell a u):=by
 refine h.kept ?_;simp only [World.setCell,Array.getElem?_modify,if_neg ha]
theorem BoxC.alloc {b:Nat} {ty:TypeId} {cs:Array Value} {w:World} (h:BoxC b ty cs w) (o:Obj):BoxC b ty cs (w.alloc o):=h.bel ((Bel.refl w).step_alloc o)
end Go.Proofs.YtpapdkhjdelfcabGreat
namespace Go.Proofs.YtpapdkhjdelfcabGreat
open Go.RowKit
variable {K:Nat→Option Obj}
theorem WrI.box {W0:World} {p:Nat} {L:List Bool} {w:World} (h:WrI K W0 p L w) (o:Obj) (ho:∀cur,o≠ .cells cur 5 (0,0)):∃K1,K1 w.heap.size=some o∧(∀k o',K k=some o'→K1 k=some o')∧WrI K1 W0 p L (w.alloc o):=by
 have hp:=h.lt;refine ⟨fun j=>if j=w.heap.size then some o else K j,by simp,fun k o' hk=>?_,(h.later ((Bel.refl w).step_alloc o)).keep (alloc_at w o) (by omega) ho⟩
 have hne:k≠w.heap.size:=fun e=>by
  have:=h.block hk;rw [e,Array.getElem?_eq_none (Nat.le_refl _)] at this;cases this
 simp [hne,hk]
theorem WrI.cell {W0:World} {p:Nat} {L:List Bool} {w w2:World} {o:Obj} (h:WrI K W0 p L w2) (hk:K w.heap.size=some o) {j:Nat} {u:Value} (hc:(w.alloc o).cell? ⟨w.heap.size,j,none⟩=some u):w2.cell? ⟨w.heap.size,j,none⟩=some u:=
 (World.cell?_of_block (a:=⟨w.heap.size,j,none⟩) ((h.block hk).trans (alloc_at w o).symm)).trans hc
def bkB (b:BK):List Bool:=numBits b.1.size (8 * 1)++bytesBits b.1.data.toList++numBits b.2.toNat (8 * 1)
def bksB (B:List BK):List Bool:=numBits B.length (8 * 1)++B.flatMap bkB
theorem bkB_len {b:BK} (h:b.1.size≤8):(bkB b).length≤80:=by
 have:b.1.data.toList.length=b.1.size:=by rw [Array.length_toList];rfl
 simp [bkB,numBits_len,bytesBits_len];have h2:b.1.data.size=b.1.size:=rfl;omega
theorem bks_len {B:List BK} (h:∀b∈B,b.1.size≤8):(B.flatMap bkB).length≤80 * B.length:=by
 induction B with
 |nil=>simp
 |cons b B ih=>
  have h1:=bkB_len (h b (by simp));have h2:=ih (fun x hx=>h x (by simp [hx]));simp only [List.flatMap_cons,List.length_append,List.length_cons];omega
theorem bksB_len {B:List BK} (h:PoolOK B):(bksB B).length≤648:=by
 have:=bks_len (fun b hb=>(h.2 b hb).2.1);have h8:=h.1;simp only [bksB,List.length_append,numBits_len];omega
theorem putb_is (W0:World) (p:Nat) (L:List Bool) (B:List BK) (v:Value) (w:World) (h:WrI K W0 p L w) (hP:PoolAt W0 v B) (hB:PoolOK B) (hL:L.length≤1073741824):
  Calls Tryz.prog 213 #[.pointer (some ⟨p,0,none⟩),v] w (RWr K W0 p (L++bksB B)):=by
 obtain ⟨h8,hall⟩:=hB;obtain ⟨ao,cap,rfl,hc⟩:=hP.open;have H0:=Hid.mk (wint_is W0 p L B.length 1 w h (by omega) (by omega) (by omega));have HLb:=Hid.mk (fun k=>Nat.le_trans (bks_len (B:=B.take k) (fun b hb=>(hall b (List.mem_of_mem_take hb)).2.1)) (by have:=List.length_take_le' k B;omega:80 * (B.take k).length≤640));clear h hP;go_enter Tryz.func213,Tryz.ntmps213;go_wp2_with fail;refine H0.out.mono ?_;rintro e w1 ⟨rfl,hI1⟩;have HI1:=Hid.mk hI1;clear hI1 H0;go_wp2_with fail;go_loopg [12] B.length (fun r n wr=>∃k:Nat,r=B.length - k∧k≤B.length∧n= .int .i64 k∧WrI K W0 p ((L++numBits B.length (8 * 1))++(B.take k).flatMap bkB) wr)
 case atStart=>exact ⟨0,by omega,by omega,rfl,by simpa using HI1.out⟩
 case round=>
  obtain ⟨k,hr,hk,rfl,hI⟩:=hrel;have HI:=Hid.mk hI;clear hI;by_cases hlt:k<B.length
  ·obtain ⟨g,rfl,c0,c1⟩:=hc k hlt;have hBel:=HI.out.1;have c0':=hBel.cell c0;have c1':=hBel.cell c1;obtain ⟨hn1,hn2,hw1,hw2⟩:=hall _ (List.getElem_mem hlt);obtain ⟨LL,hLL⟩:∃LL,LL=((L++numBits B.length (8 * 1))++(B.take k).flatMap bkB):=⟨_,rfl⟩
   have HS:Hid ((L++numBits B.length (8 * 1))++(B.take (k+1)).flatMap bkB=((LL++numBits B[k].1.size (8 * 1))++bytesBits B[k].1.data.toList)++numBits B[k].2.toNat (8 * 1)):=by
    show _=_;rw [hLL,List.take_succ_eq_append_getElem hlt,List.flatMap_append];simp [bkB]
   have hll:LL.length≤1073742720:=by
    have:=HLb.out k;rw [hLL];simp only [List.length_append,numBits_len];omega
   rw [←hLL] at HI;clear hLL;generalize B[k].1=idk at *;generalize B[k].2=wk at *;obtain ⟨m,rfl⟩:∃m:Nat,wk=(m:Int):=⟨wk.toNat,by omega⟩;obtain ⟨K1,hk1,hk2,hI'⟩:=HI.out.box (.cells #[.string idk,.int .i64 (m:Int)] 75) (fun cur e=>by injection e with _ e;revert e;decide);have H1:=Hid.mk (wint_is W0 p LL idk.size 1 _ hI' (by omega) (by omega) (by omega));have HK1:=Hid.mk hk1;have HK2:=Hid.mk hk2;clear hc c0 c1 hBel HLb HI1 hall hI' hk1 hk2 HI;go_wp2_with fail;refine H1.out.mono ?_;rintro e w2 ⟨rfl,hI2⟩;have H2:=Hid.mk (wtext_is W0 p (LL++numBits idk.size (8 * 1)) idk w2 hI2 (by simp only [List.length_append,numBits_len];omega));have a0:=hI2.cell HK1.out (j:=0) (u:= .string idk) (by simp);clear hI2 H1;go_wp2_with fail;refine H2.out.mono ?_;rintro e w3 ⟨rfl,hI3⟩;have H3:=Hid.mk (wint_is W0 p _ m 1 w3 hI3 (by simp only [List.length_append,numBits_len,bytesBits_len,Array.length_toList];have:idk.data.size=idk.size:=rfl;omega) (by omega) (by omega));have b1:=hI3.cell HK1.out (j:=1) (u:= .int .i64 (m:Int)) (by simp);clear hI3 H2 a0;go_wp2_with fail;refine H3.out.mono ?_;rintro e w4 ⟨rfl,hI4⟩;have HI4:=Hid.mk (hI4.drop HK2.out);clear hI4 H3 b1;go_wp2_with fail;go_roundg (B.length - (k+1))
   case measure=>omega
   case rel=>
    refine ⟨k+1,rfl,by omega,by go_num,?_⟩;rw [HS.out];exact HI4.out
  ·have HE:Hid ((L++numBits B.length (8 * 1))++(B.take k).flatMap bkB=L++bksB B):=by
    show _=_;rw [List.take_of_length_le (by omega),bksB,List.append_assoc]
   clear hc HLb HI1
   go_wp2
   go_end0
   refine ⟨rfl,?_⟩
   rw [←HE.out]
   exact HI.out
end Go.Proofs.YtpapdkhjdelfcabGreat
namespace Go.Proofs.YtpapdkhjdelfcabGreat
open Go.RowKit
variable {K:Nat→Option Obj}
def hasP (a:Int):Bool:=a==2||a==4
theorem hasp_is (a:Int) (w:World):Calls Tryz.prog 224 #[.int .i64 a] w (RShort w (hasP a)):=by
 unfold hasP;go_enter Tryz.func224,Tryz.ntmps224;cases h2:(a==2)
 ·go_wp2;go_ret;exact ⟨by simp,by (repeat (first|exact Bel.refl _|assumption|refine Bel.step_alloc ?_ _|refine Bel.step_drew ?_|refine Bel.step_drewN ?_ _|refine Bel.step_set ?_ (by simp <;>omega) _|refine Bel.trans ?_ (by assumption)))⟩
 ·go_wp2;go_ret;exact ⟨by simp,by (repeat (first|exact Bel.refl _|assumption|refine Bel.step_alloc ?_ _|refine Bel.step_drew ?_|refine Bel.step_drewN ?_ _|refine Bel.step_set ?_ (by simp <;>omega) _|refine Bel.trans ?_ (by assumption)))⟩
def blen (y:Nat):Nat:=if y=0 then 0 else if y=1 then 1 else 2
def plb (n:Nat):Nat:=1+blen ((n - 1) / 2)
theorem placeb_is (n:Nat) (w:World) (hn:n≤8):Calls Tryz.prog 225 #[.int .i64 (n:Int)] w (RNat w (plb n)):=by
 have hq:((n:Int) - 1).tdiv 2=(((n - 1) / 2:Nat):Int):=by
  rcases n with _|n
  ·decide
  ·rw [show ((n+1:Nat):Int) - 1=(n:Int) by omega,show n+1 - 1=n by omega];rfl
 obtain ⟨y0,hy0⟩:∃y,y=(n - 1) / 2:=⟨_,rfl⟩;have hy3:y0≤3:=by omega
 have HP:Hid (plb n=1+blen y0):=by show _=_;rw [plb,hy0]
 have HP3:Hid (plb n≤3):=by show _≤_;rw [HP.out];unfold blen;split <;>(try split)<;>omega
 rw [←hy0] at hq;clear hy0;go_enter Tryz.func225,Tryz.ntmps225;go_wp2;go_loopg [3,4] y0 (fun r x d wr=>w=wr∧∃a y:Nat,r=y∧y≤3∧a≤10∧x= .int .i64 (a:Int)∧d= .int .i64 (y:Int)∧a+blen y=plb n)
 case atStart=>exact ⟨rfl,1,y0,rfl,hy3,by omega,rfl,by go_num,HP.out.symm⟩
 case round=>
  obtain ⟨rfl,a,y,hr,hy,ha,rfl,rfl,he⟩:=hrel;have HE:=Hid.mk he;clear he hq;by_cases h0:y=0
  ·subst h0;go_wp2;go_ret;exact ⟨by have:=HE.out;simp [blen] at this;simp [this],by (repeat (first|exact Bel.refl _|assumption|refine Bel.step_alloc ?_ _|refine Bel.step_drew ?_|refine Bel.step_drewN ?_ _|refine Bel.step_set ?_ (by simp <;>omega) _|refine Bel.trans ?_ (by assumption)))⟩
  ·have hy2:((y:Int)).tdiv 2=((y / 2:Nat):Int):=rfl;have hpos:(0:Int)<(y:Int):=by omega
   go_wp2_with fail;go_roundg (y / 2)
   case measure=>omega
   case rel => exact ⟨rfl, a + 1, y / 2, rfl, by omega, by have := HE.out; have := HP3.out; omega, by go_num, by go_num, by
     rw [← HE.out]
     unfold blen
     have : y = 1 ∨ y = 2 ∨ y = 3 := by omega
     rcases this with h | h | h <;> subst h <;> simp⟩
end Go.Proofs.YtpapdkhjdelfcabGreat
