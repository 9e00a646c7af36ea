import Derived.Test.YtpapdkhjdelfcabGreatLBX
namespace Go.Proofs.YtpapdkhjdelfcabGreat
open Go.RowKit
set_option maxRecDepth 100000
set_option maxHeartbeats 4000000
theorem Zc (W0:Aw) (s:Nat) (x:WG) (w:World) (h:Ao W0 s x w) (hs:s≤150000):
  Calls Tryz.prog 27 #[.pointer (some ⟨x.p,0,none⟩)] w (Ew w fun b=>b=true):=by
 have h10:=h.2.2.2.2.2.2.2.2.2.1;have h11:=h.2.2.2.2.2.2.2.2.2.2.1;have hn:=h.2.2.2.2.2.2.2.2.2.2.2.1.2.2;have c8:=h.1.1 8 _ rfl;have c9:=h.1.1 9 _ rfl;obtain ⟨ao,ca,hva⟩:=CP h10;obtain ⟨bo,cb,hvb⟩:=CP h11
 have hrd:Hid (∀j,j<x.lss.length→∃ga gb g1 g2 L,ao=some ⟨ga,0,none⟩∧bo=some ⟨gb,0,none⟩∧w.cell? ⟨ga,j,none⟩=some (.slice (some ⟨g1,0,none⟩) L L)∧w.cell? ⟨gb,j,none⟩=some (.slice (some ⟨g2,0,none⟩) L L)∧∀wx,Aa w wx→Calls Tryz.prog 56 #[.slice (some ⟨g1,0,none⟩) L L,.slice (some ⟨g2,0,none⟩) L L] wx (Ew wx (Co True))):=fun j hj=>by
  obtain ⟨ga,ca',hva', -, -,hca⟩:=Fo h10 (by omega);obtain ⟨gb,cb',hvb', -, -,hcb⟩:=Fo h11 (by omega);rw [hva] at hva';rw [hvb] at hvb';simp only [Value.slice.injEq,true_and] at hva' hvb';have hl:=h.2.2.2.2.2.2.2.2.2.2.2.2.1 _ (jJ hj);refine ⟨ga,gb,(x.lss[j]).g1,(x.lss[j]).g2,(x.lss[j]).T.length,hva'.1,hvb'.1,(hca j hj).trans (by simp [hj,sl]),(hcb j hj).trans (by simp [hj,sl]),fun wx b=>?_⟩;refine (LQ (x.lss[j]).T (x.lss[j]).T _ _ wx (Ap.of_owns (BG hl.1 b)) (Ap.of_owns (BG hl.2.1 b)) hl.2.2 hl.2.2).mono ?_;rintro e w' ⟨b2,h1,h2,h3⟩;exact ⟨b2,h1,h2,⟨fun _=>trivial,fun _=>h3.2 rfl⟩⟩
 rw [hva] at c8;rw [hvb] at c9;generalize x.p=p at *;generalize x.lss.length=n at *;have hpw:=jF c8;clear h h10 h11 hva hvb;go_enter Tryz.func27,Tryz.ntmps27;go_wp2;go_loopg [3] n (fun r i wr=>Aa w wr∧∃k:Nat,r=n - k∧k≤n∧i= .int .i64 k)
 case atStart=>exact ⟨jD _,0,by omega,by omega,rfl⟩
 case round=>
  obtain ⟨hb,k,hr,hk,rfl⟩:=hrel;have d8:=hb.cell c8;have d9:=hb.cell c9;by_cases hlt:k<n
  ·have hltb:decide ((k:Int)<(n:Int))=true:=jL (by omega);obtain ⟨ga,gb,g1,g2,L,rfl,rfl,q1,q2,hsm⟩:=hrd.out k hlt;have r1:=hb.cell q1;have r2:=hb.cell q2;have hsm2:=fun wx (b:Aa wr wx)=>hsm wx (hb.trans b)
   clear hrd hsm q1 q2;go_wp2_with fail;go_region_held3 (fun w'=>Aa wr w'∧w'.cell? ⟨p,8,none⟩=some (.slice (some ⟨ga,0,none⟩) n ca)∧w'.cell? ⟨p,9,none⟩=some (.slice (some ⟨gb,0,none⟩) n cb)∧w'.cell? ⟨ga,k,none⟩=some (.slice (some ⟨g1,0,none⟩) L L)∧w'.cell? ⟨gb,k,none⟩=some (.slice (some ⟨g2,0,none⟩) L L)) ((exact ⟨by solve_by_elim [jA,jB,jC,jD,jE],Aa.cell (a:=wr) (by solve_by_elim [jA,jB,jC,jD,jE]) d8,Aa.cell (a:=wr) (by solve_by_elim [jA,jB,jC,jD,jE]) d9,Aa.cell (a:=wr) (by solve_by_elim [jA,jB,jC,jD,jE]) r1,Aa.cell (a:=wr) (by solve_by_elim [jA,jB,jC,jD,jE]) r2⟩)) ((go_at_call 56;refine (hsm2 _ (by solve_by_elim [jA,jB,jC,jD,jE])).mono ?_;rintro e w2 ⟨b,rfl,hb2,hbt⟩;obtain rfl:b=true:=(by first|exact hbt.2 trivial|simpa [Co] using hbt)));have hbr:Aa wr w2:=by solve_by_elim [jA,jB,jC,jD,jE]
   have hbw:=hb.trans hbr;clear hsm2;go_wp2;go_roundg (n - (k+1))
   case measure=>omega
   case rel=>exact ⟨hbw,k+1,rfl,by omega,by go_num⟩
  ·have hltb:decide ((k:Int)<(n:Int))=false:=jK (by omega);clear hrd;go_wp2;go_ret;exact ⟨_,rfl,hb,rfl⟩
set_option linter.unusedVariables false
theorem VB (v:Value) (w:World):Calls Tryz.prog 49 #[v] w fun e w'=>e= .returned (.tuple #[])∧w=w':=by
 go_enter Tryz.func49,Tryz.ntmps49;go_wp2;go_end0;exact ⟨rfl,rfl⟩
def CZ (k:Int):Prop:=k=3∨k=4∨k=5∨k=6∨k=9∨k=10∨k=11
def BL (W0:Aw) (p s:Nat) (k:Int) (e:Ending) (w':World):Prop:=∃b:Bool,e= .returned (.bool b)∧(CZ k→b=true)∧∃x,Ao W0 s x w'∧x.p=p
theorem Hg.step {W0:Aw} {p s:Nat} {k:Int} {e:Ending} {w':World} (h:Hg W0 p s e w'):BL W0 p s k e w':=⟨true,h.1,fun _=>rfl,h.2⟩
theorem Cc.step {W0:Aw} {p s:Nat} {k:Int} {e:Ending} {w':World} (h:Cc W0 p s e w') (hk:¬CZ k):BL W0 p s k e w':=by
 obtain ⟨b,h1,h2⟩:=h;exact ⟨b,h1,fun e=>absurd e hk,h2⟩
theorem Fi.step {W0:Aw} {s:Nat} {k:Int} {x:WG} {w wx:World} (h:Ao W0 s x w) (b:Aa w wx) (hs:s≤69999) (j:Nat) (hj:j<x.prs.length) {e:Ending} {w':World} (hr:Fi W0.heap.size x.M x.prs[j] wx e w'):BL W0 x.p (s+1) k e w':=
 ⟨true,hr.1,fun _=>rfl,(h.later b).rpr j hj (hr.rpr ((h.later b).dpre j hj hs) (h.even j hj))⟩
theorem IX.step {W0:Aw} {s:Nat} {k:Int} {x:WG} {w wx:World} (h:Ao W0 s x w) (b:Aa w wx) (j:Nat) (hj:j<x.prs.length) {e:Ending} {w':World} (hr:IX W0.heap.size x.M x.prs[j] wx e w'):BL W0 x.p (s+1) k e w':=
 ⟨true,hr.1,fun _=>rfl,(h.later b).rpr j hj hr.2⟩
theorem Rt (W0:Aw) (s:Nat) (x:WG) (k A B C:Int) (S:ByteArray) (w:World) (h:Ao W0 s x w) (hs:s≤69999) (hA:Aj A) (hB:Aj B) (hC:Aj C) (hS:S.size≤65536) (hk:k=1∨k=2∨k=18∨k=19∨k=20∨k=21∨k=25):
  Calls Tryz.prog 26 #[.pointer (some ⟨x.p,0,none⟩),AB k A B C S] w (BL W0 x.p (s+1) k):=by
 have how:=fun wx (b:Aa w wx)=>S7 W0 s x k A B C S wx (h.later b) (by omega) hA hB hC (by omega) hk
 generalize x.p=p at *;clear h hk;unfold AB at *;go_enter Tryz.func26,Tryz.ntmps26;go_wp2_with fail;refine (how _ (by solve_by_elim [jA,jB,jC,jD,jE])).mono ?_;rintro e w1 ⟨rfl,hx⟩;have HX:=jp hx;clear hx how;go_wp2;go_ret;exact ⟨true,rfl,fun _=>rfl,HX.out⟩
theorem step_new (W0:Aw) (s:Nat) (x:WG) (A B C:Int) (S:ByteArray) (w:World) (h:Ao W0 s x w) (hs:s≤69999) (hA:Aj A) (hB:Aj B) (hC:Aj C) (hS:S.size≤65536):
  Calls Tryz.prog 26 #[.pointer (some ⟨x.p,0,none⟩),AB 3 A B C S] w (BL W0 x.p (s+1) 3):=by
 have hno:=fun wx=>Gu x.p 3 A B C S wx (by simp)
 have hmd:=fun wx (b:Aa w wx)=>(Y9 W0 s x wx (h.later b) (by omega)).mono (fun e w' hr=>(show BL W0 x.p (s+1) 3 e w' from ⟨true,hr.1,fun _=>rfl,hr.2⟩))
 generalize x.p=p at *;clear h;unfold AB at *;go_enter Tryz.func26,Tryz.ntmps26;go_wp2_with fail;obtain ⟨wo,hwo,hbo,o0,o1,o2,o3,o4⟩:=BV w (.int .i64 3) (.int .i64 A) (.int .i64 B) (.int .i64 C) (.string S) 32;rw [hwo];clear hwo;generalize w.heap.size=po at o0 o1 o2 o3 o4 ⊢;refine (hno _).mono ?_;rintro e w1 ⟨rfl,hb1⟩;have j0:=hb1.cell o0;have hbw1:=hbo.trans hb1;clear hno hbo hb1 o0 o1 o2 o3 o4;go_wp2_with fail;refine (hmd _ hbw1).mono ?_;rintro e w2 ⟨b,rfl,hbt,hx⟩;have HX:=jp hx;have HB:=jp hbt;clear hx hbt hmd;go_wp2;go_ret;exact ⟨b,rfl,HB.out,HX.out⟩
theorem Rn (W0:Aw) (s:Nat) (x:WG) (A B C:Int) (S:ByteArray) (w:World) (h:Ao W0 s x w) (hs:s≤69999) (hA:Aj A) (hB:Aj B) (hC:Aj C) (hS:S.size≤65536):
  Calls Tryz.prog 26 #[.pointer (some ⟨x.p,0,none⟩),AB 22 A B C S] w (BL W0 x.p (s+1) 22):=by
 have hno:=fun wx=>Gu x.p 22 A B C S wx (by simp)
 have him:=fun wx (b:Aa w wx)=>(Zj W0 s x A B C S wx (h.later b) (by omega) hA hB).mono (fun e w' hr=>(show BL W0 x.p (s+1) 22 e w' from hr.step (by simp [CZ])))
 generalize x.p=p at *;clear h;unfold AB at *;go_enter Tryz.func26,Tryz.ntmps26;go_wp2_with fail;obtain ⟨wo,hwo,hbo,o0,o1,o2,o3,o4⟩:=BV w (.int .i64 22) (.int .i64 A) (.int .i64 B) (.int .i64 C) (.string S) 32;rw [hwo];clear hwo;generalize w.heap.size=po at o0 o1 o2 o3 o4 ⊢;refine (hno _).mono ?_;rintro e w1 ⟨rfl,hb1⟩;have j0:=hb1.cell o0;have j1:=hb1.cell o1;have j2:=hb1.cell o2;have j3:=hb1.cell o3;have j4:=hb1.cell o4;have hbw1:=hbo.trans hb1;clear hno hbo hb1 o0 o1 o2 o3 o4;go_wp2_with fail;refine (him _ hbw1).mono ?_;rintro e w2 ⟨b,rfl,hbt,hx⟩;have HX:=jp hx;have HB:=jp hbt;clear hx hbt him;go_wp2;go_ret;exact ⟨b,rfl,HB.out,HX.out⟩
theorem TR (W0:Aw) (s:Nat) (x:WG) (A B C:Int) (S:ByteArray) (w:World) (h:Ao W0 s x w) (hs:s≤69999) (hA:Aj A) (hB:Aj B) (hC:Aj C) (hS:S.size≤65536):
  Calls Tryz.prog 26 #[.pointer (some ⟨x.p,0,none⟩),AB 23 A B C S] w (BL W0 x.p (s+1) 23):=by
 have hno:=fun wx=>Gu x.p 23 A B C S wx (by simp)
 have him:=fun wx (b:Aa w wx)=>(Ta W0 s x A B C S wx (h.later b) (by omega) hA hB).mono (fun e w' hr=>(show BL W0 x.p (s+1) 23 e w' from hr.step (by simp [CZ])))
 generalize x.p=p at *;clear h;unfold AB at *;go_enter Tryz.func26,Tryz.ntmps26;go_wp2_with fail;obtain ⟨wo,hwo,hbo,o0,o1,o2,o3,o4⟩:=BV w (.int .i64 23) (.int .i64 A) (.int .i64 B) (.int .i64 C) (.string S) 32;rw [hwo];clear hwo;generalize w.heap.size=po at o0 o1 o2 o3 o4 ⊢;refine (hno _).mono ?_;rintro e w1 ⟨rfl,hb1⟩;have j0:=hb1.cell o0;have j1:=hb1.cell o1;have j2:=hb1.cell o2;have j3:=hb1.cell o3;have j4:=hb1.cell o4;have hbw1:=hbo.trans hb1;clear hno hbo hb1 o0 o1 o2 o3 o4;go_wp2_with fail;refine (him _ hbw1).mono ?_;rintro e w2 ⟨b,rfl,hbt,hx⟩;have HX:=jp hx;have HB:=jp hbt;clear hx hbt him;go_wp2;go_ret;exact ⟨b,rfl,HB.out,HX.out⟩
theorem Us (W0:Aw) (s:Nat) (x:WG) (A B C:Int) (S:ByteArray) (w:World) (h:Ao W0 s x w) (hs:s≤69999) (hA:Aj A) (hB:Aj B) (hC:Aj C) (hS:S.size≤65536):
  Calls Tryz.prog 26 #[.pointer (some ⟨x.p,0,none⟩),AB 24 A B C S] w (BL W0 x.p (s+1) 24):=by
 have hno:=fun wx=>Gu x.p 24 A B C S wx (by simp)
 have him:=fun wx (b:Aa w wx)=>(TY W0 s x A B C S wx (h.later b) (by omega) hA hB).mono (fun e w' hr=>(show BL W0 x.p (s+1) 24 e w' from hr.step (by simp [CZ])))
 generalize x.p=p at *;clear h;unfold AB at *;go_enter Tryz.func26,Tryz.ntmps26;go_wp2_with fail;obtain ⟨wo,hwo,hbo,o0,o1,o2,o3,o4⟩:=BV w (.int .i64 24) (.int .i64 A) (.int .i64 B) (.int .i64 C) (.string S) 32;rw [hwo];clear hwo;generalize w.heap.size=po at o0 o1 o2 o3 o4 ⊢;refine (hno _).mono ?_;rintro e w1 ⟨rfl,hb1⟩;have j0:=hb1.cell o0;have j1:=hb1.cell o1;have j2:=hb1.cell o2;have j3:=hb1.cell o3;have j4:=hb1.cell o4;have hbw1:=hbo.trans hb1;clear hno hbo hb1 o0 o1 o2 o3 o4;go_wp2_with fail;refine (him _ hbw1).mono ?_;rintro e w2 ⟨b,rfl,hbt,hx⟩;have HX:=jp hx;have HB:=jp hbt;clear hx hbt him;go_wp2;go_ret;exact ⟨b,rfl,HB.out,HX.out⟩
theorem Fc (W0:Aw) (s:Nat) (x:WG) (k A B C:Int) (S:ByteArray) (w:World) (h:Ao W0 s x w) (hs:s≤69999) (hA:Aj A) (hB:Aj B) (hC:Aj C) (hS:S.size≤65536) (hk:k=4∨k=5∨k=6∨k=8∨k=9∨k=10∨k=11∨k=12∨k=14∨k=15∨k=16∨k=17):
  Calls Tryz.prog 26 #[.pointer (some ⟨x.p,0,none⟩),AB k A B C S] w (BL W0 x.p (s+1) k):=by
 have hno:=fun wx=>Gu x.p k A B C S wx ⟨by omega,by omega,by omega,by omega,by omega,by omega,by omega⟩
 have hend:Hid (∀wx (b:Bool),Aa w wx→(CZ k→b=true)→BL W0 x.p (s+1) k (.returned (.bool b)) wx):=fun wx b hb hk=>⟨b,rfl,hk,x,(h.later hb).up (by omega),rfl⟩
 have c6:=h.1.1 6 _ rfl;by_cases hn0:x.prs.length=0
 ·obtain ⟨ao,cap,hv⟩:=CP h.2.2.2.2.2.2.1;rw [hv,hn0] at c6;generalize x.p=p at *;clear h;unfold AB at *;go_enter Tryz.func26,Tryz.ntmps26;go_wp2_with fail;obtain ⟨wo,hwo,hbo,o0,o1,o2,o3,o4⟩:=BV w (.int .i64 k) (.int .i64 A) (.int .i64 B) (.int .i64 C) (.string S) 32;rw [hwo];clear hwo;generalize w.heap.size=po at o0 o1 o2 o3 o4 ⊢;have k6:=hbo.cell c6;refine (hno _).mono ?_;rintro e w1 ⟨rfl,hb1⟩;have j0:=hb1.cell o0;have j6:=hb1.cell k6;have hbw1:=hbo.trans hb1;clear hno hbo hb1 o0 o1 o2 o3 o4 k6 c6;rcases hk with rfl|rfl|rfl|rfl|rfl|rfl|rfl|rfl|rfl|rfl|rfl|rfl
  all_goals
   go_wp2;go_ret;exact hend.out _ _ (by solve_by_elim [jA,jB,jC,jD,jE]) (fun _=>rfl)
 ·have hnb:((x.prs.length:Int)==0)=false:=by rw [jI];omega
  obtain ⟨g,cap,hv,hcell⟩:=h.pick (by omega);have hpl:=h.2.2.2.2.2.2.2.2.2.2.2.1.1;have hpk:=fun wx=>FJ A x.prs.length wx hA (by omega) (by omega)
  obtain ⟨r1,r2⟩:=FQ A x.prs.length (by omega);obtain ⟨m,hm⟩:=jM r1;rw [hm] at hpk;have hml:m<x.prs.length:=by omega
  have cm:=hcell m hml;rw [hv] at c6;have hact4:=fun wx (b:Aa w wx)=>(L8 W0.heap.size x.M x.prs[m] 4 A B C S wx ((h.later b).dpre m hml hs) (by unfold maxLen;omega) (by omega)).mono (fun e w' hr=>Fi.step (k:=4) h b hs m hml hr)
  have hact5:=fun wx (b:Aa w wx)=>(L8 W0.heap.size x.M x.prs[m] 5 A B C S wx ((h.later b).dpre m hml hs) (by unfold maxLen;omega) (by omega)).mono (fun e w' hr=>Fi.step (k:=5) h b hs m hml hr)
  have hact6:=fun wx (b:Aa w wx)=>(L8 W0.heap.size x.M x.prs[m] 6 A B C S wx ((h.later b).dpre m hml hs) (by unfold maxLen;omega) (by omega)).mono (fun e w' hr=>Fi.step (k:=6) h b hs m hml hr)
  have hact8:=fun wx (b:Aa w wx)=>(QH W0 s x m hml A B C S wx (h.later b) (by omega) hB).mono (fun e w' hr=>(show BL W0 x.p (s+1) 8 e w' from hr.step (by simp [CZ])))
  have hact9:=fun wx (b:Aa w wx)=>(WF W0 s x m hml A B C S wx (h.later b) (by omega)).mono (fun e w' hr=>(show BL W0 x.p (s+1) 9 e w' from hr.step))
  have hact10:=fun wx (b:Aa w wx)=>(R3 W0 s x m hml A B C S wx (h.later b) hS).mono (fun e w' hr=>(show BL W0 x.p (s+1) 10 e w' from hr.step))
  have hact11:=fun wx (b:Aa w wx)=>(TN W0.heap.size x.M x.prs[m] B wx ((h.later b).dpre m hml hs) (h.even m hml) (h.later b).2.1.size).mono (fun e w' hr=>IX.step (k:=11) h b m hml hr)
  have hact12:=fun wx (b:Aa w wx)=>(Q3 W0 s x m hml A B C S wx (h.later b) hs).mono (fun e w' hr=>(show BL W0 x.p (s+1) 12 e w' from hr.step (by simp [CZ])))
  have hact14:=fun wx (b:Aa w wx)=>(Wp W0 s x m hml A B C S wx (h.later b) hs hC).mono (fun e w' hr=>(show BL W0 x.p (s+1) 14 e w' from hr.step (by simp [CZ])))
  have hact15:=fun wx (b:Aa w wx)=>(Xz W0 s x m hml A B C S wx (h.later b) hs).mono (fun e w' hr=>(show BL W0 x.p (s+1) 15 e w' from hr.step (by simp [CZ])))
  have hact16:=fun wx (b:Aa w wx)=>(WA W0 s x m hml A B C S wx (h.later b) hs).mono (fun e w' hr=>(show BL W0 x.p (s+1) 16 e w' from hr.step (by simp [CZ])))
  have hact17:=fun wx (b:Aa w wx)=>(Sz W0 s x m hml A B C S wx (h.later b) hs hS).mono (fun e w' hr=>(show BL W0 x.p (s+1) 17 e w' from hr.step (by simp [CZ])))
  clear h hcell r1 r2 hm;generalize x.prs[m]=y at *;generalize x.M=M0 at *;generalize x.p=p at *;generalize x.prs.length=n at *;unfold AB at *;go_enter Tryz.func26,Tryz.ntmps26;go_wp2_with fail;obtain ⟨wo,hwo,hbo,o0,o1,o2,o3,o4⟩:=BV w (.int .i64 k) (.int .i64 A) (.int .i64 B) (.int .i64 C) (.string S) 32;rw [hwo];clear hwo;generalize w.heap.size=po at o0 o1 o2 o3 o4 ⊢;have k6:=hbo.cell c6;have km:=hbo.cell cm;refine (hno _).mono ?_;rintro e w1 ⟨rfl,hb1⟩;have j0:=hb1.cell o0;have j1:=hb1.cell o1;have j2:=hb1.cell o2;have j3:=hb1.cell o3;have j4:=hb1.cell o4;have j6:=hb1.cell k6;have jm:=hb1.cell km;have hbw1:=hbo.trans hb1;clear hno hbo hb1 o0 o1 o2 o3 o4 k6 c6 km cm hend;rcases hk with rfl|rfl|rfl|rfl|rfl|rfl|rfl|rfl|rfl|rfl|rfl|rfl
  all_goals
   go_wp2_with fail;go_quiet ((go_at_call 47;refine Calls.quiet_of_same ((hpk _).mono fun e w2 h=>⟨h.1,h.2.symm⟩)));go_wp2_with fail
  refine (hact4 _ (by solve_by_elim [jA,jB,jC,jD,jE])).mono ?_
  rotate_left
  refine (hact5 _ (by solve_by_elim [jA,jB,jC,jD,jE])).mono ?_
  rotate_left
  refine (hact6 _ (by solve_by_elim [jA,jB,jC,jD,jE])).mono ?_
  rotate_left
  refine (hact8 _ (by solve_by_elim [jA,jB,jC,jD,jE])).mono ?_
  rotate_left
  refine (hact9 _ (by solve_by_elim [jA,jB,jC,jD,jE])).mono ?_
  rotate_left
  refine (hact10 _ (by solve_by_elim [jA,jB,jC,jD,jE])).mono ?_
  rotate_left
  refine (hact11 _ (by solve_by_elim [jA,jB,jC,jD,jE])).mono ?_
  rotate_left
  refine (hact12 _ (by solve_by_elim [jA,jB,jC,jD,jE])).mono ?_
  rotate_left
  refine (hact14 _ (by solve_by_elim [jA,jB,jC,jD,jE])).mono ?_
  rotate_left
  refine (hact15 _ (by solve_by_elim [jA,jB,jC,jD,jE])).mono ?_
  rotate_left
  refine (hact16 _ (by solve_by_elim [jA,jB,jC,jD,jE])).mono ?_
  rotate_left
  refine (hact17 _ (by solve_by_elim [jA,jB,jC,jD,jE])).mono ?_
  rotate_left
  all_goals
   rintro e w2 ⟨b,rfl,hbt,hx⟩;have HX:=jp hx;have HB:=jp hbt;clear hx hbt hact4 hact5 hact6 hact8 hact9 hact10 hact11 hact12 hact14 hact15 hact16 hact17;go_wp2;go_ret;exact ⟨b,rfl,HB.out,HX.out⟩
theorem VU (W0:Aw) (s:Nat) (x:WG) (A B C:Int) (S:ByteArray) (w:World) (h:Ao W0 s x w) (hs:s≤69999) (hA:Aj A) (hB:Aj B) (hC:Aj C) (hS:S.size≤65536):
  Calls Tryz.prog 26 #[.pointer (some ⟨x.p,0,none⟩),AB 7 A B C S] w (BL W0 x.p (s+1) 7):=by
 have hno:=fun wx=>Gu x.p 7 A B C S wx (by simp)
 have hend:Hid (∀wx (b:Bool),Aa w wx→(CZ 7→b=true)→BL W0 x.p (s+1) 7 (.returned (.bool b)) wx):=fun wx b hb hk=>⟨b,rfl,hk,x,(h.later hb).up (by omega),rfl⟩
 have c6:=h.1.1 6 _ rfl;by_cases hn0:x.prs.length=0
 ·obtain ⟨ao,cap,hv⟩:=CP h.2.2.2.2.2.2.1;rw [hv,hn0] at c6;generalize x.p=p at *;clear h;unfold AB at *;go_enter Tryz.func26,Tryz.ntmps26;go_wp2_with fail;obtain ⟨wo,hwo,hbo,o0,o1,o2,o3,o4⟩:=BV w (.int .i64 7) (.int .i64 A) (.int .i64 B) (.int .i64 C) (.string S) 32;rw [hwo];clear hwo;generalize w.heap.size=po at o0 o1 o2 o3 o4 ⊢;have k6:=hbo.cell c6;refine (hno _).mono ?_;rintro e w1 ⟨rfl,hb1⟩;have j0:=hb1.cell o0;have j6:=hb1.cell k6;have hbw1:=hbo.trans hb1;clear hno hbo hb1 o0 o1 o2 o3 o4 k6 c6;go_wp2;go_ret;exact hend.out _ _ (by solve_by_elim [jA,jB,jC,jD,jE]) (fun _=>rfl)
 ·have hnb:((x.prs.length:Int)==0)=false:=by rw [jI];omega
  obtain ⟨g,cap,hv,hcell⟩:=h.pick (by omega);have hpl:=h.2.2.2.2.2.2.2.2.2.2.2.1.1;have hpk:=fun wx=>FJ A x.prs.length wx hA (by omega) (by omega)
  obtain ⟨r1,r2⟩:=FQ A x.prs.length (by omega);obtain ⟨m,hm⟩:=jM r1;rw [hm] at hpk;have hml:m<x.prs.length:=by omega
  have cm:=hcell m hml;rw [hv] at c6;have c0y:=(h.pair_at m hml).1.1 0 _ rfl;clear h hcell r1 r2 hm;generalize x.prs[m]=y at *;generalize x.M=M0 at *;generalize x.p=p at *;generalize x.prs.length=n at *;unfold AB at *;go_enter Tryz.func26,Tryz.ntmps26;go_wp2_with fail;obtain ⟨wo,hwo,hbo,o0,o1,o2,o3,o4⟩:=BV w (.int .i64 7) (.int .i64 A) (.int .i64 B) (.int .i64 C) (.string S) 32;rw [hwo];clear hwo;generalize w.heap.size=po at o0 o1 o2 o3 o4 ⊢;have k6:=hbo.cell c6;have km:=hbo.cell cm;refine (hno _).mono ?_;rintro e w1 ⟨rfl,hb1⟩;have j0:=hb1.cell o0;have j1:=hb1.cell o1;have j2:=hb1.cell o2;have j3:=hb1.cell o3;have j4:=hb1.cell o4;have j6:=hb1.cell k6;have jm:=hb1.cell km;have hbw1:=hbo.trans hb1;clear hno hbo hb1 o0 o1 o2 o3 o4 k6 c6 km cm;go_wp2_with fail;go_quiet ((go_at_call 47;refine Calls.quiet_of_same ((hpk _).mono fun e w2 h=>⟨h.1,h.2.symm⟩)));have d0:=hbw1.cell c0y;go_wp2_with fail;refine (VB _ _).mono ?_;rintro e w2 ⟨rfl,rfl⟩;go_wp2;go_ret;exact hend.out _ _ (by solve_by_elim [jA,jB,jC,jD,jE]) (fun _=>rfl)
theorem WN (W0:Aw) (s:Nat) (x:WG) (A B C:Int) (S:ByteArray) (w:World) (h:Ao W0 s x w) (hs:s≤69999) (hA:Aj A) (hB:Aj B) (hC:Aj C) (hS:S.size≤65536):
  Calls Tryz.prog 26 #[.pointer (some ⟨x.p,0,none⟩),AB 13 A B C S] w (BL W0 x.p (s+1) 13):=by
 have hno:=fun wx=>Gu x.p 13 A B C S wx (by simp)
 have hend:Hid (∀wx (b:Bool),Aa w wx→(CZ 13→b=true)→BL W0 x.p (s+1) 13 (.returned (.bool b)) wx):=fun wx b hb hk=>⟨b,rfl,hk,x,(h.later hb).up (by omega),rfl⟩
 have c6:=h.1.1 6 _ rfl;by_cases hn0:x.prs.length=0
 ·obtain ⟨ao,cap,hv⟩:=CP h.2.2.2.2.2.2.1;rw [hv,hn0] at c6;generalize x.p=p at *;clear h;unfold AB at *;go_enter Tryz.func26,Tryz.ntmps26;go_wp2_with fail;obtain ⟨wo,hwo,hbo,o0,o1,o2,o3,o4⟩:=BV w (.int .i64 13) (.int .i64 A) (.int .i64 B) (.int .i64 C) (.string S) 32;rw [hwo];clear hwo;generalize w.heap.size=po at o0 o1 o2 o3 o4 ⊢;have k6:=hbo.cell c6;refine (hno _).mono ?_;rintro e w1 ⟨rfl,hb1⟩;have j0:=hb1.cell o0;have j6:=hb1.cell k6;have hbw1:=hbo.trans hb1;clear hno hbo hb1 o0 o1 o2 o3 o4 k6 c6;go_wp2;go_ret;exact hend.out _ _ (by solve_by_elim [jA,jB,jC,jD,jE]) (fun _=>rfl)
 ·have hnb:((x.prs.length:Int)==0)=false:=by rw [jI];omega
  obtain ⟨g,cap,hv,hcell⟩:=h.pick (by omega);have hpl:=h.2.2.2.2.2.2.2.2.2.2.2.1.1;have hpk:=fun wx=>FJ A x.prs.length wx hA (by omega) (by omega)
  obtain ⟨r1,r2⟩:=FQ A x.prs.length (by omega);obtain ⟨m,hm⟩:=jM r1;rw [hm] at hpk;have hml:m<x.prs.length:=by omega
  have cm:=hcell m hml;rw [hv] at c6;have hwat:=fun wx (b:Aa w wx)=>FI W0 s x B wx (h.later b) (by omega) hB
  have hyat:=h.pair_at m hml;have c0y:=hyat.1.1 0 _ rfl;have c8y:=hyat.1.1 8 _ rfl;have c6y:=hyat.1.1 6 _ rfl;have hvs:=hyat.2.2.2.2.2.2.1.unmask.has;have hmk:=Je (x.prs[m]).c (x.prs[m]).B hyat.2.2.2.2.1 hyat.2.2.2.1.1;have hsvc:=fun (t:ByteArray) (ht:t.size≤1099511627776) wx (b:Aa w wx)=>QW x.M (x.prs[m]).q (x.prs[m]).c (x.prs[m]).B (x.prs[m]).g.toNat t wx (by have:=hyat.2.1.later b;rw [Int.toNat_of_nonneg hyat.2.2.2.2.2.1.1];exact this) hmk hyat.2.2.2.2.1 hyat.2.2.2.1.1 (by have:=hyat.2.2.2.2.2.1.2.1;omega) ht
  have hput:=fun (t:ByteArray) (ht:t.size≤16777216) wx (b:Aa w wx)=>LH W0 s x m hml t wx (h.later b) (by omega) (by omega)
  clear hmk;have hfm1:0≤(x.prs[m]).c.formats:=by have:=hyat.2.2.2.2.1.2.2.2.2.2.2.2.2.2.2.1;omega
  have hfm3:(x.prs[m]).c.formats≤3:=hyat.2.2.2.2.1.2.2.2.2.2.2.2.2.2.2.2;clear hyat;clear h hcell r1 r2 hm;generalize x.prs[m]=y at *;generalize x.M=M0 at *;generalize x.p=p at *;generalize x.prs.length=n at *;unfold AB at *;go_enter Tryz.func26,Tryz.ntmps26;go_wp2_with fail;obtain ⟨wo,hwo,hbo,o0,o1,o2,o3,o4⟩:=BV w (.int .i64 13) (.int .i64 A) (.int .i64 B) (.int .i64 C) (.string S) 32;rw [hwo];clear hwo;generalize w.heap.size=po at o0 o1 o2 o3 o4 ⊢;have k6:=hbo.cell c6;have km:=hbo.cell cm;refine (hno _).mono ?_;rintro e w1 ⟨rfl,hb1⟩;have j0:=hb1.cell o0;have j1:=hb1.cell o1;have j2:=hb1.cell o2;have j3:=hb1.cell o3;have j4:=hb1.cell o4;have j6:=hb1.cell k6;have jm:=hb1.cell km;have hbw1:=hbo.trans hb1;clear hno hbo hb1 o0 o1 o2 o3 o4 k6 c6 km cm;go_wp2_with fail;go_quiet ((go_at_call 47;refine Calls.quiet_of_same ((hpk _).mono fun e w2 h=>⟨h.1,h.2.symm⟩)));have d0:=hbw1.cell c0y;have d8:=hbw1.cell c8y;have d6:=hbw1.cell c6y;have hya:y.a<w1.heap.size:=jF d0;go_wp2_with fail;refine (hwat _ (by solve_by_elim [jA,jB,jC,jD,jE])).mono ?_;rintro e w2 ⟨f,rfl,hb2,hsf⟩;have hb12:Aa w1 w2:=by solve_by_elim [jA,jB,jC,jD,jE]
  have hbw2:=hbw1.trans hb12;have e0:=hb12.cell d0;have e8:=hb12.cell d8;have e6:=hb12.cell d6;clear hwat hb2 d0 d8 d6;go_wp2_with fail;refine (hsvc f hsf _ (by solve_by_elim [jA,jB,jC,jD,jE])).mono ?_;rintro e w3 ⟨t3,rfl,hb3,ht3⟩;have hb23:Aa w2 w3:=by solve_by_elim [jA,jB,jC,jD,jE]
  have hbw3:=hbw2.trans hb23;have f8:=hb23.cell e8;have f6:=hb23.cell e6;have hput:=hput t3 ht3;clear hb3 hb23 e0 e8 e6 hsvc;cases hte:t3.toList.isEmpty
  ·go_wp2_with fail;refine (hput _ (by solve_by_elim [jA,jB,jC,jD,jE])).mono ?_;rintro e W4 ⟨rfl,⟨x2,h2,hp2,hy2⟩, -⟩;have g8:=hy2.1.1 8 _ rfl;have g6:=hy2.1.1 6 _ rfl;have hvs2:=hy2.2.2.2.2.2.2.1.unmask.has;have H2:Hid (∀wx (b:Bool),Aa W4 wx→BL W0 p (s+1) 13 (.returned (.bool b)) wx):=fun wx b hb=>⟨b,rfl,fun e=>absurd e (by simp [CZ]),x2,h2.later hb,hp2⟩
   clear h2 hy2 hput hvs hend f8 f6;go_wp2_with fail;go_region_held3 (fun w'=>Aa W4 w'∧w'.cell? ⟨y.a,8,none⟩=some y.vs∧w'.cell? ⟨y.a,6,none⟩=some (.int .i64 y.c.formats)) ((exact ⟨by solve_by_elim [jA,jB,jC,jD,jE],Aa.cell (a:=W4) (by solve_by_elim [jA,jB,jC,jD,jE]) g8,Aa.cell (a:=W4) (by solve_by_elim [jA,jB,jC,jD,jE]) g6⟩)) ((go_at_call 54;refine (MY y.vs y.g y.c.formats f _ (hvs2.later (by solve_by_elim [jA,jB,jC,jD,jE])) hfm1 hfm3 hsf).mono ?_;rintro e w4 ⟨m4,rfl,hb4, -⟩));have hb24:Aa W4 w4:=by solve_by_elim [jA,jB,jC,jD,jE]
   clear hb4;go_wp2
   all_goals
    go_ret;exact H2.out _ _ (by solve_by_elim [jA,jB,jC,jD,jE])
  ·clear hput;go_wp2_with fail;go_region_held3 (fun w'=>Aa w3 w'∧w'.cell? ⟨y.a,8,none⟩=some y.vs∧w'.cell? ⟨y.a,6,none⟩=some (.int .i64 y.c.formats)) ((exact ⟨by solve_by_elim [jA,jB,jC,jD,jE],Aa.cell (a:=w3) (by solve_by_elim [jA,jB,jC,jD,jE]) f8,Aa.cell (a:=w3) (by solve_by_elim [jA,jB,jC,jD,jE]) f6⟩)) ((go_at_call 54;refine (MY y.vs y.g y.c.formats f _ (hvs.later (hbw3.trans (by solve_by_elim [jA,jB,jC,jD,jE]))) hfm1 hfm3 hsf).mono ?_;rintro e w4 ⟨m4,rfl,hb4, -⟩));have hb24:Aa w3 w4:=by solve_by_elim [jA,jB,jC,jD,jE]
   have hbw4:=hbw3.trans hb24;clear hb4 hb24;go_wp2
   all_goals
    go_ret;exact hend.out _ _ (by solve_by_elim [jA,jB,jC,jD,jE]) (fun e=>absurd e (by simp [CZ]))
theorem UU (W0:Aw) (s:Nat) (x:WG) (k A B C:Int) (S:ByteArray) (w:World) (h:Ao W0 s x w) (hs:s≤69999) (hA:Aj A) (hB:Aj B) (hC:Aj C) (hS:S.size≤65536) (hk:k≠1∧k≠2∧k≠3∧k≠4∧k≠5∧k≠6∧k≠7∧k≠8∧k≠9∧k≠10∧k≠11∧k≠12∧k≠13∧k≠14∧k≠15∧k≠16∧k≠17∧k≠18∧k≠19∧k≠20∧k≠21∧k≠22∧k≠23∧k≠24∧k≠25):
  Calls Tryz.prog 26 #[.pointer (some ⟨x.p,0,none⟩),AB k A B C S] w (BL W0 x.p (s+1) k):=by
 have hno:=fun wx=>Gu x.p k A B C S wx ⟨hk.1,hk.2.1,hk.2.2.2.2.2.2.2.2.2.2.2.2.2.2.2.2.2.1,hk.2.2.2.2.2.2.2.2.2.2.2.2.2.2.2.2.2.2.1,hk.2.2.2.2.2.2.2.2.2.2.2.2.2.2.2.2.2.2.2.1,hk.2.2.2.2.2.2.2.2.2.2.2.2.2.2.2.2.2.2.2.2.1,hk.2.2.2.2.2.2.2.2.2.2.2.2.2.2.2.2.2.2.2.2.2.2.2.2⟩
 obtain ⟨q1,q2,q3,q4,q5,q6,q7,q8,q9,q10,q11,q12,q13,q14,q15,q16,q17,q18,q19,q20,q21,q22,q23,q24,q25⟩:=hk;have z1:(k==1)=false:=by rw [jI];exact q1
 have z2:(k==2)=false:=by rw [jI];exact q2
 have z3:(k==3)=false:=by rw [jI];exact q3
 have z4:(k==4)=false:=by rw [jI];exact q4
 have z5:(k==5)=false:=by rw [jI];exact q5
 have z6:(k==6)=false:=by rw [jI];exact q6
 have z7:(k==7)=false:=by rw [jI];exact q7
 have z8:(k==8)=false:=by rw [jI];exact q8
 have z9:(k==9)=false:=by rw [jI];exact q9
 have z10:(k==10)=false:=by rw [jI];exact q10
 have z11:(k==11)=false:=by rw [jI];exact q11
 have z12:(k==12)=false:=by rw [jI];exact q12
 have z13:(k==13)=false:=by rw [jI];exact q13
 have z14:(k==14)=false:=by rw [jI];exact q14
 have z15:(k==15)=false:=by rw [jI];exact q15
 have z16:(k==16)=false:=by rw [jI];exact q16
 have z17:(k==17)=false:=by rw [jI];exact q17
 have z18:(k==18)=false:=by rw [jI];exact q18
 have z19:(k==19)=false:=by rw [jI];exact q19
 have z20:(k==20)=false:=by rw [jI];exact q20
 have z21:(k==21)=false:=by rw [jI];exact q21
 have z22:(k==22)=false:=by rw [jI];exact q22
 have z23:(k==23)=false:=by rw [jI];exact q23
 have z24:(k==24)=false:=by rw [jI];exact q24
 have z25:(k==25)=false:=by rw [jI];exact q25
 clear q1 q2 q3 q4 q5 q6 q7 q8 q9 q10 q11 q12 q13 q14 q15 q16 q17 q18 q19 q20 q21 q22 q23 q24 q25;have hend:Hid (∀wx (b:Bool),Aa w wx→(CZ k→b=true)→BL W0 x.p (s+1) k (.returned (.bool b)) wx):=fun wx b hb hk=>⟨b,rfl,hk,x,(h.later hb).up (by omega),rfl⟩
 have c6:=h.1.1 6 _ rfl;by_cases hn0:x.prs.length=0
 ·obtain ⟨ao,cap,hv⟩:=CP h.2.2.2.2.2.2.1;rw [hv,hn0] at c6;generalize x.p=p at *;clear h;unfold AB at *;go_enter Tryz.func26,Tryz.ntmps26;go_wp2_with fail;obtain ⟨wo,hwo,hbo,o0,o1,o2,o3,o4⟩:=BV w (.int .i64 k) (.int .i64 A) (.int .i64 B) (.int .i64 C) (.string S) 32;rw [hwo];clear hwo;generalize w.heap.size=po at o0 o1 o2 o3 o4 ⊢;have k6:=hbo.cell c6;refine (hno _).mono ?_;rintro e w1 ⟨rfl,hb1⟩;have j0:=hb1.cell o0;have j6:=hb1.cell k6;have hbw1:=hbo.trans hb1;clear hno hbo hb1 o0 o1 o2 o3 o4 k6 c6;go_wp2;go_ret;exact hend.out _ _ (by solve_by_elim [jA,jB,jC,jD,jE]) (fun _=>rfl)
 ·have hnb:((x.prs.length:Int)==0)=false:=by rw [jI];omega
  obtain ⟨g,cap,hv,hcell⟩:=h.pick (by omega);have hpl:=h.2.2.2.2.2.2.2.2.2.2.2.1.1;have hpk:=fun wx=>FJ A x.prs.length wx hA (by omega) (by omega)
  obtain ⟨r1,r2⟩:=FQ A x.prs.length (by omega);obtain ⟨m,hm⟩:=jM r1;rw [hm] at hpk;have hml:m<x.prs.length:=by omega
  have cm:=hcell m hml;rw [hv] at c6;clear h hcell r1 r2 hm;generalize x.prs[m]=y at *;generalize x.M=M0 at *;generalize x.p=p at *;generalize x.prs.length=n at *;unfold AB at *;go_enter Tryz.func26,Tryz.ntmps26;go_wp2_with fail;obtain ⟨wo,hwo,hbo,o0,o1,o2,o3,o4⟩:=BV w (.int .i64 k) (.int .i64 A) (.int .i64 B) (.int .i64 C) (.string S) 32;rw [hwo];clear hwo;generalize w.heap.size=po at o0 o1 o2 o3 o4 ⊢;have k6:=hbo.cell c6;have km:=hbo.cell cm;refine (hno _).mono ?_;rintro e w1 ⟨rfl,hb1⟩;have j0:=hb1.cell o0;have j1:=hb1.cell o1;have j2:=hb1.cell o2;have j3:=hb1.cell o3;have j4:=hb1.cell o4;have j6:=hb1.cell k6;have jm:=hb1.cell km;have hbw1:=hbo.trans hb1;clear hno hbo hb1 o0 o1 o2 o3 o4 k6 c6 km cm;go_wp2_with fail;go_quiet ((go_at_call 47;refine Calls.quiet_of_same ((hpk _).mono fun e w2 h=>⟨h.1,h.2.symm⟩)));go_wp2;go_ret;exact hend.out _ _ (by solve_by_elim [jA,jB,jC,jD,jE]) (fun _=>rfl)
end Go.Proofs.YtpapdkhjdelfcabGreat
