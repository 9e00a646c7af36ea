import Derived.Test.YtpapdkhjdelfcabGreatLBR
import Derived.Test.YtpapdkhjdelfcabGreatLBS
import Derived.Test.YtpapdkhjdelfcabGreatLBU
import Derived.Deep.RegionHeld3
namespace Go.Proofs.YtpapdkhjdelfcabGreat
open Go.RowKit
set_option maxRecDepth 100000
set_option maxHeartbeats 4000000
def FF (k:Int) (B:List BK) (S:ByteArray) (n:Int):List BK:=if k=4 then Dj B S n else if k=5 then EQ B S else Er B S n
def EG (k:Int) (B:List BK) (S:ByteArray) (n:Int):Int:=if k=4 then Cw B S n else if k=5 then Ej B S else Dy B S n
theorem Yc {B:List BK} {S:ByteArray} {n k:Int} {j:Nat} {there:Bool} (hk:k=4∨k=5∨k=6) (hB:AH B) (h:Ez B S j there):Cf B k S n j there=(FF k B S n,EG k B S n):=by
 rcases hk with rfl|rfl|rfl
 ·exact Qw hB h
 ·exact TI hB h
 ·exact Sl hB h
theorem AH.op {B:List BK} (h:AH B) (k:Int) (S:ByteArray) (n:Int):AH (FF k B S n):=by
 unfold FF;split
 ·exact h.add S n
 ·split
  ·exact h.rem S
  ·exact h.set S n
theorem UL {B:List BK} {S:ByteArray} {n k:Int} (hk:k=4∨k=5∨k=6) (h0:¬EG k B S n=0):FF k B S n=B:=by
 rcases hk with rfl|rfl|rfl
 ·have h1:¬Cw B S n=0:=h0;show Dj B S n=B;simp [Dj,h1]
 ·have h1:¬Ej B S=0:=h0;show EQ B S=B;simp [EQ,h1]
 ·have h1:¬Dy B S n=0:=h0;show Er B S n=B;simp [Er,h1]
theorem Ut {k:Int} (e:k=4) (M:List Nat) (q:Nat) (c:Ac) (B:List BK) (g:Int) {L:List Nat} {ps:List (Nat×AF×List Nat)} (id:ByteArray) (n:Int) (w:World) (hS:AG M q ⟨c,B,g,L,ps⟩ w) (hM:∀k∈M,k<w.heap.size) (hc:c.OK) (hB:AH B) (hg0:0≤g) (hg1:g≤4611686018427387904):
  Calls Tryz.prog 24 #[.pointer (some ⟨q,0,none⟩),.string id,.int .i64 n] w (Ia M q ⟨c,FF k B id n,if EG k B id n=0 then g+1 else g,L,ps⟩ (EG k B id n) w):=by
 subst e;exact Se M q c B g id n w hS hM hc hB hg0 hg1
theorem VG {k n:Int} (e:k=5) (M:List Nat) (q:Nat) (c:Ac) (B:List BK) (g:Int) {L:List Nat} {ps:List (Nat×AF×List Nat)} (id:ByteArray) (w:World) (hS:AG M q ⟨c,B,g,L,ps⟩ w) (hM:∀k∈M,k<w.heap.size) (hc:c.OK) (hB:AH B) (hg0:0≤g) (hg1:g≤4611686018427387904):
  Calls Tryz.prog 95 #[.pointer (some ⟨q,0,none⟩),.string id] w (Ia M q ⟨c,FF k B id n,if EG k B id n=0 then g+1 else g,L,ps⟩ (EG k B id n) w):=by
 subst e;exact Wi M q c B g id w hS hM hc hB hg0 hg1
theorem Yb {k:Int} (e:k=6) (M:List Nat) (q:Nat) (c:Ac) (B:List BK) (g:Int) {L:List Nat} {ps:List (Nat×AF×List Nat)} (id:ByteArray) (n:Int) (w:World) (hS:AG M q ⟨c,B,g,L,ps⟩ w) (hM:∀k∈M,k<w.heap.size) (hc:c.OK) (hB:AH B) (hg0:0≤g) (hg1:g≤4611686018427387904):
  Calls Tryz.prog 96 #[.pointer (some ⟨q,0,none⟩),.string id,.int .i64 n] w (Ia M q ⟨c,FF k B id n,if EG k B id n=0 then g+1 else g,L,ps⟩ (EG k B id n) w):=by
 subst e;exact TX M q c B g id n w hS hM hc hB hg0 hg1
theorem L8 (base:Nat) (M:List Nat) (y:Ah) (kd A wt C:Int) (S:ByteArray) (w:World) (h:AM base M y w) (hS:S.size≤maxLen) (hk:kd=4∨kd=5∨kd=6):
  Calls Tryz.prog 48 #[.pointer (some ⟨y.a,0,none⟩),.agg #[.int .i64 kd,.int .i64 A,.int .i64 wt,.int .i64 C,.string S]] w (Fi base M y w):=by
 obtain ⟨n1,n2,n3⟩:=h.ne;have H:=jp h;have hbl:=h.2.2.1;have hM:=h.2.1;have ha:y.a∈M:=hbl _ (by simp [Ah.blocks]);have hq:y.q∈M:=hbl _ (by simp [Ah.blocks]);have hlim:=h.2.2.2.2;obtain ⟨⟨hL,hSv,hPm,hG,hc,⟨g0,g1,g2⟩,hH, -, -, -⟩, -⟩:=h;have sv4:=fun wx (b:Aa w wx) (e:kd=4)=>Ut e M y.q y.c y.B y.g S wt wx (hSv.later b) (fun k hk=>jN (hM k hk) b.size) hc hG g0 (by omega)
 have sv5:=fun wx (b:Aa w wx) (e:kd=5)=>VG (n:=wt) e M y.q y.c y.B y.g S wx (hSv.later b) (fun k hk=>jN (hM k hk) b.size) hc hG g0 (by omega)
 have sv6:=fun wx (b:Aa w wx) (e:kd=6)=>Yb e M y.q y.c y.B y.g S wt wx (hSv.later b) (fun k hk=>jN (hM k hk) b.size) hc hG g0 (by omega)
 have hqa:y.q∉[y.a]:=by simpa using fun e=>n1 e.symm
 have cg:=fun wx (b:Ab [y.q] w wx)=>Yk y.B y.vb kd A wt C S wx (hPm.later (b.mono (fun k hk=>Or.inl (by rw [jP.1 hk];exact hq)))).unmask hG.1.1 hk hS
 have hHs:=fun wx (b:Ab [y.q] w wx)=>hH.later (b.mono (M':=M) (fun k hk=>Or.inl (by rw [jP.1 hk];exact hq)))
 have hqM:∀k∈[y.q],k∈M∨w.heap.size≤k:=fun k hk=>Or.inl (by rw [jP.1 hk];exact hq)
 have c0:=hL.1 0 _ rfl;have c1:=hL.1 1 _ rfl;have c2:=hL.1 2 _ rfl;have c3:=hL.1 3 _ rfl;have c4:=hL.1 4 _ rfl;have c5:=hL.1 5 _ rfl;have c6:=hL.1 6 _ rfl;have c7:=hL.1 7 _ rfl;have c8:=hL.1 8 _ rfl;have f7:=hL.2 7 (by simp [Ah.cells]);have f8:=hL.2 8 (by simp [Ah.cells]);have HL:=jp hL;have HG:=jp hG;have HCK:=jp hc;have HM:=jp hM;have haq:y.a∉[y.q]:=by simpa using n1
 have HKK:=jp hk
 have hk3:(Hid (kd=4)∧(kd==4)=true)∨(Hid (kd=5)∧(kd==4)=false∧(kd==5)=true)∨(Hid (kd=6)∧(kd==4)=false∧(kd==5)=false):=by
  rcases hk with rfl|rfl|rfl
  ·exact Or.inl ⟨rfl,rfl⟩
  ·exact Or.inr (Or.inl ⟨rfl,rfl,rfl⟩)
  ·exact Or.inr (Or.inr ⟨rfl,rfl,rfl⟩)
 clear hL hSv hPm hG hc hH n2 n3 hbl hM hS hk;rcases hk3 with ⟨HK,hk4⟩|⟨HK,hk4,hk5⟩|⟨HK,hk4,hk5⟩
 all_goals
  go_enter Tryz.func48,Tryz.ntmps48;go_wp2_with fail;have o0:(w.alloc (.cells #[.int .i64 kd,.int .i64 A,.int .i64 wt,.int .i64 C,.string S] 32)).cell? ⟨w.heap.size,0,none⟩=some (.int .i64 kd):=by simp
  have o1:(w.alloc (.cells #[.int .i64 kd,.int .i64 A,.int .i64 wt,.int .i64 C,.string S] 32)).cell? ⟨w.heap.size,1,none⟩=some (.int .i64 A):=by simp
  have o2:(w.alloc (.cells #[.int .i64 kd,.int .i64 A,.int .i64 wt,.int .i64 C,.string S] 32)).cell? ⟨w.heap.size,2,none⟩=some (.int .i64 wt):=by simp
  have o3:(w.alloc (.cells #[.int .i64 kd,.int .i64 A,.int .i64 wt,.int .i64 C,.string S] 32)).cell? ⟨w.heap.size,3,none⟩=some (.int .i64 C):=by simp
  have o4:(w.alloc (.cells #[.int .i64 kd,.int .i64 A,.int .i64 wt,.int .i64 C,.string S] 32)).cell? ⟨w.heap.size,4,none⟩=some (.string S):=by simp
  have hbo:Aa w (w.alloc (.cells #[.int .i64 kd,.int .i64 A,.int .i64 wt,.int .i64 C,.string S] 32)):=Aa.step_alloc (jD w) _;generalize (w.alloc (.cells #[.int .i64 kd,.int .i64 A,.int .i64 wt,.int .i64 C,.string S] 32))=wo at *;have k0:=hbo.cell c0;have hqs:=HM.out _ hq;have hoq:w.heap.size∉[y.q]:=by simp;omega
  generalize w.heap.size=po at o0 o1 o2 o3 o4 hoq ⊢;go_region_held3 (fun w'=>Ab [y.q] wo w'∧w'.cell? ⟨y.a,0,none⟩=some (.pointer (some ⟨y.q,0,none⟩))∧w'.cell? ⟨po,4,none⟩=some (.string S)∧w'.cell? ⟨po,2,none⟩=some (.int .i64 wt)) ((exact ⟨by (repeat (first|exact Ab.refl _ _|assumption|refine Ab.drew ?_|refine Ab.drewN ?_ _|refine Ab.alloc ?_ _|refine Ab.set ?_ (by simp) _|refine Ab.trans ?_ (by assumption)|refine Ab.step ?_ (by assumption))),Ab.cell (w:=wo) (by (repeat (first|exact Ab.refl _ _|assumption|refine Ab.drew ?_|refine Ab.drewN ?_ _|refine Ab.alloc ?_ _|refine Ab.set ?_ (by simp) _|refine Ab.trans ?_ (by assumption)|refine Ab.step ?_ (by assumption)))) k0 haq,Ab.cell (w:=wo) (by (repeat (first|exact Ab.refl _ _|assumption|refine Ab.drew ?_|refine Ab.drewN ?_ _|refine Ab.alloc ?_ _|refine Ab.set ?_ (by simp) _|refine Ab.trans ?_ (by assumption)|refine Ab.step ?_ (by assumption)))) o4 hoq,Ab.cell (w:=wo) (by (repeat (first|exact Ab.refl _ _|assumption|refine Ab.drew ?_|refine Ab.drewN ?_ _|refine Ab.alloc ?_ _|refine Ab.set ?_ (by simp) _|refine Ab.trans ?_ (by assumption)|refine Ab.step ?_ (by assumption)))) o2 hoq⟩)) (((first|go_at_call 24|go_at_call 95|go_at_call 96);(first|refine (sv4 _ (by solve_by_elim [jA,jB,jC,jD,jE]) HK.out).mono ?_|refine (sv5 _ (by solve_by_elim [jA,jB,jC,jD,jE]) HK.out).mono ?_|refine (sv6 _ (by solve_by_elim [jA,jB,jC,jD,jE]) HK.out).mono ?_);rintro e w1 ⟨rfl,b1,hS1⟩));have bo1:Ab [y.q] wo w1:=by (repeat (first|exact Ab.refl _ _|assumption|refine Ab.drew ?_|refine Ab.drewN ?_ _|refine Ab.alloc ?_ _|refine Ab.set ?_ (by simp) _|refine Ab.trans ?_ (by assumption)|refine Ab.step ?_ (by assumption)))
  have bw1:Ab [y.q] w w1:=(Ab.of_bel hbo).trans bo1;have m0:=bw1.cell c0 haq;have m1:=bw1.cell c1 haq;have m2:=bw1.cell c2 haq;have m3:=bw1.cell c3 haq;have m4:=bw1.cell c4 haq;have m5:=bw1.cell c5 haq;have m6:=bw1.cell c6 haq;have m7:=bw1.cell c7 haq;have m8:=bw1.cell c8 haq;have e7:=bw1.frozen c7 haq f7;have e8:=bw1.frozen c8 haq f8;have p0:=bo1.cell o0 hoq;have p1:=bo1.cell o1 hoq;have p2:=bo1.cell o2 hoq;have p3:=bo1.cell o3 hoq;have p4:=bo1.cell o4 hoq;have hH1:=hHs w1 bw1;have cg1:=cg;have HB1:=jp bw1;clear c0 c1 c2 c3 c4 c5 c6 c7 c8 f7 f8 o0 o1 o2 o3 o4 k0 b1 bo1 sv4 sv5 sv6 cg hHs hbo;go_wp2_with fail;go_region_held3 (fun w'=>Aa w1 w'∧w'.cell? ⟨y.a,7,none⟩=some y.vb∧w'.cell? ⟨po,0,none⟩=some (.int .i64 kd)∧w'.cell? ⟨po,1,none⟩=some (.int .i64 A)∧w'.cell? ⟨po,2,none⟩=some (.int .i64 wt)∧w'.cell? ⟨po,3,none⟩=some (.int .i64 C)∧w'.cell? ⟨po,4,none⟩=some (.string S)) ((exact ⟨by solve_by_elim [jA,jB,jC,jD,jE],Aa.cell (a:=w1) (by solve_by_elim [jA,jB,jC,jD,jE]) m7,Aa.cell (a:=w1) (by solve_by_elim [jA,jB,jC,jD,jE]) p0,Aa.cell (a:=w1) (by solve_by_elim [jA,jB,jC,jD,jE]) p1,Aa.cell (a:=w1) (by solve_by_elim [jA,jB,jC,jD,jE]) p2,Aa.cell (a:=w1) (by solve_by_elim [jA,jB,jC,jD,jE]) p3,Aa.cell (a:=w1) (by solve_by_elim [jA,jB,jC,jD,jE]) p4⟩)) ((go_at_call 97;refine (cg1 _ (bw1.step (by solve_by_elim [jA,jB,jC,jD,jE]))).mono ?_;rintro e w2 ⟨v,k,there,err,rfl,b2,hF,hP2,herr,hnew⟩;have HQ:Hid (Ez y.B S k there∧Am w2 v (Cf y.B kd S wt k there).1∧err=(Cf y.B kd S wt k there).2∧(err=0→∀g,v.ownBlock=some g→w1.heap.size≤g)):=⟨hF,hP2,herr,hnew⟩;clear hF hP2 herr hnew));obtain ⟨hF,hP2,herr,hnew⟩:=HQ.out;clear HQ;have b12:Aa w1 w2:=by solve_by_elim [jA,jB,jC,jD,jE]
  have hch:=Yc (n:=wt) HKK.out HG.out hF;rw [hch] at hP2 herr;simp only at hP2 herr;subst herr
  obtain ⟨aoV,capV,rfl⟩:∃ao cap,v= .slice ao (FF kd y.B S wt).length cap:=by
   obtain ⟨ao,cap,h,_⟩:=hP2.open;exact ⟨ao,cap,h⟩
  have hv:EG kd y.B S wt=0→Hid (∀g,(Value.slice aoV (FF kd y.B S wt).length capV).ownBlock=some g→w.heap.size≤g):=fun h0 g hg=>jX HB1.out.size (hnew h0 g hg)
  have hG2:=HG.out.op kd S wt;have hsame:Hid (¬EG kd y.B S wt=0→FF kd y.B S wt=y.B):=fun h0=>UL HKK.out h0
  have HP2:=jp hP2;have HG2:=jp hG2;have HS1:=jp hS1;clear hP2 hG2 hS1 hnew hF hch cg1 b2 bw1;generalize FF kd y.B S wt=B' at *;have n7:=b12.cell m7;have n8:=b12.cell m8;have n1':=b12.cell m1;have n2':=b12.cell m2;have n3':=b12.cell m3;have n4':=b12.cell m4;have n5':=b12.cell m5;have n6':=b12.cell m6;have d7:=b12.frozen m7 e7;have d8:=b12.frozen m8 e8;clear m0 m1 m2 m3 m4 m5 m6 m7 m8 e7 e8 p0 p1 p2 p3 p4;have halt:y.a<w2.heap.size:=jF n7;by_cases he:EG kd y.B S wt=0
  ·have HS2:Hid (AG M y.q ⟨y.c,B',y.g+1,y.L,y.pp⟩ w1):=by have:=HS1.out;rw [if_pos he] at this;exact this
   have HV:=hv he;have hset:∀wx,Aa w2 wx→Hid (Ab [y.a] w2 (wx.setCell ⟨y.a,7,none⟩ (.slice aoV B'.length capV))):=fun wx b=>((Ab.of_bel b).set (by simp) _)
   have md:∀(G:Int),G=y.g+1→∀wx,Aa w2 wx→Calls Tryz.prog 98 #[.agg #[.int .i64 y.c.alg,.int .i64 y.c.slots,.int .i64 y.c.points,.int .i64 y.c.probes,.string y.c.key,.int .i64 y.c.formats],.int .i64 G,.slice aoV B'.length capV] (wx.setCell ⟨y.a,7,none⟩ (.slice aoV B'.length capV)) (IZ (wx.setCell ⟨y.a,7,none⟩ (.slice aoV B'.length capV)) y.c G (.slice aoV B'.length capV) B'):=fun G hG wx b=>Xx y.c G (.slice aoV B'.length capV) B' _ HCK.out (Ap.but HP2.out (hset wx b).out (fun g hg e=>by have:=HV.out g hg;have:=H.out.mem.2.2.1;have:=jP.1 e;omega)) HG2.out.1 ⟨by omega,by omega⟩
   have hrs:∀(G:Int),G=y.g+1→∀wx e w3,Aa w2 wx→IZ (wx.setCell ⟨y.a,7,none⟩ (.slice aoV B'.length capV)) y.c G (.slice aoV B'.length capV) B' e w3→∃n,e= .returned (.pointer (some ⟨n,0,none⟩))∧Aa w2 wx∧Aa (wx.setCell ⟨y.a,7,none⟩ (.slice aoV B'.length capV)) w3∧Hid (Fi base M y w (.returned (.bool true)) (w3.setCell ⟨y.a,8,none⟩ (.pointer (some ⟨n,0,none⟩)))):=fun G hG wx e w3 b hr=>by
    obtain ⟨n,h1,h2,h3,h4⟩:=hr.has (M:=M) (by omega) (fun k hk=>by have:=HM.out k hk;have:=HB1.out.size;have:=b12.size;have:=b.size;simp [World.setCell];omega) (fun g hg e=>by have:=HV.out g hg;have:=HM.out g e;omega);rw [hG] at h4;exact ⟨n,h1,b,h2,H.out.done HB1.out HS2.out (b12.trans b) (Ap.later HP2.out b) HV.out HG2.out h2 h4⟩
   rw [he];clear HS1 hsame hv HS2 HP2 HG2 HB1 HM hset;rcases hH1 with ⟨hvs,hg⟩|⟨qs,Es,hvs,⟨vB,vE, -,h6, -⟩, -⟩
   ·rw [hvs] at n8;have md1:=md 1 (by omega);have hr1:=hrs 1 (by omega);clear md hrs;go_wp2_with fail;refine (md1 _ (by solve_by_elim [jA,jB,jC,jD,jE])).mono ?_;intro e w3 hr;obtain ⟨n,rfl,hb3,hb4,HR⟩:=hr1 _ _ _ (by solve_by_elim [jA,jB,jC,jD,jE]) hr;have x8:=hb4.cell ((Ad (by simp)).trans n8);have z8:=hb4.frozen ((Ad (by simp)).trans n8) (by rw [Ag];exact d8);clear hr hr1 md1;go_wp2;go_ret;exact HR.out
   ·rw [hvs] at n8;have s6:=b12.cell (Bn.1 h6).1;have md1:=md (y.g+1) rfl;have hr1:=hrs (y.g+1) rfl;clear md hrs;go_wp2_with fail;refine (md1 _ (by solve_by_elim [jA,jB,jC,jD,jE])).mono ?_;intro e w3 hr;obtain ⟨n,rfl,hb3,hb4,HR⟩:=hr1 _ _ _ (by solve_by_elim [jA,jB,jC,jD,jE]) hr;have x8:=hb4.cell ((Ad (by simp)).trans n8);have z8:=hb4.frozen ((Ad (by simp)).trans n8) (by rw [Ag];exact d8);clear hr hr1 md1;go_wp2;go_ret;exact HR.out
  ·have hE:(EG kd y.B S wt==0)=false:=by rw [jI];exact he
   have HR:Hid (Fi base M y w (.returned (.bool true)) w2):=by
    have hS2:=HS1.out;rw [if_neg he,hsame.out he] at hS2;exact H.out.same HB1.out hS2 b12
   clear hH1;go_wp2;go_ret
   first|exact HR.out|(simpa using HR.out)
theorem S7 (W0:Aw) (s:Nat) (x:WG) (k A B C:Int) (S:ByteArray) (w:World) (h:Ao W0 s x w) (hs:s≤150000) (hA:Aj A) (hB:Aj B) (hC:Aj C) (hS:S.size≤1099511627776) (hk:k=1∨k=2∨k=18∨k=19∨k=20∨k=21∨k=25):
  Calls Tryz.prog 44 #[.pointer (some ⟨x.p,0,none⟩),AB k A B C S] w (Gy W0 x.p (s+1)):=by
 rcases hk with rfl|rfl|rfl|rfl|rfl|rfl|rfl
 ·exact UF W0 s x A B C S w h hA hB
 ·exact YZ W0 s x A B C S w h (by unfold maxLen;omega)
 ·exact QV W0 s x A B C S w h hs hS
 ·exact Tl W0 s x A B C S w h hs hA hB hC
 ·exact WW W0 s x A B C S w h hs hA hB
 ·exact U4 W0 s x A B C S w h hs hA
 ·exact Ws W0 s x A B C S w h hs hA hB
def Cc (W0:Aw) (p s:Nat) (e:Ending) (w':World):Prop:=∃b:Bool,e= .returned (.bool b)∧∃x,Ao W0 s x w'∧x.p=p
def YL (W0:Aw) (s:Nat) (x:WG) (w:World) (e:Ending) (w':World):Prop:=e= .returned (.tuple #[])∧(∃x',Ao W0 s x' w'∧x'.p=x.p∧x'.prs=x.prs)∧∀(a:Addr) (v:Value),a.block∉x.M→w.cell? a=some v→w'.cell? a=some v
theorem Sf (W0:Aw) (s:Nat) (x:WG) (S:ByteArray) (w:World) (h:Ao W0 s x w) (hs:s≤150000) (hS:S.size≤1099511627776):
  Calls Tryz.prog 53 #[.pointer (some ⟨x.p,0,none⟩),.string S] w (YL W0 (s+1) x w):=by
 have hvp:x.vh.ownBlock≠some x.p:=fun e=>by
  have a1:1≤x.vh.ownBlock.toList.count x.p:=Ak.1 (by simp [e]);have a2:=WG.count x x.p;have a3:=DK h.2.2.1 x.p;have a4:=GS x.p;omega
 refine (Lq W0.heap.size x.p x.H.length x.vh (x.H.map Value.string) S w (h.1.1 7 _ rfl) (h.1.2 7 (by simp [WG.cells])) h.2.2.2.2.2.2.2.1 (by have:=h.2.2.2.2.2.2.2.2.2.2.2.1.2.1;omega) h.2.1.size hvp).mono ?_;rintro e w' ⟨rfl,g,cap,w1,hb,rfl,hrow,hg⟩;refine ⟨rfl,⟨_,h.put hb hrow hg hS,rfl,rfl⟩,fun a v ha hc=>?_⟩;have hvM:a.block∉x.vh.ownBlock.toList:=fun e=>ha (h.2.2.2.1 _ (Ak.2 (by have:=WG.count x a.block;have:=Ak.1 e;omega)))
 have hpM:a.block≠x.p:=fun e=>ha (e ▸ h.2.2.2.1 _ (by simp [WG.blocks]))
 rw [Ad (Or.inl (Ne.symm hpM))];exact hb.cell hc hvM
theorem Bz.unmask {M:List Nat} {w:World} {p:Nat} {c:Ac} {gen:Int} {B:List BK} {E:List EN} (h:Bz (Ay M w) p c gen B E):Bz w p c gen B E:=by
 obtain ⟨vB,vE,⟨h0,h1,h2,h3,h4,h5⟩,h6,h7,h8,h9,h10⟩:=h;exact ⟨vB,vE,⟨(Bn.1 h0).1,(Bn.1 h1).1,(Bn.1 h2).1,(Bn.1 h3).1,(Bn.1 h4).1,(Bn.1 h5).1⟩,(Bn.1 h6).1,(Bn.1 h7).1,(Bn.1 h8).1,Ap.unmask h9,Ap.unmask h10⟩
theorem Do.unmask {M:List Nat} {w:World} {v:Value} {gen:Int} (h:Do (Ay M w) v gen):Do w v gen:=by
 rcases h with h|⟨q,c,B,E,hv,hs,ho⟩
 ·exact Or.inl h
 ·exact Or.inr ⟨q,c,B,E,hv,hs.unmask,ho⟩
theorem DQ.unmask {M:List Nat} {w:World} {v:Value} {c:Ac} {B:List BK} {gen:Int} (h:DQ (Ay M w) v c B gen):DQ w v c B gen:=by
 rcases h with h|⟨q,E,hv,hs,ho⟩
 ·exact Or.inl h
 ·exact Or.inr ⟨q,E,hv,hs.unmask,ho⟩
theorem Af.toI64 {a:Int} (h:Af a):Aj a:=⟨by have:=h.1;omega,by have:=h.2;omega⟩
theorem Ao.pair_at {W0:Aw} {s:Nat} {x:WG} {w:World} (h:Ao W0 s x w) (k:Nat) (hk:k<x.prs.length):(x.prs[k]).At W0.heap.size x.M w:=(h.2.2.2.2.2.2.2.2.2.2.2.2.2 _ (jJ hk)).1
theorem Ao.pick {W0:Aw} {s:Nat} {x:WG} {w:World} (h:Ao W0 s x w) (hn:0<x.prs.length):∃g cap,x.vl= .slice (some ⟨g,0,none⟩) x.prs.length cap∧∀j (hj:j<x.prs.length),w.cell? ⟨g,j,none⟩=some (.pointer (some ⟨(x.prs[j]).a,0,none⟩)):=by
 obtain ⟨g,cap,hv, -, -,hc⟩:=Fo h.2.2.2.2.2.2.1 hn;exact ⟨g,cap,hv,fun j hj=>(hc j hj).trans (by simp [hj])⟩
theorem Tryz.infoStrS:(Tryz.prog.info? 9).map (fun i=>(i.zero,i.size,i.bytes))=some (some (.string ByteArray.empty),1,16):=by kernel_rfl
def Ip (w:World) (v:Value) (l:List ByteArray):Prop:=Ap w v l.length (l.map Value.string)
def Vs (w:World) (L:List ByteArray) (e:Ending) (w':World):Prop:=∃v:Value,e= .returned v∧Aa w w'∧Ip w' v L
theorem BU.names {c:Ac} {B:List BK} {E:List EN} (h:BU c B E):E.map (fun x=>x.1)=CM B (An c B):=by
 have:=congrArg (List.map (fun p:NI=>p.2)) h;rw [List.map_map,List.map_map] at this;exact this
theorem PA (p:Nat) (c:Ac) (gen:Int) (B:List BK) (E:List EN) (w:World) (h:Bz w p c gen B E) (hE:E.length≤140000):
  Calls Tryz.prog 102 #[.pointer (some ⟨p,0,none⟩)] w (Vs w (E.map fun x=>x.1)):=by
 obtain ⟨R,hR0⟩:∃R,R=E.map fun x=>x.1:=⟨_,rfl⟩
 rw [←hR0];have HR:=jp hR0;clear hR0;obtain ⟨i0,hi,hz0,hz1,hz2⟩:=info_parts Tryz.infoStrS;obtain ⟨vB,vE,_,_,_,c8,_,hpE⟩:=h;have hpw:p<w.heap.size:=World.block_lt_of_cell? w ⟨p,8,none⟩ c8;obtain ⟨ao,cap,rfl,hc⟩:=hpE.off;go_enter Tryz.func102,Tryz.ntmps102;go_wp2;go_loopg [3,4] E.length (fun r v i wr=>∃(k:Nat) (L:List ByteArray),r=E.length - k∧k≤E.length∧i= .int .i64 k∧L.length=k∧L=(E.take k).map (fun x=>x.1)∧wr.ownsRow w.heap.size 9 1 v k (L.map Value.string)∧Aa w wr)
 case atStart=>exact ⟨0,[],by omega,by omega,rfl,rfl,rfl,World.ownsRow_nil _ _ _ _,jD _⟩
 case round=>
  obtain ⟨k,L,hr,hk,rfl,hL,hLe,hown,hb⟩:=hrel;have HLE:=jp hLe;clear hLe;have d8:=hb.cell c8;by_cases hlt:k<E.length
  ·obtain ⟨g,off,rfl,q0, -, -⟩:=hc k hlt;have r0:=hb.cell q0;clear hc q0
   have HLN:Hid (L++[E[k].1]=(E.take (k+1)).map (fun x=>x.1)):=by
    show L++_=_;rw [jQ hlt,List.map_append,←HLE.out];rfl
   generalize E[k]=en at *;obtain ⟨id,ehi,elo⟩:=en;simp only at r0 HLN;go_wp2_with (first|(at_builtin;refine wpList_append_own _ rfl _ _ 40 rfl w.heap.size 9 i0 (.string ByteArray.empty) 1 16 Tryz.underlying40 hi hz0 hz1 hz2 rfl (by decide) _ k (L.map Value.string) rfl ?o1 ⟨wr.heap.size,0,none⟩ 1 1 [.string id] rfl rfl ?c1 ?c2 ?c3 ?c4 ?c5 ?_))
   case o1=>exact hown.alloc _
   case c1=>exact cell_one_new _ _ _
   case c2=>intro u hu;simp at hu;subst hu;rfl
   case c3=>unfold maxLen;omega
   case c4=>omega
   case c5=>have:=hb.size;simp;omega
   intro v' w6 hown' hgrow _;have hb6:Aa w w6:=(hb.step_alloc _).grown hgrow (fun g hg=>(hown.lt g hg).1);clear hgrow;go_wp2_with fail;go_roundg (E.length - (k+1))
   case measure=>omega
   case rel=>exact ⟨k+1,L++[id],rfl,by omega,by go_num,by simp [hL],HLN.out,by simpa using hown',hb6⟩
  ·have hk':k=E.length:=by omega
   have hown':=Ap.of_owns hown;rw [←hL] at hown';have hR:Ip wr _ L:=(by simpa [Ip] using hown')
   have HRL:Hid (L=R):=by
    show L=R;rw [HLE.out,HR.out,hk',List.take_length]
   rw [HRL.out] at hR;have HT:=jp hR;clear hR;go_wp2;go_ret;exact ⟨_,rfl,hb,HT.out⟩
theorem Je (c:Ac) (B:List BK) (hc:c.OK) (hB:AL B):(An c B).length≤65536:=by
 have hall:=fun b hb=>(hB.2 b hb).2.2
 have hs2:c.slots≤211:=hc.2.2.2.1
 have hl:∀n (L:List EI),(BN L n).length≤n:=by
  intro n L
  induction n with
  |zero=>simp [BN]
  |succ n ih=>
   rw [BN];split
   ·rw [NC];omega
   ·omega
 have h8:=hB.1;rw [An];split
 ·simp
 split
 ·rw [je,F3,MA,List.length_replicate];omega
 split
 ·have h1:=L4 c.key 114 c.points B hc.2.2.2.2.2.2.1 hall B.length;have h2:=hl (AW c.key 114 c.points B B.length).length (AW c.key 114 c.points B B.length);rw [Dk];omega
 split
 ·simp;omega
 split
 ·have h1:=L4 c.key 109 1 B (by omega) hall B.length;have h2:=hl (AW c.key 109 1 B B.length).length (AW c.key 109 1 B B.length);rw [Dk];omega
 ·simp
def Fa:Ac:=⟨1,7,1,1,⟨#[48,49,50,51,52,53,54,55,56,57,97,98,99,100,101,102]⟩,3⟩
def Cy:ByteArray:=⟨#[97]⟩
def Ch:ByteArray:=⟨#[98]⟩
theorem JP:Fa.OK:=by
 refine ⟨by decide,by decide,by decide,by decide,?_,by decide,by decide,by decide,by decide,by decide,by decide,by decide⟩;intro d h1 h2;have hd:d<7:=by simp only [Fa] at h2;omega
 rcases (show d=2∨d=3∨d=4∨d=5∨d=6 by omega) with rfl|rfl|rfl|rfl|rfl <;>decide
theorem Sm:F3 Fa [(Cy,1),(Ch,1)]=[0,1,0,0,0,1,1]:=by decide+kernel
theorem Uy:An Fa [(Cy,1),(Ch,1)]=[(0,0),(0,1),(0,0),(0,0),(0,0),(0,1),(0,1)]:=by
 rw [An,if_neg (by decide),if_pos (show Fa.alg=1 from rfl),Sm];rfl
theorem Yu:CM [(Cy,1),(Ch,1)] (An Fa [(Cy,1),(Ch,1)])=[Cy,Ch,Cy,Cy,Cy,Ch,Ch]:=by rw [Uy];rfl
theorem Mk:Cw [] Ch 1=0∧Dj [] Ch 1=[(Ch,1)]:=⟨by decide+kernel,rfl⟩
theorem Lf:Cw [(Ch,1)] Cy 1=0∧Dj [(Ch,1)] Cy 1=[(Cy,1),(Ch,1)]:=by
 have he:Cw [(Ch,1)] Cy 1=0:=by decide+kernel
 refine ⟨he,?_⟩;unfold Dj;rw [if_pos he];have hl:AO Cy Ch=true:=by decide+kernel
 simp [Bg,hl]
theorem Ux (w:World):Calls Tryz.prog 17 #[] w (Ew w fun x=>x=true):=by
 have hnw:=fun wx=>PG Fa wx JP
 rw [show Fa.cells=#[.int .i64 1,.int .i64 7,.int .i64 1,.int .i64 1,.string ⟨#[48,49,50,51,52,53,54,55,56,57,97,98,99,100,101,102]⟩,.int .i64 3] from rfl] at hnw;go_enter Tryz.func17,Tryz.ntmps17;go_wp2_with fail;refine (hnw _).mono ?_;rintro e w1 ⟨q,rfl,hb1,hq1,hq2,hS1⟩;have hS1:=hS1 [q] (by simp);have hb01:Aa w w1:=(Aa.step_alloc (jD w) _).trans hb1;have hqw:w.heap.size≤q:=by simp at hq1;omega
 have ha1:=KV [q] q Fa [] 0 Ch 1 w1 hS1 (by simpa using hq2) JP AH.nil (by omega) (by omega);rw [Mk.1,Mk.2] at ha1;simp only [if_true,Ch] at ha1;clear hnw;go_wp2_with fail;refine ha1.mono ?_;rintro e w2 ⟨rfl,hbt2,hS2⟩;have hG1:AH [(Ch,(1:Int))]:=by have:=AH.nil.add Ch 1;rwa [Mk.2] at this
 have ha2:=KV [q] q Fa [(Ch,1)] (0+1) Cy 1 w2 hS2 (by simpa using hS2.lt) JP hG1 (by omega) (by omega);rw [Lf.1,Lf.2] at ha2;simp only [if_true] at ha2;rw [show Cy=⟨#[97]⟩ from rfl] at ha2;clear ha1;go_wp2_with fail;refine ha2.mono ?_;rintro e w3 ⟨rfl,hbt3,hS3⟩;have hG2:AH [(Cy,(1:Int)),(Ch,1)]:=by have:=hG1.add Cy 1;rwa [Lf.2] at this
 have hsl:=PP [q] q Fa [(Cy,1),(Ch,1)] (0+1+1) w3 hS3 (Je Fa _ JP hG2.1);rw [Yu] at hsl;have hb03:Aa w w3:=Ab.belTo (Ab.belTo hb01 hbt2 (by simpa using hqw)) hbt3 (by simpa using hqw);clear ha2 hS1 hS2 hS3 hG1 hG2 hbt2 hbt3;go_wp2_with fail;refine hsl.mono ?_;rintro e w4 ⟨vL,rfl,hb4,hO, -⟩;obtain ⟨g,cap,hv,hg1,hg2⟩:=World.ownsRow.form hO (by simp);subst hv;have hcl:=fun j u (hj:([Cy,Ch,Cy,Cy,Cy,Ch,Ch].map Value.string)[j]?=some u)=>World.ownsRow.cells hO (g:=g) rfl j u hj
 have hadd:∀j,(⟨g,0,none⟩:Addr).add j=⟨g,j,none⟩:=fun j=>by unfold Addr.add;split <;>simp_all
 have y0:=hcl 0 _ rfl;have y1:=hcl 1 _ rfl;have y2:=hcl 2 _ rfl;have y3:=hcl 3 _ rfl;have y4:=hcl 4 _ rfl;have y5:=hcl 5 _ rfl;have y6:=hcl 6 _ rfl;rw [hadd] at y0 y1 y2 y3 y4 y5 y6;simp only [Cy,Ch] at y0 y1 y2 y3 y4 y5 y6;clear hcl hadd hsl hO;go_wp2;refine wp_loop_rounds 8 ?_;rw [rounds_succ];go_wp2;rw [rounds_succ];go_wp2;rw [rounds_succ];go_wp2;rw [rounds_succ];go_wp2;rw [rounds_succ];go_wp2;rw [rounds_succ];go_wp2;rw [rounds_succ];go_wp2;rw [rounds_succ];go_wp2;go_ret;exact ⟨_,rfl,hb03.trans hb4,by decide+kernel⟩
theorem BV (w:World) (a b c d e:Value) (t:TypeId):∃wo,w.alloc (.cells #[a,b,c,d,e] t)=wo∧Aa w wo∧(wo.cell? ⟨w.heap.size,0,none⟩=some a∧wo.cell? ⟨w.heap.size,1,none⟩=some b∧wo.cell? ⟨w.heap.size,2,none⟩=some c∧wo.cell? ⟨w.heap.size,3,none⟩=some d∧wo.cell? ⟨w.heap.size,4,none⟩=some e):=
 ⟨_,rfl,Aa.step_alloc (jD w) _,by simp,by simp,by simp,by simp,by simp⟩
def Za (W0:Aw) (s p:Nat) (M:List Nat) (y:Ah) (w:World) (e:Ending) (w':World):Prop:=e= .returned (.tuple #[])∧(∃x',Ao W0 s x' w'∧x'.p=p∧y.At W0.heap.size x'.M w')∧∀(a:Addr) (v:Value),a.block∉M→w.cell? a=some v→w'.cell? a=some v
theorem LH (W0:Aw) (s:Nat) (x:WG) (k:Nat) (hk:k<x.prs.length) (S:ByteArray) (w:World) (h:Ao W0 s x w) (hs:s≤150000) (hS:S.size≤1099511627776):
  Calls Tryz.prog 53 #[.pointer (some ⟨x.p,0,none⟩),.string S] w (Za W0 (s+1) x.p x.M x.prs[k] w):=by
 refine (Sf W0 s x S w h hs hS).mono ?_;rintro e w' ⟨rfl,⟨x',h',hp,hprs⟩,hfr⟩;have:=h'.pair_at k (by rw [hprs];exact hk);simp only [hprs] at this;exact ⟨rfl,⟨x',h',hp,this⟩,hfr⟩
theorem QH (W0:Aw) (s:Nat) (x:WG) (k:Nat) (hk:k<x.prs.length) (A B C:Int) (S:ByteArray) (w:World) (h:Ao W0 s x w) (hs:s≤150000) (hB:Aj B):
  Calls Tryz.prog 50 #[.pointer (some ⟨x.p,0,none⟩),.pointer (some ⟨(x.prs[k]).a,0,none⟩),AB 8 A B C S] w (Cc W0 x.p (s+1)):=by
 have hat:=h.pair_at k hk;have hput:=fun (t:ByteArray) (ht:t.size≤16777216) wx (b:Aa w wx)=>LH W0 s x k hk t wx (h.later b) hs (by omega)
 have hmk:=Je (x.prs[k]).c (x.prs[k]).B hat.2.2.2.2.1 hat.2.2.2.1.1;have him0:=fun wx (b:Aa w wx)=>XS x.M (x.prs[k]).q (x.prs[k]).c (x.prs[k]).B (x.prs[k]).g.toNat B wx (by have:=hat.2.1.later b;rw [Int.toNat_of_nonneg hat.2.2.2.2.2.1.1];exact this) hmk hat.2.2.2.2.1 hat.2.2.2.1.1 (by have:=hat.2.2.2.2.2.1.2.1;omega)
 clear hmk;have hend:∀wx (b:Bool),Aa w wx→Hid (Cc W0 x.p (s+1) (.returned (.bool b)) wx):=fun wx b hb=>⟨b,rfl,x,(h.later hb).up (by omega),rfl⟩
 have hpoM:w.heap.size∉x.M:=fun e=>by have:=(h.2.2.2.2.1 _ e).2;omega
 generalize x.M=M0 at *;generalize x.prs[k]=y at *;have c0:=hat.1.1 0 _ rfl;have c8:=hat.1.1 8 _ rfl;have HV:=jp hat.2.2.2.2.2.2.1.unmask;generalize x.p=p at *;have hal:=jF c0;simp only at hal;have haw:∀wx,Aa w wx→y.a<wx.heap.size:=fun wx b=>jN hal b.size
 clear hat h;unfold AB;go_enter Tryz.func50,Tryz.ntmps50;go_wp2_with fail;obtain ⟨wo,hwo,hbo,o0,o1,o2,o3,o4⟩:=BV w (.int .i64 8) (.int .i64 A) (.int .i64 B) (.int .i64 C) (.string S) 32;rw [hwo];clear hwo;have k0:=hbo.cell c0;have k8:=hbo.cell c8;generalize w.heap.size=po at o0 o1 o2 o3 o4 hpoM ⊢;go_region_held3 (fun w'=>Aa wo w'∧w'.cell? ⟨y.a,0,none⟩=some (.pointer (some ⟨y.q,0,none⟩))∧w'.cell? ⟨po,2,none⟩=some (.int .i64 B)) ((exact ⟨by solve_by_elim [jA,jB,jC,jD,jE],Aa.cell (a:=wo) (by solve_by_elim [jA,jB,jC,jD,jE]) k0,Aa.cell (a:=wo) (by solve_by_elim [jA,jB,jC,jD,jE]) o2⟩)) ((go_at_call 99;refine (him0 _ (by solve_by_elim [jA,jB,jC,jD,jE])).mono ?_;rintro e w1 ⟨t1,n1,rfl,hb1,ht1⟩));have hbo1:Aa wo w1:=by solve_by_elim [jA,jB,jC,jD,jE]
 have hbw1:Aa w w1:=hbo.trans hbo1;have k8:=hbo1.cell k8;have o2':=hbo1.cell o2;have hput:=hput t1 ht1;have haw1:=haw _ hbw1;clear o0 o1 o2 o3 o4 k0 hbo hbo1 hb1 him0 c0 c8 haw hal;by_cases hf:B<1∨2<B
 ·have hbb:(decide (B<1)||decide (2<B))=true:=by simpa using hf
  clear hput HV;go_wp2
  all_goals
   go_ret;exact (hend _ _ (by solve_by_elim [jA,jB,jC,jD,jE])).out
 ·have hbb:(decide (B<1)||decide (2<B))=false:=by simpa using hf
  rcases HV.out with ⟨hv, -⟩|⟨q,E,hv,hst,hok,hW, -, -⟩
  ·rw [hv] at k8;clear hput HV;go_wp2
   all_goals
    go_ret;exact (hend _ _ (by solve_by_elim [jA,jB,jC,jD,jE])).out
  ·rw [hv] at k8;have hst1:=hst.later hbw1;clear hst HV;go_wp2_with fail;refine (hput _ (by solve_by_elim [jA,jB,jC,jD,jE])).mono ?_;rintro e w2 ⟨rfl,⟨x2,h2,hp2,hy2⟩,hfr⟩;have d2:=hfr ⟨po,2,none⟩ _ hpoM o2';have c8:=hy2.1.1 8 _ rfl;have hv2:=hy2.2.2.2.2.2.2.1.unmask;rw [hv] at c8 hv2;rcases hv2 with ⟨hv3, -⟩|⟨q2,E2,hv3,hst2,hok2,hW2, -, -⟩
   ·cases hv3
   simp only [Value.pointer.injEq,Option.some.injEq,Addr.mk.injEq,and_true] at hv3;subst hv3;have him:=fun wx (b:Aa w2 wx)=>Fw q y.c y.g y.B E2 B wx (hst2.later b) hok2 hB (fun x hx=>⟨(hW2 x hx).1.toI64,(hW2 x hx).2.toI64⟩)
   have H2:Hid (∀wx (b:Bool),Aa w2 wx→Cc W0 p (s+1) (.returned (.bool b)) wx):=fun wx b hb=>⟨b,rfl,x2,h2.later hb,hp2⟩
   clear h2 hy2 hst2 hW2 hfr hput hst1 k8;go_wp2_with fail;go_region_held3 (fun w'=>Aa w2 w'∧w'.cell? ⟨y.a,8,none⟩=some (.pointer (some ⟨q,0,none⟩))∧w'.cell? ⟨po,2,none⟩=some (.int .i64 B)) ((exact ⟨by solve_by_elim [jA,jB,jC,jD,jE],Aa.cell (a:=w2) (by solve_by_elim [jA,jB,jC,jD,jE]) c8,Aa.cell (a:=w2) (by solve_by_elim [jA,jB,jC,jD,jE]) d2⟩)) ((go_at_call 90;refine (him _ (by solve_by_elim [jA,jB,jC,jD,jE])).mono ?_;rintro e w3 ⟨m,rfl,hb3, -⟩));have hb23:Aa w2 w3:=by solve_by_elim [jA,jB,jC,jD,jE]
   clear him;go_wp2
   all_goals
    go_ret;exact H2.out _ _ (by solve_by_elim [jA,jB,jC,jD,jE])
def Hg (W0:Aw) (p s:Nat) (e:Ending) (w':World):Prop:=e= .returned (.bool true)∧∃x,Ao W0 s x w'∧x.p=p
theorem Mp.y {W0:Aw} {s:Nat} {x:WG} {v:Value} {T:List ByteArray} {e:Ending} {w':World} (h:Mp W0 s x v T e w') (k:Nat) (hk:k<x.prs.length):e= .returned (.tuple #[])∧∃x',Ao W0 (s+1) x' w'∧x'.p=x.p∧(x.prs[k]).At W0.heap.size x'.M w'∧Ap w' v T.length (T.map Value.string):=by
 obtain ⟨he,x',h',hp,hprs,hr⟩:=h;have:=h'.pair_at k (by rw [hprs];exact hk);simp only [hprs] at this;exact ⟨he,x',h',hp,this,hr⟩
theorem LI (w:World):(binOp .eql 40 (.slice none 0 0) (.slice none 0 0)).run Tryz.prog w= .ok (.bool true) w:=by kernel_rfl
theorem Pw (w:World) (a:Addr) (n c:Nat):(binOp .eql 40 (.slice (some a) n c) (.slice none 0 0)).run Tryz.prog w= .ok (.bool false) w:=by kernel_rfl
def Tx (W0:Aw) (s p:Nat) (y:Ah) (v:Value) (T:List ByteArray) (e:Ending) (w':World):Prop:=e= .returned (.tuple #[])∧∃x',Ao W0 s x' w'∧x'.p=p∧y.At W0.heap.size x'.M w'∧Ap w' v T.length (T.map Value.string)
theorem XK (W0:Aw) (s:Nat) (x:WG) (k:Nat) (hk:k<x.prs.length) (v:Value) (T:List ByteArray) (w0 w:World) (h:Ao W0 s x w0) (hbel:Aa w0 w) (hT:FC w0.heap.size w v T) (hT1:T.length≤65536) (hs:s≤150000) (hnil:T=[]→v= .slice none 0 0) (hcons:T≠[]→∃g,v= .slice (some ⟨g,0,none⟩) T.length T.length):
  Calls Tryz.prog 100 #[.pointer (some ⟨x.p,0,none⟩),v] w (Tx W0 (s+1) x.p x.prs[k] v T):=by
 by_cases hn:T=[]
 ·have hv:=hnil hn;subst hv;refine (Yp x.p w).mono ?_;rintro e w' ⟨rfl,rfl⟩;exact ⟨rfl,x,(h.later hbel).up (by omega),rfl,(h.later hbel).pair_at k hk,Ap.of_owns hT⟩
 ·obtain ⟨g,rfl⟩:=hcons hn;refine (Ru W0 s x g T w0 w h hbel hT hT1 hs).mono ?_;intro e w' hr;exact hr.y k hk
theorem Lg {y:Ah} {base:Nat} {M:List Nat} {w:World} (h:y.At base M w):(y.vs= .pointer none∧y.g=0∧CM y.B (An y.c y.B)=[])∨∃q E,y.vs= .pointer (some ⟨q,0,none⟩)∧Bz w q y.c y.g y.B E∧Dh y.c y.g y.B E∧(∀x∈E,Af x.2.1∧Af x.2.2)∧BU y.c y.B E∧y.g≠0:=by
 rcases h.2.2.2.2.2.2.1.unmask with ⟨h1,h2⟩|⟨q,E,h1,h2,h3,h4,h5,h6⟩
 ·refine Or.inl ⟨h1,h2,?_⟩;rw [h.2.2.2.2.2.1.2.2 h2,M3];rfl
 ·exact Or.inr ⟨q,E,h1,h2,h3,h4,h5,h6⟩
theorem WF (W0:Aw) (s:Nat) (x:WG) (k:Nat) (hk:k<x.prs.length) (A B C:Int) (S:ByteArray) (w:World) (h:Ao W0 s x w) (hs:s≤150000):
  Calls Tryz.prog 50 #[.pointer (some ⟨x.p,0,none⟩),.pointer (some ⟨(x.prs[k]).a,0,none⟩),AB 9 A B C S] w (Hg W0 x.p (s+1)):=by
 have hat:=h.pair_at k hk;have hmk:=Je (x.prs[k]).c (x.prs[k]).B hat.2.2.2.2.1 hat.2.2.2.1.1;have hsl:=fun wx (b:Aa w wx)=>UC x.M (x.prs[k]).q (x.prs[k]).c (x.prs[k]).B (x.prs[k]).g wx (hat.2.1.later b) hmk
 have hkp:=fun v wx (b:Aa w wx) (hT:FC w.heap.size wx v (CM (x.prs[k]).B (An (x.prs[k]).c (x.prs[k]).B)))=>XK W0 s x k hk v _ w wx h b hT (by rw [CM,je];exact hmk) hs
 generalize x.M=M0 at *;generalize x.prs[k]=y at *;generalize x.p=p at *;obtain ⟨T,hT⟩:∃T,T=CM y.B (An y.c y.B):=⟨_,rfl⟩;have HT:=jp hT;rw [←hT] at hsl hkp;have hTl:T.length≤65536:=by rw [hT,CM,je];exact hmk
 have c0:=hat.1.1 0 _ rfl;have hal:=jF c0;simp only at hal;clear hat h hT hmk;unfold AB;go_enter Tryz.func50,Tryz.ntmps50;go_wp2_with fail;refine (hsl _ (by solve_by_elim [jA,jB,jC,jD,jE])).mono ?_;rintro e w1 ⟨v,rfl,hb1,hO,hnil,hcons⟩;have hbw1:Aa w w1:=(Aa.step_alloc (jD w) _).trans hb1;have hk1:=hkp v w1 hbw1 (World.ownsRow.mono hO (by simp)) hnil hcons;clear hkp hsl hO hb1 c0;by_cases hn:T=[]
 ·have hv:=hnil hn;subst hv;clear hnil hcons;go_wp2_with fail;refine hk1.mono ?_;rintro e w2 ⟨rfl,x2,h2,hp2,hy2,hr2⟩;have c0:=hy2.1.1 0 _ rfl;have c8:=hy2.1.1 8 _ rfl;have hgn:=N9 x2.M y.q y.c y.B y.g w2 hy2.2.1;have hcase:=Lg hy2;have H2:Hid (∀wx,Aa w2 wx→Hg W0 p (s+1) (.returned (.bool true)) wx):=fun wx hb=>⟨rfl,x2,h2.later hb,hp2⟩
  clear h2 hy2 hk1;go_wp2_with fail;refine hgn.mono ?_;rintro e w3 ⟨rfl,rfl⟩;clear hgn;rcases hcase with ⟨hv,hg, -⟩|⟨q,E,hv,hst,hok, -,hte, -⟩
  ·rw [hv] at c8;rw [hg];have hn1:=LI;go_wp2;go_ret;exact H2.out _ (by solve_by_elim [jA,jB,jC,jD,jE])
  ·rw [hv] at c8;have hsr:=PA q y.c y.g y.B E w2 hst hok.2.2.2.1;rw [hte.names,←HT.out,hn] at hsr;obtain ⟨vB,vE, -,s6, -⟩:=hst;clear hr2;go_wp2_with fail;refine hsr.mono ?_;rintro e w3 ⟨vm,rfl,hb3,hM⟩;have d8:=hb3.cell c8;have t6:=hb3.cell s6;have hsm:=fun wx (b:Aa w3 wx)=>LQ [] [] (.slice none 0 0) vm wx (Or.inl ⟨rfl,rfl,rfl⟩) (Ap.later hM b) (by decide) (by decide)
   clear hsr;go_wp2_with fail;refine (hsm _ (by solve_by_elim [jA,jB,jC,jD,jE])).mono ?_;rintro e w4 ⟨b,rfl,hb4,hb⟩;obtain rfl:b=true:=by first|exact hb.2 rfl|exact hb.2 trivial
   have e8:=hb4.cell d8;have u6:=hb4.cell t6;have hn1:=LI;have hn2:=Pw;clear hsm hb;go_wp2;go_ret;exact H2.out _ (by solve_by_elim [jA,jB,jC,jD,jE])
 ·obtain ⟨gl,rfl⟩:=hcons hn;clear hnil hcons;have hTn:T.length≠0:=fun e=>hn (jS e)
  have hTb:((T.length:Int)==0)=false:=by rw [jI];omega
  go_wp2_with fail;refine hk1.mono ?_;rintro e w2 ⟨rfl,x2,h2,hp2,hy2,hr2⟩;have c0:=hy2.1.1 0 _ rfl;have c8:=hy2.1.1 8 _ rfl;have hgn:=N9 x2.M y.q y.c y.B y.g w2 hy2.2.1;have hcase:=Lg hy2;have H2:Hid (∀wx,Aa w2 wx→Hg W0 p (s+1) (.returned (.bool true)) wx):=fun wx hb=>⟨rfl,x2,h2.later hb,hp2⟩
  clear h2 hy2 hk1;go_wp2_with fail;refine hgn.mono ?_;rintro e w3 ⟨rfl,rfl⟩;clear hgn;rcases hcase with ⟨hv,hg,hnm⟩|⟨q,E,hv,hst,hok, -,hte, -⟩
  ·exact absurd (HT.out.trans hnm) hn
  ·rw [hv] at c8;have hsr:=PA q y.c y.g y.B E w2 hst hok.2.2.2.1;rw [hte.names,←HT.out] at hsr;obtain ⟨vB,vE, -,s6, -⟩:=hst;go_wp2_with fail;refine hsr.mono ?_;rintro e w3 ⟨vm,rfl,hb3,hM⟩;have d8:=hb3.cell c8;have t6:=hb3.cell s6;have hsm:=fun wx (b:Aa w3 wx)=>LQ T T (.slice (some ⟨gl,0,none⟩) T.length T.length) vm wx (hr2.later (hb3.trans b)) (Ap.later hM b) hTl hTl
   clear hsr hr2;go_wp2_with fail;refine (hsm _ (by solve_by_elim [jA,jB,jC,jD,jE])).mono ?_;rintro e w4 ⟨b,rfl,hb4,hb⟩;obtain rfl:b=true:=by first|exact hb.2 rfl|exact hb.2 trivial
   have e8:=hb4.cell d8;have u6:=hb4.cell t6;have hn1:=LI;have hn2:=Pw;clear hsm hb;go_wp2;go_ret;exact H2.out _ (by solve_by_elim [jA,jB,jC,jD,jE])
end Go.Proofs.YtpapdkhjdelfcabGreat
