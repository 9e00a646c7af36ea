import Derived.Test.YtpapdkhjdelfcabGreatLBQ
import Derived.Deep.QuietTactic
import Derived.BigQuiet
import Derived.RegionTactic
import Derived.Deep.RegionHeld3
import Derived.Laws.IdiomStrings
namespace Go.Proofs.YtpapdkhjdelfcabGreat
open Go.RowKit
set_option maxRecDepth 100000
set_option maxHeartbeats 4000000
def AB (k a b c:Int) (S:ByteArray):Value:= .agg #[.int .i64 k,.int .i64 a,.int .i64 b,.int .i64 c,.string S]
def Gy (W0:Aw) (p s:Nat) (e:Ending) (w':World):Prop:=e= .returned (.bool true)∧∃x,Ao W0 s x w'∧x.p=p
theorem UF (W0:Aw) (s:Nat) (x:WG) (A B C:Int) (S:ByteArray) (w:World) (h:Ao W0 s x w) (hA:Aj A) (hB:Aj B):
  Calls Tryz.prog 44 #[.pointer (some ⟨x.p,0,none⟩),AB 1 A B C S] w (Gy W0 x.p (s+1)):=by
 have hpk:=fun wx=>FJ A 5 wx hA (by omega) (by omega)
 obtain ⟨h1,h2⟩:=FQ A 5 (by omega);have hnb:=fun wx (b:Aa w wx)=>Ub W0 s x (DA A 5) B wx (h.later b) h1 h2 hB
 generalize DA A 5=k at *;generalize x.p=p at *;clear h hA hB h1 h2;unfold AB;go_enter Tryz.func44,Tryz.ntmps44;go_wp2_with fail;refine (hpk _).mono ?_;rintro e w1 ⟨rfl,rfl⟩;go_wp2_with fail;refine (hnb _ (by solve_by_elim [jA,jB,jC,jD,jE])).mono ?_;rintro e w2 ⟨rfl,x2,h2,hp2⟩;have H2:=jp (h2.up (show s≤s+1 by omega));clear h2 hpk hnb;go_wp2;go_ret;exact ⟨rfl,x2,H2.out,hp2⟩
theorem YZ (W0:Aw) (s:Nat) (x:WG) (A B C:Int) (S:ByteArray) (w:World) (h:Ao W0 s x w) (hS:S.size≤maxLen):
  Calls Tryz.prog 44 #[.pointer (some ⟨x.p,0,none⟩),AB 2 A B C S] w (Gy W0 x.p (s+1)):=by
 have hset : ∀ wx, Aa w wx → Hid (Ao W0 (s + 1) { x with c := { x.c with key := S } } (wx.setCell ⟨x.p, 4, none⟩ (.string S))) := fun wx b => ((h.later b).up (show s ≤ s + 1 by omega)).cfg 4 _ { x.c with key := S } rfl (by
   obtain ⟨f1, f2, f3, f4, f5, f6⟩ := h.2.2.2.2.2.1
   exact ⟨f1, f2, f3, f4, f5, hS⟩)
 have c4:=h.1.1 4 _ rfl;have f4:=h.1.2 4 (by simp [WG.cells]);have hplt:=jF c4;clear h hS;unfold AB;go_enter Tryz.func44,Tryz.ntmps44;go_wp2;go_ret;exact ⟨rfl,{x with c:={x.c with key:=S}},(hset w (jD w)).out.later (by solve_by_elim [jA,jB,jC,jD,jE]),rfl⟩
theorem QV (W0:Aw) (s:Nat) (x:WG) (A B C:Int) (S:ByteArray) (w:World) (h:Ao W0 s x w) (hs:s≤150000) (hS:S.size≤1099511627776):
  Calls Tryz.prog 44 #[.pointer (some ⟨x.p,0,none⟩),AB 18 A B C S] w (Gy W0 x.p (s+1)):=by
 have hpu:=fun wx (b:Aa w wx)=>J2 W0 s x S wx (h.later b) hs hS
 generalize x.p=p at *;clear h hS;unfold AB;go_enter Tryz.func44,Tryz.ntmps44;go_wp2_with fail;refine (hpu _ (by solve_by_elim [jA,jB,jC,jD,jE])).mono ?_;rintro e w2 ⟨rfl,x2,h2,hp2⟩;have H2:=jp h2;clear h2 hpu;go_wp2;go_ret;exact ⟨rfl,x2,H2.out,hp2⟩
theorem WW (W0:Aw) (s:Nat) (x:WG) (A B C:Int) (S:ByteArray) (w:World) (h:Ao W0 s x w) (hs:s≤150000) (hA:Aj A) (hB:Aj B):
  Calls Tryz.prog 44 #[.pointer (some ⟨x.p,0,none⟩),AB 20 A B C S] w (Gy W0 x.p (s+1)):=by
 have hat:=fun wx (b:Aa w wx)=>FI W0 s x A wx (h.later b) hs hA
 have hpu:=fun wx (t:ByteArray) (b:Aa w wx) (hS:t.size≤1099511627776)=>J2 W0 s x t wx (h.later b) hs hS
 generalize x.p=p at *;clear h hA;unfold AB;go_enter Tryz.func44,Tryz.ntmps44;go_wp2_with fail;refine (hat _ (by solve_by_elim [jA,jB,jC,jD,jE])).mono ?_;rintro e w1 ⟨t,rfl,hb1,ht⟩;have hbw:Aa w w1:=(Aa.step_alloc (jD w) _).trans hb1;have hpk:=fun wx=>FJ B (t.size+1) wx hB (by omega) (by omega)
 obtain ⟨r1,r2⟩:=FQ B (t.size+1) (by omega);obtain ⟨m,hm⟩:=jM r1;rw [hm] at hpk r2;have hmt:m≤t.size:=by omega
 have o2:w1.cell? ⟨w.heap.size,2,none⟩=some (.int .i64 B):=hb1.cell (by simp);clear hat hb1 r1 r2 hm hB;go_wp2_with fail;refine (hpk _).mono ?_;rintro e w2 ⟨rfl,rfl⟩;clear hpk;go_wp2_with fail;refine (hpu _ _ (by solve_by_elim [jA,jB,jC,jD,jE]) ?_).mono ?_
 ·simp only [ByteArray.size_extract];omega
 rintro e w2 ⟨rfl,x2,h2,hp2⟩;have H2:=jp h2;clear h2 hpu;go_wp2;go_ret;exact ⟨rfl,x2,H2.out,hp2⟩
theorem U4 (W0:Aw) (s:Nat) (x:WG) (A B C:Int) (S:ByteArray) (w:World) (h:Ao W0 s x w) (hs:s≤150000) (hA:Aj A):
  Calls Tryz.prog 44 #[.pointer (some ⟨x.p,0,none⟩),AB 21 A B C S] w (Gy W0 x.p (s+1)):=by
 have hat:=fun wx (b:Aa w wx)=>FI W0 s x A wx (h.later b) hs hA
 have hpu:=fun wx (t:ByteArray) (b:Aa w wx) (hS:t.size≤1099511627776)=>J2 W0 s x t wx (h.later b) hs hS
 generalize x.p=p at *;clear h hA;unfold AB;go_enter Tryz.func44,Tryz.ntmps44;go_wp2_with fail;refine (hat _ (by solve_by_elim [jA,jB,jC,jD,jE])).mono ?_;rintro e w1 ⟨t,rfl,hb1,ht⟩;have hbw:Aa w w1:=(Aa.step_alloc (jD w) _).trans hb1;clear hat hb1;by_cases h4:4<t.size
 ·go_wp2_with fail;refine (D3 _ _ ?_).mono ?_
  ·simp only [ByteArray.size_extract];omega
  rintro e w2 ⟨u,rfl,hb2,hu⟩;have hbw2:=hbw.trans hb2
  have hu2:u.size≤1099511627776:=by
   simp only [ByteArray.size_extract] at hu;omega
  clear hu hb2;go_wp2_with fail;refine (hpu _ _ hbw2 hu2).mono ?_;rintro e w3 ⟨rfl,x2,h2,hp2⟩;have H2:=jp h2;clear h2 hpu;go_wp2;go_ret;exact ⟨rfl,x2,H2.out,hp2⟩
 ·go_wp2_with fail;refine (hpu _ _ hbw ht).mono ?_;rintro e w3 ⟨rfl,x2,h2,hp2⟩;have H2:=jp h2;clear h2 hpu;go_wp2;go_ret;exact ⟨rfl,x2,H2.out,hp2⟩
def Xr (w:World) (e:Ending) (w':World):Prop:=e= .returned (.bool false)∧Aa w w'
theorem Gu (p:Nat) (k A B C:Int) (S:ByteArray) (w:World) (hk:k≠1∧k≠2∧k≠18∧k≠19∧k≠20∧k≠21∧k≠25):
  Calls Tryz.prog 44 #[.pointer (some ⟨p,0,none⟩),AB k A B C S] w (Xr w):=by
 obtain ⟨k1,k2,k3,k4,k5,k6,k7⟩:=hk;have b1:(k==1)=false:=by rw [jI];exact k1
 have b2:(k==2)=false:=by rw [jI];exact k2
 have b3:(k==18)=false:=by rw [jI];exact k3
 have b4:(k==19)=false:=by rw [jI];exact k4
 have b5:(k==20)=false:=by rw [jI];exact k5
 have b6:(k==21)=false:=by rw [jI];exact k6
 have b7:(k==25)=false:=by rw [jI];exact k7
 clear k1 k2 k3 k4 k5 k6 k7;unfold AB;go_enter Tryz.func44,Tryz.ntmps44;go_wp2;go_ret;exact ⟨rfl,by solve_by_elim [jA,jB,jC,jD,jE]⟩
theorem Fo {w:World} {base n:Nat} {e:TypeId} {v:Value} {xs:List Value} (h:w.ownsRow base e 1 v n xs) (hn:0<n):∃g cap,v= .slice (some ⟨g,0,none⟩) n cap∧base≤g∧g<w.heap.size∧∀j,j<n→w.cell? ⟨g,j,none⟩=xs[j]?:=by
 obtain ⟨g,cap,rfl,h1,h2⟩:=World.ownsRow.form h hn;exact ⟨g,cap,rfl,h1,h2,fun j hj=>World.ownsRow.cellAt h j (by omega)⟩
theorem Aa.both {a b:World} (h:Aa a b) (x:Addr) (u:Value):Aa (a.setCell x u) (b.setCell x u):=by
 have hsz:(a.setCell x u).heap.size≤(b.setCell x u).heap.size:=by simpa [World.setCell] using h.size
 have hbk:∀k,k<(a.setCell x u).heap.size→(b.setCell x u).heap[k]?=(a.setCell x u).heap[k]?:=fun k hk=>by
  have hk':k<a.heap.size:=by simpa [World.setCell] using hk
  simp only [World.setCell,Array.getElem?_modify];rw [h.block k hk']
 have hb:Below (a.setCell x u).heap.size (a.setCell x u) (b.setCell x u):={os:=h.below.os,tape:=h.below.tape,output:=h.below.output,size:=hsz,block:=hbk};exact hb
def P7 (p:Nat) (n:Nat) (ga ca gb cb m g1 g2 L i:Nat) (w:World):Prop:=w.cell? ⟨p,8,none⟩=some (.slice (some ⟨ga,0,none⟩) n ca)∧w.cell? ⟨p,9,none⟩=some (.slice (some ⟨gb,0,none⟩) n cb)∧w.cell? ⟨ga,m,none⟩=some (.slice (some ⟨g1,0,none⟩) L L)∧w.cell? ⟨gb,m,none⟩=some (.slice (some ⟨g2,0,none⟩) L L)∧
 (∃t:ByteArray,w.cell? ⟨g1,i,none⟩=some (.string t))∧(∃t:ByteArray,w.cell? ⟨g2,i,none⟩=some (.string t))∧w.frozen? ⟨g1,i,none⟩=false∧w.frozen? ⟨g2,i,none⟩=false∧g1≠p∧g1≠ga∧g1≠gb∧g1≠g2
def Yg (w:World) (g1 g2 i:Nat) (S:ByteArray) (e:Ending) (w':World):Prop:=e= .returned (.bool true)∧Aa ((w.setCell ⟨g1,i,none⟩ (.string S)).setCell ⟨g2,i,none⟩ (.string S)) w'
theorem TT (p n ga ca gb cb m g1 g2 L i:Nat) (A B C:Int) (S:ByteArray) (w:World) (h:P7 p n ga ca gb cb m g1 g2 L i w) (hA:Aj A) (hB:Aj B) (hn:n≤200000) (hL:L≤65536) (hn0:0<n) (hL0:0<L) (hm:DA A n=m) (hi:DA B L=i) (hmn:m<n) (hiL:i<L):
  Calls Tryz.prog 44 #[.pointer (some ⟨p,0,none⟩),AB 25 A B C S] w (Yg w g1 g2 i S):=by
 obtain ⟨c8,c9,d1,d2,⟨t1,e1⟩,⟨t2,e2⟩,f1,f2,n1,n2,n3,n4⟩:=h;have hpk:=fun wx=>FJ A n wx hA (by omega) (by omega)
 have hpl:=fun wx=>FJ B L wx hB (by omega) (by omega)
 rw [hm] at hpk;rw [hi] at hpl;have l1:=jF c8;have l2:=jF d1;have l3:=jF d2;have l4:=jF e1;have l5:=jF e2;simp only at l1 l2 l3 l4 l5;clear hm hi hA hB;unfold AB;go_enter Tryz.func44,Tryz.ntmps44;go_wp2_with fail;have o1:(w.alloc (.cells #[.int .i64 25,.int .i64 A,.int .i64 B,.int .i64 C,.string S] 32)).cell? ⟨w.heap.size,1,none⟩=some (.int .i64 A):=by simp
 have o2:(w.alloc (.cells #[.int .i64 25,.int .i64 A,.int .i64 B,.int .i64 C,.string S] 32)).cell? ⟨w.heap.size,2,none⟩=some (.int .i64 B):=by simp
 have o4:(w.alloc (.cells #[.int .i64 25,.int .i64 A,.int .i64 B,.int .i64 C,.string S] 32)).cell? ⟨w.heap.size,4,none⟩=some (.string S):=by simp
 have hbo:Aa w (w.alloc (.cells #[.int .i64 25,.int .i64 A,.int .i64 B,.int .i64 C,.string S] 32)):=Aa.step_alloc (jD w) _;have k8:=hbo.cell c8;have k9:=hbo.cell c9;have kd1:=hbo.cell d1;have kd2:=hbo.cell d2;have ke1:=hbo.cell e1;have ke2:=hbo.cell e2;have kf1:=hbo.frozen e1 f1;have kf2:=hbo.frozen e2 f2;have hpo:g1≠w.heap.size:=by omega
 have HB:=jp hbo;generalize (w.alloc (.cells #[.int .i64 25,.int .i64 A,.int .i64 B,.int .i64 C,.string S] 32))=wo at *;generalize w.heap.size=po at o1 o2 o4 hpo ⊢;clear c8 c9 d1 d2 e1 e2 f1 f2 hbo l1 l2 l3 l4 l5;go_region_held3 (fun w'=>Aa wo w'∧w'.cell? ⟨po,1,none⟩=some (.int .i64 A)∧w'.cell? ⟨p,8,none⟩=some (.slice (some ⟨ga,0,none⟩) n ca)) ((exact ⟨by solve_by_elim [jA,jB,jC,jD,jE],Aa.cell (a:=wo) (by solve_by_elim [jA,jB,jC,jD,jE]) o1,Aa.cell (a:=wo) (by solve_by_elim [jA,jB,jC,jD,jE]) k8⟩)) ((go_at_call 47;refine (hpk _).mono ?_;rintro e w2 ⟨rfl,rfl⟩));go_wp2_with fail;go_region_held3 (fun w'=>Aa wo w'∧w'.cell? ⟨po,2,none⟩=some (.int .i64 B)∧w'.cell? ⟨p,8,none⟩=some (.slice (some ⟨ga,0,none⟩) n ca)∧w'.cell? ⟨ga,m,none⟩=some (.slice (some ⟨g1,0,none⟩) L L)) ((exact ⟨by solve_by_elim [jA,jB,jC,jD,jE],Aa.cell (a:=wo) (by solve_by_elim [jA,jB,jC,jD,jE]) o2,Aa.cell (a:=wo) (by solve_by_elim [jA,jB,jC,jD,jE]) k8,Aa.cell (a:=wo) (by solve_by_elim [jA,jB,jC,jD,jE]) kd1⟩)) ((go_at_call 47;refine (hpl _).mono ?_;rintro e w2 ⟨rfl,rfl⟩));go_wp2_with fail;go_region;have bW:Ab [g1] wo (wo.setCell ⟨g1,i,none⟩ (.string S)).drew.drew.drew:=(((Ab.refl _ _).set (by simp) _).drew).drew.drew;have q9:=bW.cell k9 (by simpa using Ne.symm n1);have qd:=bW.cell kd2 (by simpa using Ne.symm n3);have qo:=bW.cell o4 (by simpa using Ne.symm hpo);have qe:=bW.cell ke2 (by simpa using Ne.symm n4);have qf:=bW.frozen ke2 (by simpa using Ne.symm n4) kf2;have HW:Hid (Aa (w.setCell ⟨g1,i,none⟩ (.string S)) (wo.setCell ⟨g1,i,none⟩ (.string S)).drew.drew.drew):=(((HB.out.both _ _).step_drew).step_drew).step_drew;clear bW k8 k9 kd1 kd2 ke1 ke2 kf1 kf2 o1 o2 o4 HB hpk hpl;generalize (wo.setCell ⟨g1,i,none⟩ (.string S)).drew.drew.drew=w3 at *;go_wp2_with fail;go_region;have HF:=HW.out.both ⟨g2,i,none⟩ (.string S);clear HW q9 qd qo qe qf;go_wp2;go_ret;exact ⟨rfl,by solve_by_elim [jA,jB,jC,jD,jE]⟩
def Pc (w:World) (e:Ending) (w':World):Prop:=e= .returned (.bool true)∧Aa w w'
theorem Ud (p:Nat) (v:Value) (cap:Nat) (ao:Option Addr) (A B C:Int) (S:ByteArray) (w:World) (hv:v= .slice ao 0 cap) (c8:w.cell? ⟨p,8,none⟩=some v):Calls Tryz.prog 44 #[.pointer (some ⟨p,0,none⟩),AB 25 A B C S] w (Pc w):=by
 subst hv;have l1:=jF c8;simp only at l1;unfold AB;go_enter Tryz.func44,Tryz.ntmps44;go_wp2;go_ret;exact ⟨rfl,by solve_by_elim [jA,jB,jC,jD,jE]⟩
theorem Zn (p n ga ca m g1 cl:Nat) (A B C:Int) (S:ByteArray) (w:World) (c8:w.cell? ⟨p,8,none⟩=some (.slice (some ⟨ga,0,none⟩) n ca)) (d1:w.cell? ⟨ga,m,none⟩=some (.slice (some ⟨g1,0,none⟩) 0 cl)) (hA:Aj A) (hn:n≤200000) (hn0:0<n) (hm:DA A n=m) (hmn:m<n):
  Calls Tryz.prog 44 #[.pointer (some ⟨p,0,none⟩),AB 25 A B C S] w (Pc w):=by
 have hpk:=fun wx=>FJ A n wx hA (by omega) (by omega)
 rw [hm] at hpk;have l1:=jF c8;have l2:=jF d1;simp only at l1 l2;clear hm hA;unfold AB;go_enter Tryz.func44,Tryz.ntmps44;go_wp2_with fail;go_region_held3 (fun w'=>Aa w w'∧w'.cell? ⟨w.heap.size,1,none⟩=some (.int .i64 A)∧w'.cell? ⟨p,8,none⟩=some (.slice (some ⟨ga,0,none⟩) n ca)) ((exact ⟨by solve_by_elim [jA,jB,jC,jD,jE],by simp,Aa.cell (a:=w) (by solve_by_elim [jA,jB,jC,jD,jE]) c8⟩)) ((go_at_call 47;refine (hpk _).mono ?_;rintro e w2 ⟨rfl,rfl⟩));go_wp2;go_ret;exact ⟨rfl,by solve_by_elim [jA,jB,jC,jD,jE]⟩
theorem Ws (W0:Aw) (s:Nat) (x:WG) (A B C:Int) (S:ByteArray) (w:World) (h:Ao W0 s x w) (hs:s≤150000) (hA:Aj A) (hB:Aj B):
  Calls Tryz.prog 44 #[.pointer (some ⟨x.p,0,none⟩),AB 25 A B C S] w (Gy W0 x.p (s+1)):=by
 have h10:=h.2.2.2.2.2.2.2.2.2.1;have h11:=h.2.2.2.2.2.2.2.2.2.2.1;have hn:=h.2.2.2.2.2.2.2.2.2.2.2.1.2.2;by_cases h0:x.lss.length=0
 ·obtain ⟨ao,cap,hv⟩:=CP h10;rw [h0] at hv;refine (Ud x.p x.vls cap ao A B C S w hv (h.1.1 8 _ rfl)).mono ?_;rintro e w' ⟨rfl,b⟩;exact ⟨rfl,x,(h.later b).up (by omega),rfl⟩
 obtain ⟨ga,ca,hva, -, -,hca⟩:=Fo h10 (by omega);obtain ⟨gb,cb,hvb, -, -,hcb⟩:=Fo h11 (by omega);obtain ⟨r1,r2⟩:=FQ A x.lss.length (by omega);obtain ⟨m,hm⟩:=jM r1;have hml:m<x.lss.length:=by omega
 have hl:=h.2.2.2.2.2.2.2.2.2.2.2.2.1 _ (jJ hml);have d1:w.cell? ⟨ga,m,none⟩=some (sl (x.lss[m]).g1 (x.lss[m]).T.length (x.lss[m]).T.length):=(hca m hml).trans (by simp [hml]);have d2:w.cell? ⟨gb,m,none⟩=some (sl (x.lss[m]).g2 (x.lss[m]).T.length (x.lss[m]).T.length):=(hcb m hml).trans (by simp [hml]);have c8:=h.1.1 8 _ rfl;have c9:=h.1.1 9 _ rfl;rw [hva] at c8;rw [hvb] at c9;by_cases hL0:(x.lss[m]).T.length=0
 ·unfold sl at d1;rw [hL0] at d1;refine (Zn x.p x.lss.length ga ca m (x.lss[m]).g1 0 A B C S w c8 d1 hA (by omega) (by omega) hm hml).mono ?_;rintro e w' ⟨rfl,b⟩;exact ⟨rfl,x,(h.later b).up (by omega),rfl⟩
 obtain ⟨q1,q2⟩:=FQ B (x.lss[m]).T.length (by omega);obtain ⟨i,hi⟩:=jM q1;have hil:i<(x.lss[m]).T.length:=by omega
 have hc:=DK h.2.2.1;have he:=WG.count x;have h1k:∀j,[(x.lss[m]).g1,(x.lss[m]).g2].count j≤(x.lss.flatMap (fun l=>[l.g1,l.g2])).count j:=fun j=>FL (fun l:GA=>[l.g1,l.g2]) j _ _ (jJ hml)
 have hg1:1≤[(x.lss[m]).g1,(x.lss[m]).g2].count (x.lss[m]).g1:=Ak.1 (by simp);have b1:=h1k (x.lss[m]).g1;have b2:=he (x.lss[m]).g1;have b3:=hc (x.lss[m]).g1
 have hpre:P7 x.p x.lss.length ga ca gb cb m (x.lss[m]).g1 (x.lss[m]).g2 (x.lss[m]).T.length i w:=by
  refine ⟨c8,c9,d1,d2,⟨(x.lss[m]).T[i],(World.ownsRow.cellAt hl.1 i (by omega)).trans (by simp [hil])⟩,⟨(x.lss[m]).T[i],(World.ownsRow.cellAt hl.2.1 i (by omega)).trans (by simp [hil])⟩,World.ownsRow.frozenAt hl.1 i,World.ownsRow.frozenAt hl.2.1 i,fun e=>?_,fun e=>?_,fun e=>?_,fun e=>?_⟩
  ·have a1:1≤[x.p].count (x.lss[m]).g1:=Ak.1 (by simp [e]);omega
  ·have a1:1≤x.vls.ownBlock.toList.count (x.lss[m]).g1:=Ak.1 (by rw [hva,e];simp [Value.ownBlock]);omega
  ·have a1:1≤x.vlw.ownBlock.toList.count (x.lss[m]).g1:=Ak.1 (by rw [hvb,e];simp [Value.ownBlock]);omega
  ·have:[(x.lss[m]).g1,(x.lss[m]).g2].count (x.lss[m]).g1=2:=by rw [←e];simp
   omega
 refine (TT x.p x.lss.length ga ca gb cb m (x.lss[m]).g1 (x.lss[m]).g2 (x.lss[m]).T.length i A B C S w hpre hA hB (by omega) hl.2.2 (by omega) (by omega) hm hi hml hil).mono ?_;rintro e w' ⟨rfl,b⟩;exact ⟨rfl,_,((h.cell m hml i S).later b).up (by omega),rfl⟩
theorem Vj (w:World) (t:ByteArray):∃cap w2,(convert 9 105 (.string t)).run Tryz.prog w= .ok (.slice (some ⟨w.heap.size,0,none⟩) t.size cap) w2∧Aa w w2∧w.heap.size<w2.heap.size∧(∀j (h:j<t.data.size),w2.cell? ⟨w.heap.size,j,none⟩=some (.int .u8 (t.data[j].toNat:Int)))∧∀j,j<t.size→w2.frozen? ⟨w.heap.size,j,none⟩=false:=by
 have hrun:=run_bytes_of_string (P:=Tryz.prog) w 9 105 5 t Tryz.underlying9 Tryz.underlying105 Tryz.underlying5;generalize hcap:grownCap w t.size 0 5=cap at hrun
 have hg:(w.drew.alloc (.cells (bytesRow t cap) 5 ((bytesRow t cap).size,(bytesRow t cap).size+1))).heap[w.heap.size]?=some (.cells (bytesRow t cap) 5 ((bytesRow t cap).size,(bytesRow t cap).size+1)):=by
  show (w.heap.push _)[w.heap.size]?=_;simp
 have hsz:t.size≤(bytesRow t cap).size:=by
  unfold bytesRow;rw [Array.size_append,Array.size_map];exact Nat.le_add_right _ _
 refine ⟨cap,_,hrun,(jB (jD w)).step_alloc _,?_,fun j h=>?_,fun j h=>?_⟩
 ·show w.heap.size<(w.heap.push _).size;simp
 ·rw [cell_of_row _ w.heap.size j _ _ _ hg];exact bytesRow_at t cap j h
 ·unfold World.frozen?;simp only [hg];simp;omega
theorem Xi (a b:Int):∃v:UInt8,bits BinOp.xor IntKind.u8 a b=(v.toNat:Int):=by
 have h:bits BinOp.xor IntKind.u8 a b=IntKind.u8.wrap ((BitVec.ofInt 8 a ^^^ BitVec.ofInt 8 b).toNat:Int):=rfl;rw [h,IntKind.wrap_u8];generalize ((BitVec.ofInt 8 a ^^^ BitVec.ofInt 8 b).toNat:Int)=x;refine ⟨UInt8.ofNat (x % 256).toNat,?_⟩;have h1:=Int.emod_nonneg x (b:=256) (by decide);have h2:=Int.emod_lt_of_pos x (b:=256) (by decide);simp [UInt8.toNat_ofNat'];omega
theorem Tl (W0:Aw) (s:Nat) (x:WG) (A B C:Int) (S:ByteArray) (w:World) (h:Ao W0 s x w) (hs:s≤150000) (hA:Aj A) (hB:Aj B) (_hC:Aj C):
  Calls Tryz.prog 44 #[.pointer (some ⟨x.p,0,none⟩),AB 19 A B C S] w (Gy W0 x.p (s+1)):=by
 have hat:=fun wx (b:Aa w wx)=>FI W0 s x A wx (h.later b) hs hA
 have hpu:=fun wx (t:ByteArray) (b:Aa w wx) (hS:t.size≤1099511627776)=>J2 W0 s x t wx (h.later b) hs hS
 generalize x.p=p at *;clear h hA;unfold AB;go_enter Tryz.func44,Tryz.ntmps44;go_wp2_with fail;refine (hat _ (by solve_by_elim [jA,jB,jC,jD,jE])).mono ?_;rintro e w1 ⟨t,rfl,hb1,ht⟩;have hbw:Aa w w1:=(Aa.step_alloc (jD w) _).trans hb1;have o2:w1.cell? ⟨w.heap.size,2,none⟩=some (.int .i64 B):=hb1.cell (by simp);have o3:w1.cell? ⟨w.heap.size,3,none⟩=some (.int .i64 C):=hb1.cell (by simp);have hpo:w.heap.size<w1.heap.size:=jF o2;clear hat hb1;generalize w.heap.size=po at *;obtain ⟨cap,w2,hcv,hb2,hg2,hcel,hfrz⟩:=Vj w1 t;have hbw2:=hbw.trans hb2;have k2:=hb2.cell o2;have k3:=hb2.cell o3;have hgp:po≠w1.heap.size:=by omega
 have HSET:Hid (∀(u:Value) (o:Nat),Aa w (w2.setCell ⟨w1.heap.size,o,none⟩ u).drew):=fun u o=>(hbw2.step_set (p:=⟨w1.heap.size,o,none⟩) hbw.size u).step_drew
 generalize w1.heap.size=g at *;by_cases h0:t.size=0
 ·have hbk:=run_convert_bytes_back (P:=Tryz.prog) w2 105 9 5 ⟨g,0,none⟩ cap [] Tryz.underlying105 Tryz.underlying5 Tryz.underlying9 (fun j hj=>by simp at hj);simp only [List.length_nil] at hbk;rw [h0] at hcv;clear hcel hfrz;go_wp2_with fail;refine (hpu _ _ hbw2 (by decide)).mono ?_;rintro e w3 ⟨rfl,x2,h2,hp2⟩;have H2:=jp h2;clear h2 hpu;go_wp2;go_ret;exact ⟨rfl,x2,H2.out,hp2⟩
 ·have hpk:=fun wx=>FJ B t.size wx hB (by omega) (by omega)
  obtain ⟨r1,r2⟩:=FQ B t.size (by omega);obtain ⟨m,hm⟩:=jM r1;rw [hm] at hpk r2;have hmt:m<t.size:=by omega
  have hmt2:m<t.data.size:=hmt;have e1:=hcel m hmt2;have f1:=hfrz m hmt;have hts:t.data.toList.length=t.size:=by rw [Array.length_toList];rfl
  have HCEL:=jp hcel;clear hcel hfrz r1 r2 hm hB;go_wp2_with fail;refine (hpk _).mono ?_;rintro e w3 ⟨rfl,rfl⟩;clear hpk;go_wp2_with fail;go_region;obtain ⟨v,hv⟩:=Xi (t.data[m].toNat) (C % 256);rw [hv];have hl:(t.data.toList.set m v).length=t.size:=by rw [List.length_set];exact hts
  have hbk := run_convert_bytes_back (P := Tryz.prog) ((w2.setCell ⟨g, m, none⟩ (.int .u8 (v.toNat : Int))).drew) 105 9 5 ⟨g, 0, none⟩ cap (t.data.toList.set m v) Tryz.underlying105 Tryz.underlying5 Tryz.underlying9 (fun j hj => by
    have hadd : (⟨g, 0, none⟩ : Addr).add j = ⟨g, j, none⟩ := by unfold Addr.add; split <;> simp_all
    rw [hadd]
    have hjt : j < t.data.size := by
      have : j < t.size := by omega
      exact this
    show (w2.setCell ⟨g, m, none⟩ (.int .u8 (v.toNat : Int))).cell? ⟨g, j, none⟩ = _
    by_cases hjm : m = j
    · subst hjm
      rw [Bc e1]
      simp
    · rw [Ad (Or.inr hjm), HCEL.out j hjt, List.getElem_set_ne hjm]
      simp)
  rw [hl] at hbk;have HBW3:=HSET.out (.int .u8 (v.toNat:Int)) m
  have hsz3:(⟨(t.data.toList.set m v).toArray⟩:ByteArray).size≤1099511627776:=by
   show (t.data.toList.set m v).toArray.size≤_;rw [List.size_toArray,hl];exact ht
  generalize (⟨(t.data.toList.set m v).toArray⟩:ByteArray)=y at *;generalize (w2.setCell ⟨g,m,none⟩ (.int .u8 (v.toNat:Int))).drew=w4 at *;clear HSET e1 f1 HCEL hv hl;go_wp2_with fail;refine (hpu _ _ HBW3 hsz3).mono ?_;rintro e w5 ⟨rfl,x2,h2,hp2⟩;have H2:=jp h2;clear h2 hpu;go_wp2;go_ret;exact ⟨rfl,x2,H2.out,hp2⟩
end Go.Proofs.YtpapdkhjdelfcabGreat
