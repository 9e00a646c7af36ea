import Derived.Test.YtpapdkhjdelfcabGreatLBO
import Derived.Test.YtpapdkhjdelfcabGreatLBV
import Derived.Deep.AppendLies
import Derived.Deep.QuietTactic
import Derived.BigQuiet
namespace Go.Proofs.YtpapdkhjdelfcabGreat
open Go.RowKit
set_option maxRecDepth 100000
set_option maxHeartbeats 4000000
theorem R3 (W0:Aw) (s:Nat) (x:WG) (k:Nat) (hk:k<x.prs.length) (A B C:Int) (S:ByteArray) (w:World) (h:Ao W0 s x w) (hS:S.size≤65536):
  Calls Tryz.prog 50 #[.pointer (some ⟨x.p,0,none⟩),.pointer (some ⟨(x.prs[k]).a,0,none⟩),AB 10 A B C S] w (Hg W0 x.p (s+1)):=by
 have hat:=h.pair_at k hk;have hmk:=Je (x.prs[k]).c (x.prs[k]).B hat.2.2.2.2.1 hat.2.2.2.1.1;have hlo:=fun wx (b:Aa w wx)=>Uf x.M (x.prs[k]).q (x.prs[k]).c (x.prs[k]).B (x.prs[k]).g S wx (hat.2.1.later b) hmk hat.2.2.2.2.1 (by omega)
 have H2:Hid (∀wx,Aa w wx→Hg W0 x.p (s+1) (.returned (.bool true)) wx):=fun wx hb=>⟨rfl,x,(h.later hb).up (by omega),rfl⟩
 have hcase:=Lg hat;generalize x.M=M0 at *;generalize x.prs[k]=y at *;generalize x.p=p at *;have c0:=hat.1.1 0 _ rfl;have c8:=hat.1.1 8 _ rfl;have hal:=jF c0;simp only at hal;clear hat h hmk;unfold AB;obtain ⟨LO,hLO⟩:∃X,X=IT y.c y.B y.g S:=⟨_,rfl⟩;rw [←hLO] at hlo;have HLO:=jp hLO;clear hLO;obtain ⟨l1,l2⟩:=LO;unfold EH at hlo;simp only at hlo;go_enter Tryz.func50,Tryz.ntmps50;go_wp2_with fail;obtain ⟨wo,hwo,hbo,o0,o1,o2,o3,o4⟩:=BV w (.int .i64 10) (.int .i64 A) (.int .i64 B) (.int .i64 C) (.string S) 32;rw [hwo];clear hwo;have k0:=hbo.cell c0;have k8:=hbo.cell c8;generalize w.heap.size=po at o0 o1 o2 o3 o4 ⊢;go_region_held3 (fun w'=>Aa wo w'∧w'.cell? ⟨y.a,0,none⟩=some (.pointer (some ⟨y.q,0,none⟩))∧w'.cell? ⟨po,4,none⟩=some (.string S)) ((exact ⟨by solve_by_elim [jA,jB,jC,jD,jE],Aa.cell (a:=wo) (by solve_by_elim [jA,jB,jC,jD,jE]) k0,Aa.cell (a:=wo) (by solve_by_elim [jA,jB,jC,jD,jE]) o4⟩)) ((go_at_call 103;refine (hlo _ (by solve_by_elim [jA,jB,jC,jD,jE])).mono ?_;rintro e w1 ⟨rfl,hb1⟩));have hbo1:Aa wo w1:=by solve_by_elim [jA,jB,jC,jD,jE]
 have hbw1:Aa w w1:=hbo.trans hbo1;have m8:=hbo1.cell k8;have m4:=hbo1.cell o4;clear o0 o1 o2 o3 o4 k0 k8 c0 c8 hlo hb1 hbo hbo1;rcases hcase with ⟨hv,hg, -⟩|⟨q,E,hv,hst,hok,hW,hte,hg⟩
 ·rw [hv] at m8;have hl:(l1,l2)=(ByteArray.empty,(7:Int)):=by rw [HLO.out,IT,if_pos hg]
  obtain ⟨rfl,rfl⟩:=Prod.mk.inj hl;clear HLO hl;go_wp2;go_ret;exact H2.out _ (by solve_by_elim [jA,jB,jC,jD,jE])
 ·rw [hv] at m8;have hl:(l1,l2)=Ee y.c y.B S:=by rw [HLO.out,IT,if_neg hg]
  have hch:=fun wx (b:Aa w1 wx)=>Uv q y.c y.g y.B E S wx (hst.later (hbw1.trans b)) hok hW (by omega) hte
  rw [←hl] at hch;unfold EH at hch;simp only at hch;have hl1:(l1.toList==l1.toList)=true:=FE.2 rfl;clear HLO hl hst hok hW hte;go_wp2_with fail;go_region_held3 (fun w'=>Aa w1 w'∧w'.cell? ⟨y.a,8,none⟩=some (.pointer (some ⟨q,0,none⟩))∧w'.cell? ⟨po,4,none⟩=some (.string S)) ((exact ⟨by solve_by_elim [jA,jB,jC,jD,jE],Aa.cell (a:=w1) (by solve_by_elim [jA,jB,jC,jD,jE]) m8,Aa.cell (a:=w1) (by solve_by_elim [jA,jB,jC,jD,jE]) m4⟩)) ((go_at_call 104;refine (hch _ (by solve_by_elim [jA,jB,jC,jD,jE])).mono ?_;rintro e w3 ⟨rfl,hb3⟩));have hb13:Aa w1 w3:=by solve_by_elim [jA,jB,jC,jD,jE]
  clear hch m8 m4;go_wp2;go_ret;exact H2.out _ (hbw1.trans hb13)
theorem Tryz.infoPln:(Tryz.prog.info? 134).map (fun i=>(i.zero,i.size,i.bytes))=some (some (.pointer none),1,8):=by kernel_rfl
def IX (base:Nat) (M:List Nat) (y:Ah) (w:World) (e:Ending) (w':World):Prop:=e= .returned (.bool true)∧El base M y w w'
theorem TN (base:Nat) (M:List Nat) (y:Ah) (f:Int) (w:World) (h:AM base M y w) (hev:y.even) (hb:base≤w.heap.size):
  Calls Tryz.prog 51 #[.pointer (some ⟨y.a,0,none⟩),.int .i64 f] w (IX base M y w):=by
 obtain ⟨i0,hi,hz0,hz1,hz2⟩:=info_parts Tryz.infoPln;have c0:=h.1.1.1 0 _ rfl;have c9:=h.1.1.1 9 _ rfl;have f9:=h.1.1.2 9 (by simp [Ah.cells]);have hrow:=h.1.2.2.2.2.2.2.2.1;have hlen:=h.1.2.2.2.2.2.2.2.2.1;have hle:=h.le y.a;have h1a:=GS y.a
 have hpA:y.a∉y.vp.ownBlock.toList:=fun e=>by
  have:=Ak.1 e;omega
 have HD:=jp h;obtain ⟨ao,cap,hv⟩:=CP hrow;have HR:=jp hrow;have hal:=h.mem.2.2.1;have hend:∀wx,Aa w wx→Hid (IX base M y w (.returned (.bool true)) wx):=fun wx hb=>⟨rfl,HD.out.unchanged hev hb⟩
 have hsv:=h.1.2.1;have hpl4:y.pp.length=y.ps.length:=hev;clear h hrow hle h1a;by_cases hf:f<1∨3<f
 ·have hfb:(decide (f<1)||decide (3<f))=true:=by simpa using hf
  have hjn:=Xm y.q f w (by omega);clear hsv;go_enter Tryz.func51,Tryz.ntmps51;go_wp2_with fail;refine hjn.mono ?_;rintro e w1 ⟨rfl,hb1⟩;have HE:=hend w1 hb1;clear hjn hend;go_wp2
  all_goals
   go_ret;exact HE.out
 ·have hfb:(decide (f<1)||decide (3<f))=false:=by simpa using hf
  by_cases h4:y.ps.length=4
  ·have hjn:=XH (f:=f) hsv (show 4≤y.pp.length by omega) ⟨by omega,by omega⟩;rw [hv,h4] at c9;clear hsv;go_enter Tryz.func51,Tryz.ntmps51;go_wp2_with fail;refine hjn.mono ?_;rintro e w1 ⟨rfl,hb1⟩;have HE:=hend w1 hb1;have d9:=hb1.cell c9;clear hjn hend c9;go_wp2
   all_goals
    go_ret;exact HE.out
  ·have h4b:((y.ps.length:Int)==4)=false:=by rw [jI];omega
   have hf3:0≤f∧f≤3:=by omega
   obtain ⟨fm,rfl⟩:=jM hf3.1;have hjn:=(Qv (x:=y.svp) hsv HD.out.2.1 (show y.pp.length<4 by omega) (show 1≤fm∧fm≤3 by omega)).mono (fun e w' hr=>HD.out.joinP hr);rw [hpl4] at hjn;have HV:=jp hv;have HP4:=jp hpl4;clear hend hsv HR hpl4;generalize hfi:((fm:Nat):Int)=f at *;go_enter Tryz.func51,Tryz.ntmps51;go_wp2_with fail;refine hjn.mono ?_;rintro e w1 ⟨rfl,pz,L',hr1⟩;obtain ⟨M1,hat1⟩:=hr1.at;have hsb:=hr1.size;have x9:w1.cell? ⟨y.a,9,none⟩=some y.vp:=hat1.1.1 9 _ rfl;have y9:w1.frozen? ⟨y.a,9,none⟩=false:=hat1.1.2 9 (by simp [Ah.cells]);have HR:Hid (w1.ownsRow base 134 1 y.vp y.ps.length (y.ps.map fun z=>Value.pointer (some ⟨z.p,0,none⟩))):=hat1.2.2.2.2.2.2.2.1;have HQ:=jp hr1;have hpl:∀wx,Aa (w1.alloc (.cells #[.int .i64 f,.pointer none,.int .i64 0,.int .i64 0,.slice none 0 0,.bool false] 136)) wx→BX wx w1.heap.size f (.pointer none) 0 0 (.slice none 0 0) false:=fun wx b=>BX.later ⟨⟨by simp,by simp,by simp,by simp,by simp,by simp⟩,fun j=>by simp⟩ b
   have HPL:=jp hpl;rw [hv] at x9;have hal1:=jF x9;clear hjn hpl hat1 hr1 c0 c9 f9;go_wp2_with (first|(at_builtin;refine wpList_append_lies _ rfl _ _ 80 rfl base 134 i0 (.pointer none) 1 8 Tryz.underlying80 hi hz0 hz1 hz2 rfl (by decide) _ y.ps.length (y.ps.map fun z=>Value.pointer (some ⟨z.p,0,none⟩)) rfl ?p1 ⟨w1.heap.size+1,0,none⟩ 1 1 [.pointer (some ⟨w1.heap.size,0,none⟩)] rfl rfl ?d1 ?d2 (by decide) ?d3 ?d4 ?d5 _ rfl ?_))
   case p1=>rw [←HV.out];exact World.ownsRow.alloc (World.ownsRow.alloc HR.out _) _
   try (case d1=>exact Fz _ _ _ _ (by simp))
   case d2=>first|rfl|(intro u hu;simp at hu;subst hu;rfl)
   case d3=>unfold maxLen;omega
   case d4=>omega
   case d5=>first|omega|(simp;omega)
   intro g cap3 w3 hown3 hgrow3 hat3 hlt3;rw [←HV.out] at hgrow3 hat3;have b1:=(Aa.step_alloc (Aa.step_alloc (jD w1) (.cells #[.int .i64 f,.pointer none,.int .i64 0,.int .i64 0,.slice none 0 0,.bool false] 136)) (.cells #[.pointer (some ⟨w1.heap.size,0,none⟩)] 134));have HP1:=jp (HPL.out _ (Aa.step_alloc (jD _) (.cells #[.pointer (some ⟨w1.heap.size,0,none⟩)] 134)));have b3:=IW hgrow3;have b13:Ab y.vp.ownBlock.toList w1 w3:=(Ab.of_bel b1).trans b3;have z9:=b13.cell x9 hpA;have u9:=b13.frozen x9 hpA y9
   have HJ:Hid (El base M y w (w3.setCell ⟨y.a,9,none⟩ (.slice (some ⟨g,0,none⟩) (y.ps.length+1) cap3))):=by
    refine ⟨_,HD.out.then HQ.out rfl (fun M' hD'=>hD'.join b1 (jH _) (by simp;omega) HP1.out hf3 b3 hown3 (hat3.imp id (fun e=>by simp at e ⊢;omega)) (by show y.ps.length<4;omega)),?_⟩;show (y.pp++[_]).length=(y.ps++[_]).length;have:=HP4.out;simp;omega
   clear hown3 hgrow3 hat3 HP1 HPL HD HR HV HQ b13 x9 y9;go_wp2
   all_goals
    go_ret;exact ⟨rfl,HJ.out⟩
theorem Tryz.uC:Tryz.prog.underlying 34=some (.struct (Tryz.prog.fieldsOf 34)):=by kernel_rfl
theorem Tryz.sC:Tryz.prog.stoodInHeld 34=false:=by kernel_rfl
def Ll (c d:Ac):Bool:=!(c.alg==d.alg && (c.slots==d.slots && (c.points==d.points && (c.probes==d.probes && (c.key.toList==d.key.toList && c.formats==d.formats)))))
theorem UQ (c d:Ac) (w:World):(binOp .neq 34 (.agg #[.int .i64 c.alg,.int .i64 c.slots,.int .i64 c.points,.int .i64 c.probes,.string c.key,.int .i64 c.formats]) (.agg #[.int .i64 d.alg,.int .i64 d.slots,.int .i64 d.points,.int .i64 d.probes,.string d.key,.int .i64 d.formats])).run Tryz.prog w= .ok (.bool (Ll c d)) w:=by
 rw [run_neq_struct,run_equalIn_struct w 9999 _ _ _ Tryz.uC Tryz.sC];unfold Ll;simp [go_sem];by_cases h1:c.alg=d.alg <;>by_cases h2:c.slots=d.slots <;>by_cases h3:c.points=d.points <;>by_cases h4:c.probes=d.probes <;>by_cases h5:c.key.toList=d.key.toList <;>by_cases h6:c.formats=d.formats <;>simp [h1,h2,h3,h4,h5,h6]
def IP (v:Value) (w:World):Prop:=∃(p:Nat) (c:Ac) (gen:Int) (B:List BK) (E:List EN),v= .pointer (some ⟨p,0,none⟩)∧Bz w p c gen B E∧Dh c gen B E∧(∀x∈E,Af x.2.1∧Af x.2.2)∧E.length≤65535
theorem IP.later {v:Value} {w w':World} (h:IP v w) (b:Aa w w'):IP v w':=by
 obtain ⟨p,c,gen,B,E,h1,h2,r⟩:=h;exact ⟨p,c,gen,B,E,h1,h2.later b,r⟩
def U5 (w:World) (e:Ending) (w':World):Prop:=∃(v:Value) (f:Int) (ok:Bool),e= .returned (.tuple #[v,.int .i64 f,.bool ok])∧Aa w w'∧(ok=true→IP v w')
theorem NM (s:ByteArray) (w:World) (hs:s.size≤1099511627776):Calls Tryz.prog 88 #[.string s] w (U5 w):=by
 refine (L7 s w hs).mono ?_;rintro e w' ⟨v,f,ok,rfl,hb,h⟩;refine ⟨v,f,ok,rfl,hb,fun h1=>?_⟩;obtain ⟨p,c,gen,B,E,r1, -,r2,r3,r4, -, -, -,r5⟩:=h h1;exact ⟨p,c,gen,B,E,r1,r2.state,r3,r4,r5⟩
theorem Zj (W0:Aw) (s:Nat) (x:WG) (A B C:Int) (S:ByteArray) (w:World) (h:Ao W0 s x w) (hs:s≤150000) (hA:Aj A) (hB:Aj B):
  Calls Tryz.prog 46 #[.pointer (some ⟨x.p,0,none⟩),AB 22 A B C S] w (Cc W0 x.p (s+1)):=by
 have ha1:=fun wx (b:Aa w wx)=>FI W0 s x A wx (h.later b) hs hA
 have ha2:=fun wx (b:Aa w wx)=>FI W0 s x B wx (h.later b) hs hB
 have hend:Hid (∀wx (b:Bool),Aa w wx→Cc W0 x.p (s+1) (.returned (.bool b)) wx):=fun wx b hb=>⟨b,rfl,x,(h.later hb).up (by omega),rfl⟩
 generalize x.p=p at *;clear h;unfold AB;go_enter Tryz.func46,Tryz.ntmps46;go_wp2_with fail;obtain ⟨wo,hwo,hbo,o0,o1,o2,o3,o4⟩:=BV w (.int .i64 22) (.int .i64 A) (.int .i64 B) (.int .i64 C) (.string S) 32;rw [hwo];clear hwo;generalize w.heap.size=po at o0 o1 o2 o3 o4 ⊢;refine (ha1 _ hbo).mono ?_;rintro e w1 ⟨a,rfl,hb1,hsa⟩;have q2:=hb1.cell o2;have q0:=hb1.cell o0;have hbw1:=hbo.trans hb1;clear ha1 o0 o1 o2 o3 o4 hb1 hbo;go_wp2_with fail;refine (ha2 _ hbw1).mono ?_;rintro e w2 ⟨b,rfl,hb2,hsb⟩;have r0:=hb2.cell q0;have hbw2:=hbw1.trans hb2;clear ha2 q0 q2 hb2 hbw1;go_wp2_with fail;refine (NM a w2 hsa).mono ?_;rintro e w3 ⟨vx,fx,okx,rfl,hb3,hx⟩;have r1:=hb3.cell r0;have hbw3:=hbw2.trans hb3;clear r0 hb3 hbw2;go_wp2_with fail;refine (NM b w3 hsb).mono ?_;rintro e w4 ⟨vy,fy,oky,rfl,hb4,hy⟩;have r2:=hb4.cell r1;have hbw4:=hbw3.trans hb4;have hx4:okx=true→IP vx w4:=fun e=>(hx e).later hb4
 clear r1 hbw3 hx hy hb4;go_wp2_with fail;refine (Ti a _ hsa).mono ?_;rintro e W5 ⟨s5,t5,g5,n5,rfl,hb5⟩;have r3:=hb5.cell r2;have HBW5:=hbw4.trans hb5;have HX5:okx=true→IP vx W5:=fun e=>(hx4 e).later hb5
 clear r2 hbw4 hx4 hb5;cases okx
 ·clear HX5;go_wp2
  all_goals
   go_ret;exact hend.out _ _ (by solve_by_elim [jA,jB,jC,jD,jE])
 ·obtain ⟨pp,c,gen,Bx,E,rfl,hst,hok,hW, -⟩:=HX5 rfl;have hI:∀x∈E,Aj x.2.1∧Aj x.2.2:=fun x hx=>⟨(hW x hx).1.toI64,(hW x hx).2.toI64⟩
  have hi1:=fun wx (b:Aa W5 wx)=>Fw pp c gen Bx E 1 wx (hst.later b) hok ⟨by decide,by decide⟩ hI
  have hi2:=fun wx (b:Aa W5 wx)=>Fw pp c gen Bx E 2 wx (hst.later b) hok ⟨by decide,by decide⟩ hI
  obtain ⟨vB,vE, -,s6, -⟩:=hst;clear HX5 hW hI hok;go_wp2_with fail;refine (hi1 _ (jD _)).mono ?_;rintro e w6 ⟨m1,rfl,hb6, -⟩;go_wp2_with fail;refine (hi2 _ hb6).mono ?_;rintro e w7 ⟨m2,rfl,hb7, -⟩;have hb47:=hb6.trans hb7;have t6:=hb47.cell s6;have hbw7:=HBW5.trans hb47;clear hi1 hi2 hb6 hb7 s6;go_wp2
  all_goals
   go_ret;exact hend.out _ _ (by solve_by_elim [jA,jB,jC,jD,jE])
def DM (base:Nat) (v:Value) (w:World):Prop:=∃(p:Nat) (c:Ac) (gen:Int) (B:List BK) (E:List EN),v= .pointer (some ⟨p,0,none⟩)∧CL base w p c gen B E∧Dh c gen B E∧(∀x∈E,Af x.2.1∧Af x.2.2)∧E.length≤65535
theorem DM.later {base:Nat} {v:Value} {w w':World} (h:DM base v w) (b:Aa w w'):DM base v w':=by
 obtain ⟨p,c,gen,B,E,h1,h2,r⟩:=h;exact ⟨p,c,gen,B,E,h1,h2.later b,r⟩
theorem CL.from {base base':Nat} {w:World} {p:Nat} {c:Ac} {gen:Int} {B:List BK} {E:List EN} (h:CL base w p c gen B E) (hb:base'≤base):CL base' w p c gen B E:=by
 obtain ⟨vB,vE,h1,h2,h3,h4⟩:=h;exact ⟨vB,vE,h1,jX hb h2,fun g hg=>jX hb (h3 g hg),fun g hg=>jX hb (h4 g hg)⟩
theorem DM.from {base base':Nat} {v:Value} {w:World} (h:DM base v w) (hb:base'≤base):DM base' v w:=by
 obtain ⟨p,c,gen,B,E,h1,h2,r⟩:=h;exact ⟨p,c,gen,B,E,h1,h2.from hb,r⟩
def YH (w:World) (e:Ending) (w':World):Prop:=∃(v:Value) (f:Int) (ok:Bool),e= .returned (.tuple #[v,.int .i64 f,.bool ok])∧Aa w w'∧(ok=true→DM w.heap.size v w')
theorem KA (s:ByteArray) (w:World) (hs:s.size≤1099511627776):Calls Tryz.prog 88 #[.string s] w (YH w):=by
 refine (L7 s w hs).mono ?_;rintro e w' ⟨v,f,ok,rfl,hb,h⟩;refine ⟨v,f,ok,rfl,hb,fun h1=>?_⟩;obtain ⟨p,c,gen,B,E,r1, -,r2,r3,r4, -, -, -,r5⟩:=h h1;exact ⟨p,c,gen,B,E,r1,r2,r3,r4,r5⟩
def L6 (base:Nat) (w w':World):Prop:=∃M,Ab M w w'∧∀j∈M,j<base
theorem CL.kept {base:Nat} {w w':World} {p:Nat} {c:Ac} {gen:Int} {B:List BK} {E:List EN} (h:CL base w p c gen B E) (k:L6 base w w'):CL base w' p c gen B E:=by
 obtain ⟨M,hb,hM⟩:=k;have hout:∀j,base≤j→j∉M:=fun j hj e=>by have:=hM j e;omega
 obtain ⟨vB,vE,⟨⟨h0,h1,h2,h3,h4,h5⟩,h6,h7,h8,h9,h10⟩,r1,r2,r3⟩:=h;have hp:=hout p r1;exact ⟨vB,vE,⟨⟨hb.cell h0 hp,hb.cell h1 hp,hb.cell h2 hp,hb.cell h3 hp,hb.cell h4 hp,hb.cell h5 hp⟩,hb.cell h6 hp,hb.cell h7 hp,hb.cell h8 hp,Ap.but h9 hb (fun g hg=>hout g (r2 g hg)),Ap.but h10 hb (fun g hg=>hout g (r3 g hg))⟩,r1,r2,r3⟩
def QM (W0:Aw) (s p base:Nat) (w:World) (e:Ending) (w':World):Prop:=e= .returned (.tuple #[])∧(∃x',Ao W0 s x' w'∧x'.p=p)∧L6 base w w'
theorem No (W0:Aw) (s:Nat) (x:WG) (S:ByteArray) (w w0:World) (h:Ao W0 s x w0) (b:Aa w0 w) (hs:s≤150000) (hS:S.size≤1099511627776):
  Calls Tryz.prog 53 #[.pointer (some ⟨x.p,0,none⟩),.string S] w (QM W0 (s+1) x.p w0.heap.size w):=by
 have h0:=h;have h:=h.later b
 have hvp:x.vh.ownBlock≠some x.p:=fun e=>by
  have a1:1≤x.vh.ownBlock.toList.count x.p:=Ak.1 (by simp [e]);have a2:=WG.count x x.p;have a3:=DK h.2.2.1 x.p;have a4:=GS x.p;omega
 refine (Lq W0.heap.size x.p x.H.length x.vh (x.H.map Value.string) S w (h.1.1 7 _ rfl) (h.1.2 7 (by simp [WG.cells])) h.2.2.2.2.2.2.2.1 (by have:=h.2.2.2.2.2.2.2.2.2.2.2.1.2.1;omega) h.2.1.size hvp).mono ?_;rintro e w' ⟨rfl,g,cap,w1,hb,rfl,hrow,hg⟩;refine ⟨rfl,⟨_,h.put hb hrow hg hS,rfl⟩,x.p::x.vh.ownBlock.toList,(hb.mono (fun k hk=>Or.inl (jW _ hk))).put (Or.inl (by simp)) _,fun j hj=>?_⟩
 have:j∈x.blocks:=by
  rcases ja.1 hj with rfl|hj
  ·simp [WG.blocks]
  ·exact Ak.2 (by have:=WG.count x j;have:=Ak.1 hj;omega)
 exact (h0.2.2.2.2.1 j (h0.2.2.2.1 j this)).2
theorem Ta (W0:Aw) (s:Nat) (x:WG) (A B C:Int) (S:ByteArray) (w:World) (h:Ao W0 s x w) (hs:s≤150000) (hA:Aj A) (hB:Aj B):
  Calls Tryz.prog 46 #[.pointer (some ⟨x.p,0,none⟩),AB 23 A B C S] w (Cc W0 x.p (s+1)):=by
 have ha1:=fun wx (b:Aa w wx)=>FI W0 s x A wx (h.later b) hs hA
 have ha2:=fun wx (b:Aa w wx)=>FI W0 s x B wx (h.later b) hs hB
 have hpu:=fun (t:ByteArray) (ht:t.size≤16777216) wx (b:Aa w wx)=>No W0 s x t wx w h b hs (by omega)
 have hend:Hid (∀wx (b:Bool),Aa w wx→Cc W0 x.p (s+1) (.returned (.bool b)) wx):=fun wx b hb=>⟨b,rfl,x,(h.later hb).up (by omega),rfl⟩
 generalize x.p=p at *;clear h;have hwb:∀wx,Aa w wx→w.heap.size≤wx.heap.size:=fun wx b=>b.size
 unfold AB;go_enter Tryz.func46,Tryz.ntmps46;go_wp2_with fail;obtain ⟨wo,hwo,hbo,o0,o1,o2,o3,o4⟩:=BV w (.int .i64 23) (.int .i64 A) (.int .i64 B) (.int .i64 C) (.string S) 32;rw [hwo];clear hwo;generalize hpo:w.heap.size=po at o0 o1 o2 o3 o4 ⊢;clear hpo;refine (ha1 _ hbo).mono ?_;rintro e w1 ⟨a,rfl,hb1,hsa⟩;have q2:=hb1.cell o2;have q0:=hb1.cell o0;have hbw1:=hbo.trans hb1;clear ha1 o0 o1 o2 o3 o4 hb1 hbo;go_wp2_with fail;refine (ha2 _ hbw1).mono ?_;rintro e w2 ⟨b,rfl,hb2,hsb⟩;have r0:=hb2.cell q0;have hbw2:=hbw1.trans hb2;clear ha2 q0 q2 hb2;go_wp2_with fail;refine (KA a w2 hsa).mono ?_;rintro e w3 ⟨vx,fx,okx,rfl,hb3,hx⟩;have r1:=hb3.cell r0;have hbw3:=hbw2.trans hb3;clear r0;go_wp2_with fail;refine (KA b w3 hsb).mono ?_;rintro e w4 ⟨vy,fy,oky,rfl,hb4,hy⟩;have r2:=hb4.cell r1;have hbw4:=hbw3.trans hb4;have hx4:okx=true→DM w.heap.size vx w4:=fun e=>((hx e).from hbw2.size).later hb4
 have hy4:oky=true→DM w.heap.size vy w4:=fun e=>(hy e).from hbw3.size
 clear r1 hx hy hb4 hb3 hbw1 hbw2 hbw3 hwb;go_wp2_with fail;refine (WT a b _ hsa hsb).mono ?_;rintro e W5 ⟨t5,n5,rfl,hb5,ht5⟩;have r3:=hb5.cell r2;have HBW5:=hbw4.trans hb5;have HX5:okx=true→DM w.heap.size vx W5:=fun e=>(hx4 e).later hb5
 have HY5:oky=true→DM w.heap.size vy W5:=fun e=>(hy4 e).later hb5
 have hpu:=hpu t5 ht5;clear r2 hbw4 hx4 hy4 hb5;cases okx
 ·clear HX5 HY5 hpu;go_wp2_with fail;go_quiet (fail);go_wp2
  all_goals
   go_ret;exact hend.out _ _ (by solve_by_elim [jA,jB,jC,jD,jE])
 ·cases oky
  ·clear HX5 HY5 hpu;go_wp2_with fail;go_quiet (fail);go_wp2
   all_goals
    go_ret;exact hend.out _ _ (by solve_by_elim [jA,jB,jC,jD,jE])
  ·obtain ⟨px,cx,gx,Bx,Ex,rfl,hsx,hox,hWx, -⟩:=HX5 rfl;obtain ⟨py,cy,gy,By,Ey,rfl,hsy,hoy,hWy, -⟩:=HY5 rfl;obtain ⟨vBx,vEx,⟨⟨x0,x1,x2,x3,x4,x5⟩, -⟩, -⟩:=id hsx;obtain ⟨vBy,vEy,⟨⟨y0,y1,y2,y3,y4,y5⟩, -⟩, -⟩:=id hsy;have hne:=UQ cx cy;have hlx:=jF x0;have hly:=jF y0;generalize Ll cx cy=ne at *;have HSX:=jp hsx;have HSY:=jp hsy;clear HX5 HY5 hsx hsy;cases ne
   ·go_wp2_with fail;go_quiet (fail);go_wp2_with fail;refine (hpu _ (HBW5.trans (by solve_by_elim [jA,jB,jC,jD,jE]))).mono ?_;rintro e w6 ⟨rfl,⟨x2',h2,hp2⟩,hk6⟩
    have HK46:L6 w.heap.size W5 w6:=by
     obtain ⟨M,hb,hM⟩:=hk6;exact ⟨M,(Ab.of_bel (by solve_by_elim [jA,jB,jC,jD,jE])).trans hb,hM⟩
    have hpa:=Wo px py cx cy gx gy Bx By Ex Ey w6 (HSX.out.kept HK46).state hox hWx (HSY.out.kept HK46).state hoy hWy;have H2:Hid (∀wx (b:Bool),Aa w6 wx→Cc W0 p (s+1) (.returned (.bool b)) wx):=fun wx b hb=>⟨b,rfl,x2',h2.later hb,hp2⟩
    clear h2 hk6 HK46 HSX HSY hpu hend;go_wp2_with fail;refine hpa.mono ?_;rintro e w7 ⟨m,rfl,hb7, -⟩;clear hpa;go_wp2
    all_goals
     go_ret;exact H2.out _ _ (by solve_by_elim [jA,jB,jC,jD,jE])
   ·clear hpu HSX HSY;go_wp2_with fail;go_quiet (fail);go_wp2
    all_goals
     go_ret;exact hend.out _ _ (by solve_by_elim [jA,jB,jC,jD,jE])
theorem TY (W0:Aw) (s:Nat) (x:WG) (A B C:Int) (S:ByteArray) (w:World) (h:Ao W0 s x w) (hs:s≤150000) (hA:Aj A) (hB:Aj B):
  Calls Tryz.prog 46 #[.pointer (some ⟨x.p,0,none⟩),AB 24 A B C S] w (Cc W0 x.p (s+1)):=by
 have ha1:=fun wx (b:Aa w wx)=>FI W0 s x A wx (h.later b) hs hA
 have ha2:=fun wx (b:Aa w wx)=>FI W0 s x B wx (h.later b) hs hB
 have hpu:=fun (t:ByteArray) (ht:t.size≤16777216) wx (b:Aa w wx)=>No W0 s x t wx w h b hs (by omega)
 have hend:Hid (∀wx (b:Bool),Aa w wx→Cc W0 x.p (s+1) (.returned (.bool b)) wx):=fun wx b hb=>⟨b,rfl,x,(h.later hb).up (by omega),rfl⟩
 generalize x.p=p at *;clear h;have hwb:∀wx,Aa w wx→w.heap.size≤wx.heap.size:=fun wx b=>b.size
 unfold AB;go_enter Tryz.func46,Tryz.ntmps46;go_wp2_with fail;obtain ⟨wo,hwo,hbo,o0,o1,o2,o3,o4⟩:=BV w (.int .i64 24) (.int .i64 A) (.int .i64 B) (.int .i64 C) (.string S) 32;rw [hwo];clear hwo;generalize hpo:w.heap.size=po at o0 o1 o2 o3 o4 ⊢;clear hpo;refine (ha1 _ hbo).mono ?_;rintro e w1 ⟨a,rfl,hb1,hsa⟩;have q2:=hb1.cell o2;have q0:=hb1.cell o0;have hbw1:=hbo.trans hb1;clear ha1 o0 o1 o2 o3 o4 hb1 hbo;go_wp2_with fail;refine (ha2 _ hbw1).mono ?_;rintro e w2 ⟨b,rfl,hb2,hsb⟩;have r0:=hb2.cell q0;have hbw2:=hbw1.trans hb2;clear ha2 q0 q2 hb2;go_wp2_with fail;refine (KA a w2 hsa).mono ?_;rintro e w3 ⟨vx,fx,okx,rfl,hb3,hx⟩;have r1:=hb3.cell r0;have hbw3:=hbw2.trans hb3;clear r0;go_wp2_with fail;refine (KA b w3 hsb).mono ?_;rintro e w4 ⟨vy,fy,oky,rfl,hb4,hy⟩;have r2:=hb4.cell r1;have hbw4:=hbw3.trans hb4;have hx4:okx=true→DM w.heap.size vx w4:=fun e=>((hx e).from hbw2.size).later hb4
 have hy4:oky=true→DM w.heap.size vy w4:=fun e=>(hy e).from hbw3.size
 clear r1 hx hy hb4 hb3 hbw1 hbw2 hbw3 hwb;go_wp2_with fail;refine (Uo a b _ hsa hsb).mono ?_;rintro e W5 ⟨t5,n5,rfl,hb5,ht5⟩;have r3:=hb5.cell r2;have HBW5:=hbw4.trans hb5;have HX5:okx=true→DM w.heap.size vx W5:=fun e=>(hx4 e).later hb5
 have HY5:oky=true→DM w.heap.size vy W5:=fun e=>(hy4 e).later hb5
 have hpu:=hpu t5 ht5;clear r2 hbw4 hx4 hy4 hb5;cases oky
 ·clear HX5 HY5 hpu;go_wp2
  all_goals
   go_ret;exact hend.out _ _ (by solve_by_elim [jA,jB,jC,jD,jE])
 ·obtain ⟨py,cy,gy,By,Ey,rfl,hsy,hoy,hWy,hly⟩:=HY5 rfl;have hap:=RS a py cy gy By Ey W5 hsa hsy.state hoy hWy hly;clear HX5 HY5 hsy;go_wp2_with fail;refine hap.mono ?_;rintro e w6 ⟨vm,err,rfl,hb6,hm⟩;have hbw6:=HBW5.trans hb6;clear hap;by_cases he:err=0
  ·subst he;obtain ⟨q,c,gen,Bm,Em,rfl,hsm,hom,hWm⟩:=hm rfl;have hsm':=hsm.from HBW5.size
   have HSM:=jp hsm';clear hm hsm hsm';go_wp2_with fail;refine (hpu _ hbw6).mono ?_;rintro e w7 ⟨rfl,⟨x2',h2,hp2⟩,hk7⟩;have hi1:=Fw q c gen Bm Em 1 w7 (HSM.out.kept hk7).state hom ⟨by decide,by decide⟩ (fun x hx=>⟨(hWm x hx).1.toI64,(hWm x hx).2.toI64⟩);have H2:Hid (∀wx (b:Bool),Aa w7 wx→Cc W0 p (s+1) (.returned (.bool b)) wx):=fun wx b hb=>⟨b,rfl,x2',h2.later hb,hp2⟩
   clear h2 hk7 HSM hpu hend;go_wp2_with fail;refine hi1.mono ?_;rintro e w8 ⟨m,rfl,hb8, -⟩;clear hi1;go_wp2
   all_goals
    go_ret;exact H2.out _ _ (by solve_by_elim [jA,jB,jC,jD,jE])
  ·have heb:(err !=0)=true:=by rw [bne_iff_ne];exact he
   clear hm hpu;go_wp2
   all_goals
    go_ret;exact hend.out _ _ (by solve_by_elim [jA,jB,jC,jD,jE])
end Go.Proofs.YtpapdkhjdelfcabGreat
