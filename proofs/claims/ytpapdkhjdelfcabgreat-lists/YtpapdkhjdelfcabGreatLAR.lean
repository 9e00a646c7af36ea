import Derived.Test.YtpapdkhjdelfcabGreatLAQ
import Derived.Deep.RegionHeld3
namespace Go.Proofs.YtpapdkhjdelfcabGreat
open Go.RowKit
set_option maxRecDepth 100000
set_option maxHeartbeats 4000000
theorem Tryz.uTC:Tryz.prog.underlying 34=some (.struct (Tryz.prog.fieldsOf 34)):=by kernel_rfl
theorem Tryz.sTC:Tryz.prog.stoodInHeld 34=false:=by kernel_rfl
def JI (c d:Ac):Bool:=!(c.alg==d.alg && (c.slots==d.slots && (c.points==d.points && (c.probes==d.probes && (c.key.toList==d.key.toList && c.formats==d.formats)))))
theorem QO (c d:Ac) (w:World):(binOp .neq 34 (.agg #[.int .i64 c.alg,.int .i64 c.slots,.int .i64 c.points,.int .i64 c.probes,.string c.key,.int .i64 c.formats]) (.agg #[.int .i64 d.alg,.int .i64 d.slots,.int .i64 d.points,.int .i64 d.probes,.string d.key,.int .i64 d.formats])).run Tryz.prog w= .ok (.bool (JI c d)) w:=by
 rw [run_neq_struct,run_equalIn_struct w 9999 _ _ _ Tryz.uTC Tryz.sTC];unfold JI;simp [go_sem];by_cases h1:c.alg=d.alg <;>by_cases h2:c.slots=d.slots <;>by_cases h3:c.points=d.points <;>by_cases h4:c.probes=d.probes <;>by_cases h5:c.key.toList=d.key.toList <;>by_cases h6:c.formats=d.formats <;>simp [h1,h2,h3,h4,h5,h6]
theorem Ts (c d:Ac):JI c d=true↔c≠d:=by
 obtain ⟨a1,a2,a3,a4,a5,a6⟩:=c;obtain ⟨b1,b2,b3,b4,b5,b6⟩:=d;unfold JI;simp only [Bool.not_eq_true',Bool.and_eq_false_iff,jI,ne_eq,Ac.mk.injEq];have hs:a5.toList=b5.toList↔a5=b5:=⟨fun h=>toList_inj h,fun h=>by rw [h]⟩;rw [hs];constructor
 ·intro h e;obtain ⟨rfl,rfl,rfl,rfl,rfl,rfl⟩:=e;simp at h
 ·intro h;by_cases h1:a1=b1 <;>by_cases h2:a2=b2 <;>by_cases h3:a3=b3 <;>by_cases h4:a4=b4 <;>by_cases h5:a5=b5 <;>by_cases h6:a6=b6 <;>simp_all
def FN (ao:Option Addr) (cap n:Nat):Option Addr:=if cap=n then ao else ao.map (·.add (n * 2))
theorem Nd (wx:World) (ao:Option Addr) (L cap n:Nat) (h:n≤L):
  (Instr.slice 64 (.slice ao L cap) (some (.int .i64 n)) none none).run Tryz.prog wx= .ok (.slice (FN ao cap n) (L - n) (cap - n)) wx:=by
 rw [run_slice_any (P:=Tryz.prog) wx 64 ao L cap (by kernel_rfl)];have hs:(sizeOf (Tryz.prog.elem 64)).run Tryz.prog wx= .ok 2 wx:=by kernel_rfl
 have hb:(Instr.sliceBounds true L cap (some (.int .i64 n)) none none).run Tryz.prog wx= .ok (n,L,cap) wx:=by
  simp [Instr.sliceBounds,run_sliceBound,go_sem,h]
 rw [hb];simp only [Result.andThen,hs,sliced,FN]
theorem YA (wx:World) (ao:Option Addr) (L cap n m:Nat) (h:n+m≤L) (hc:L≤cap):
  (Instr.slice 64 (.slice ao L cap) (some (.int .i64 n)) (some (.int .i64 ((L:Int) - (m:Int)))) none).run Tryz.prog wx= .ok (.slice (FN ao cap n) (L - m - n) (cap - n)) wx:=by
 rw [run_slice_lh (P:=Tryz.prog) wx 64 ao L cap (by kernel_rfl) .i64 .i64 _ _ (by omega) (by omega) (by omega)];have e1:((L:Int) - (m:Int)).toNat=L - m:=by omega
 have hs:(sizeOf (Tryz.prog.elem 64)).run Tryz.prog wx= .ok 2 wx:=by kernel_rfl
 rw [hs];simp only [Result.andThen,sliced,FN,Int.toNat_natCast,e1]
theorem Bv.cut {w:World} {ao:Option Addr} {cap n m:Nat} {E:List EI} (h:Bv w (.slice ao E.length cap) E) (hnm:n+m≤E.length) (hc:E.length≤cap):Bv w (.slice (FN ao cap n) (E.length - m - n) (cap - n)) ((E.drop n).take (E.length - m - n)):=by
 obtain ⟨ao',cap',hv,hcell⟩:=h;simp only [Value.slice.injEq] at hv;obtain ⟨rfl, -,rfl⟩:=hv;have hl:((E.drop n).take (E.length - m - n)).length=E.length - m - n:=by simp;omega
 refine ⟨_,_,by rw [hl],fun j hj=>?_⟩;rw [hl] at hj;obtain ⟨g,off,h1,h2,h3⟩:=hcell (n+j) (by omega);have hne:¬cap=n:=by omega
 have e:((E.drop n).take (E.length - m - n))[j]'(by rw [hl];exact hj)=E[n+j]'(by omega):=by simp
 rw [e];refine ⟨g,off+n * 2,?_,?_,?_⟩
 ·rw [FN,if_neg hne,h1];simp only [Option.map_some,Addr.add];split
  ·rename_i h0;rw [h0];rfl
  ·rfl
 ·rw [show off+n * 2+j * 2=off+(n+j) * 2 by omega];exact h2
 ·rw [show off+n * 2+j * 2+1=off+(n+j) * 2+1 by omega];exact h3
theorem Bv.from {w:World} {ao:Option Addr} {cap n:Nat} {E:List EI} (h:Bv w (.slice ao E.length cap) E) (hnm:n≤E.length) (hc:E.length≤cap):Bv w (.slice (FN ao cap n) (E.length - n) (cap - n)) (E.drop n):=by
 have:=h.cut (n:=n) (m:=0) (by omega) hc;have e:(E.drop n).take (E.length - 0 - n)=E.drop n:=jR (by rw [jh];omega);rw [e] at this;simpa using this
open Classical in
noncomputable def DN (l1 l2:List UInt8):List UInt8×Int:=match Bj l1,Bj l2 with
 |some (_,g1,c1,B1,E1),some (_,g2,c2,B2,E2)=>if c1=c2 then
   (G6 g1 (G9 g1 c1 B1 E1).toNat g2 B2 (Cu (E1.map (CT B1 B2)) E2) (EE ((E1.map (CT B1 B2)).drop (Cu (E1.map (CT B1 B2)) E2)) (E2.drop (Cu (E1.map (CT B1 B2)) E2))) ((E2.drop (Cu (E1.map (CT B1 B2)) E2)).take (E2.length - EE ((E1.map (CT B1 B2)).drop (Cu (E1.map (CT B1 B2)) E2)) (E2.drop (Cu (E1.map (CT B1 B2)) E2)) - Cu (E1.map (CT B1 B2)) E2)) c2.alg,0)
  else ([],9)
 |_,_=>([],9)
def Ff (w:World) (x:List UInt8×Int) (e:Ending) (w':World):Prop:=e= .returned (.tuple #[.string (Ai x.1),.int .i64 x.2])∧Aa w w'
theorem Vf (t1 t2:ByteArray) (w:World) (h1:t1.size≤1099511627776) (h2:t2.size≤1099511627776):
  Calls Tryz.prog 158 #[.string t1,.string t2] w (Ff w (DN t1.data.toList t2.data.toList)):=by
 have hr1:=fun wx=>JL t1 wx h1
 have hr2:=fun wx=>JL t2 wx h2
 have HPF:Hid (DN t1.data.toList t2.data.toList=DN t1.data.toList t2.data.toList):=rfl;rcases hi1:Bj t1.data.toList with _|⟨f1,g1,c1,B1,E1⟩
 ·rw [hi1] at hr1;unfold FH CU at hr1;have HF:Hid (DN t1.data.toList t2.data.toList=([],9)):=by show _=_;unfold DN;rw [hi1]
  rw [HF.out];clear HPF;go_enter Tryz.func158,Tryz.ntmps158;go_wp2_with fail;refine (hr1 _).mono ?_;rintro e w1 ⟨hb1,rfl⟩;go_wp2;go_ret2;exact ⟨rfl,hb1.step_alloc _⟩
 rw [hi1] at hr1;have ok1:=Hp hi1;rcases hi2:Bj t2.data.toList with _|⟨f2,g2,c2,B2,E2⟩
 ·rw [hi2] at hr2;unfold FH CU at hr2;unfold FH D8 at hr1;have HF:Hid (DN t1.data.toList t2.data.toList=([],9)):=by show _=_;unfold DN;rw [hi1,hi2]
  rw [HF.out];clear HPF ok1;go_enter Tryz.func158,Tryz.ntmps158;go_wp2_with fail;refine (hr1 _).mono ?_;rintro e w1 ⟨hb1,vP1,vE1,rfl,hoP1,hoE1⟩;obtain ⟨aP1,kP1,rfl⟩:=B8 hoP1;obtain ⟨aE1,kE1,rfl⟩:=B8 hoE1;have HB1:=jp (hb1.step_alloc (.cells #[.int .i64 (f1:Int),.int .i64 (g1:Int),.int .i64 c1.alg,.int .i64 c1.slots,.int .i64 c1.points,.int .i64 c1.probes,.string c1.key,.int .i64 c1.formats,.slice aP1 B1.length kP1,.slice aE1 E1.length kE1] 173));clear hoP1 hoE1 hb1;go_wp2_with fail;refine (hr2 _).mono ?_;rintro e w2 ⟨hb2,rfl⟩;have HB2:=jp ((HB1.out.trans hb2).step_alloc (.cells #[.int .i64 0,.int .i64 0,.int .i64 0,.int .i64 0,.int .i64 0,.int .i64 0,.string ⟨#[]⟩,.int .i64 0,.slice none 0 0,.slice none 0 0] 173));clear hb2;go_wp2;go_ret2;exact ⟨rfl,HB2.out⟩
 rw [hi2] at hr2;have ok2:=Hp hi2;unfold FH D8 at hr1 hr2;clear HPF;have hg1:=ok1.right.1.2;have hg2:=ok2.right.1.2;have hl1:=ok1.len;have hl2:=ok2.len;obtain ⟨O,hOd⟩:∃O,O=E1.map (CT B1 B2):=⟨_,rfl⟩;have hOl:O.length≤255:=by rw [hOd,je];exact hl1
 obtain ⟨n,hnd⟩:∃n,n=Cu O E2:=⟨_,rfl⟩;have hn:=Mf O E2;rw [←hnd] at hn;obtain ⟨hn1,hn2⟩:=hn;obtain ⟨m,hmd⟩:∃m,m=EE (O.drop n) (E2.drop n):=⟨_,rfl⟩;have hm:=(Ye (O.drop n) (E2.drop n)).2;rw [←hmd,jh] at hm;obtain ⟨sg,hsd⟩:∃sg,sg=(G9 g1 c1 B1 E1).toNat:=⟨_,rfl⟩;have hs32:sg<4294967296:=by rw [hsd];exact (G9 g1 c1 B1 E1).isLt
 have hlM:((E2.drop n).take (E2.length - m - n)).length=E2.length - m - n:=by simp;omega
 have HF1:Hid (c1=c2→DN t1.data.toList t2.data.toList=(G6 g1 sg g2 B2 n m ((E2.drop n).take (E2.length - m - n)) c2.alg,0)):=fun h=>by
  unfold DN;rw [hi1,hi2,hsd,hmd,hnd,hOd];exact if_pos h
 have HF2:Hid (c1≠c2→DN t1.data.toList t2.data.toList=([],9)):=fun h=>by
  unfold DN;rw [hi1,hi2];exact if_neg h
 have hsum:=fun vP vE wx h1 h2=>On f1 g1 c1 B1 E1 vP vE wx (by omega) ok1.tok h1 ok1.good.1 h2 (fun e he=>(ok1.ents e he).1) (by omega)
 have hent:=fun q vP vE v2 wx hT hP hE hP2=>OX q c1 vP vE v2 B1 B2 E1 wx hT hP hE hP2 (by have:=ok2.good.1.1;omega) (by omega)
 rw [←hOd] at hent;have hah:=fun vO vE wx h h'=>RB O E2 vO vE wx h h' (by omega) (by omega)
 rw [←hnd] at hah;have hbe:=fun x y wx h h'=>Wm (O.drop n) (E2.drop n) x y wx h h' (by rw [jh];omega) (by rw [jh];omega)
 rw [←hmd] at hbe;have hwr:=fun vP vM wx hP hM=>Yl g1 sg g2 B2 n m ((E2.drop n).take (E2.length - m - n)) c2.alg vP vM wx (by omega) hs32 (by omega) (by omega) (by omega) hP ok2.good.1 hM (fun e he=>(ok2.ents e (List.mem_of_mem_drop (List.mem_of_mem_take he))).1) (by omega)
 unfold Hb at hwr;unfold D8 KY at hsum;rw [←hsd] at hsum;generalize G6 g1 sg g2 B2 n m ((E2.drop n).take (E2.length - m - n)) c2.alg=PB at *;generalize hMM:(E2.drop n).take (E2.length - m - n)=M at *;have hncf:=QO c1 c2;have hcne:=Ts c1 c2;have hcut:∀(w:World) (ao:Option Addr) (cap:Nat),Bv w (.slice ao E2.length cap) E2→E2.length≤cap→Bv w (.slice (FN ao cap n) (E2.length - m - n) (cap - n)) M:=fun w ao cap h hc=>by rw [←hMM];exact h.cut (by omega) hc
 clear hi1 hi2 hsd hmd hnd hMM hOd;generalize JI c1 c2=cn at *;go_enter Tryz.func158,Tryz.ntmps158;go_wp2_with fail;refine (hr1 _).mono ?_;rintro e w1 ⟨hb1,vP1,vE1,rfl,hoP1,hoE1⟩;obtain ⟨aP1,kP1,rfl⟩:=B8 hoP1;obtain ⟨aE1,kE1,rfl⟩:=B8 hoE1;have HB1:=jp hb1;have HPa:=jp (AJ.pool hoP1);have HEa:=jp (AS.ents hoE1);clear hoP1 hoE1 hb1 hr1;go_wp2_with fail;refine (hr2 _).mono ?_;rintro e w2 ⟨hb2,vP2,vE2,rfl,hoP2,hoE2⟩;obtain ⟨aP2,kP2,rfl⟩:=B8 hoP2;obtain ⟨aE2,kE2,rfl⟩:=B8 hoE2
 have hcap2:E2.length≤kE2:=by
  rcases hoE2.2 with ⟨g1,g2⟩|⟨g,cap,cur,g1,_,_,g3,_⟩
  ·omega
  ·simp only [Value.slice.injEq] at g1;omega
 have HA2:=jp ((Ae.new w1 173 #[.int .i64 (f1:Int),.int .i64 (g1:Int),.int .i64 c1.alg,.int .i64 c1.slots,.int .i64 c1.points,.int .i64 c1.probes,.string c1.key,.int .i64 c1.formats,.slice aP1 B1.length kP1,.slice aE1 E1.length kE1]).bel hb2);have HB2:=jp ((HB1.out.step_alloc _).trans hb2);replace HPa:=jp ((HPa.out.later ((jD w1).step_alloc _)).later hb2);replace HEa:=jp ((HEa.out.later ((jD w1).step_alloc _)).later hb2);have HPb:=jp (AJ.pool hoP2);have HEb:=jp (AS.ents hoE2);have hlt12:w1.heap.size<w2.heap.size:=HA2.out.lt;clear hoP2 hoE2 hb2 hr2 HB1;have A2:=HA2.out;have p2:=A2.cell 2 rfl;have p3:=A2.cell 3 rfl;have p4:=A2.cell 4 rfl;have p5:=A2.cell 5 rfl;have p6:=A2.cell 6 rfl;have p7:=A2.cell 7 rfl;clear A2;cases cn
 rotate_left
 ·have hF:=HF2.out (hcne.1 (by simp));replace hF:=jp hF;clear hcne HF1 HF2;go_wp2;go_ret2;rw [hF.out];exact ⟨rfl,HB2.out.step_alloc _⟩
 have hF:=HF1.out (Classical.byContradiction fun h=>by have:=hcne.2 h;simp at this);replace hF:=jp hF;obtain ⟨W2,hW2⟩:∃W2,W2=w2.alloc (.cells #[.int .i64 (f2:Int),.int .i64 (g2:Int),.int .i64 c2.alg,.int .i64 c2.slots,.int .i64 c2.points,.int .i64 c2.probes,.string c2.key,.int .i64 c2.formats,.slice aP2 B2.length kP2,.slice aE2 E2.length kE2] 173):=⟨_,rfl⟩;have hbw:Aa w2 W2:=by rw [hW2];exact (jD w2).step_alloc _
 have HBB:Hid (Ae w2.heap.size 173 #[.int .i64 (f2:Int),.int .i64 (g2:Int),.int .i64 c2.alg,.int .i64 c2.slots,.int .i64 c2.points,.int .i64 c2.probes,.string c2.key,.int .i64 c2.formats,.slice aP2 B2.length kP2,.slice aE2 E2.length kE2] W2):=by show Ae _ _ _ W2;rw [hW2];exact Ae.new _ _ _
 replace HA2:=jp (HA2.out.bel hbw);replace HB2:=jp (HB2.out.trans hbw);replace HPa:=jp (HPa.out.later hbw);replace HEa:=jp (HEa.out.later hbw);replace HPb:=jp (HPb.out.later hbw);replace HEb:=jp (HEb.out.later hbw);have H3:=jp (hent w1.heap.size _ _ _ W2 ⟨⟨HA2.out.cell 2 rfl,HA2.out.cell 3 rfl,HA2.out.cell 4 rfl,HA2.out.cell 5 rfl,HA2.out.cell 6 rfl,HA2.out.cell 7 rfl⟩,HA2.out.cell 8 rfl,HA2.out.cell 9 rfl⟩ HPa.out HEa.out HPb.out);clear hent hbw hcne HF1 HF2;go_wp2_with fail;rw [←hW2];clear hW2 p2 p3 p4 p5 p6 p7;refine H3.out.mono ?_;rintro e w3 ⟨vO,rfl,hb3,hoO⟩;obtain ⟨aO,kO,rfl⟩:=B8 hoO
 have hcapO:O.length≤kO:=by
  rcases hoO.2 with ⟨g1,g2⟩|⟨g,cap,cur,g1,_,_,g3,_⟩
  ·omega
  ·simp only [Value.slice.injEq] at g1;omega
 have HA:=jp (HA2.out.bel hb3);have HBx:=jp (HBB.out.bel hb3);have HB3:=jp (HB2.out.trans hb3);replace HPa:=jp (HPa.out.later hb3);replace HEa:=jp (HEa.out.later hb3);replace HPb:=jp (HPb.out.later hb3);replace HEb:=jp (HEb.out.later hb3);have HO:=jp (AS.ents hoO);have hlt3:w2.heap.size<w3.heap.size:=HBx.out.lt;have hlt13:w1.heap.size<w3.heap.size:=HA.out.lt;clear hoO hb3 H3 HA2 HBB HB2;have A3:=HA.out;have p0:=A3.cell 0 rfl;have p1:=A3.cell 1 rfl;have p2:=A3.cell 2 rfl;have p3:=A3.cell 3 rfl;have p4:=A3.cell 4 rfl;have p5:=A3.cell 5 rfl;have p6:=A3.cell 6 rfl;have p7:=A3.cell 7 rfl;have p8:=A3.cell 8 rfl;have p9:=A3.cell 9 rfl;clear A3;go_wp2_with fail;refine Calls.mono (hsum _ _ _ ?h1 ?h2) ?_
 case h1=>exact HPa.out.later (by solve_by_elim [jA,jB,jC,jD,jE])
 case h2=>exact HEa.out.later (by solve_by_elim [jA,jB,jC,jD,jE])
 rintro e w4 ⟨rfl,hb4⟩;have C4:=(Ae.new w3 224 #[.int .i64 (g1:Int),.int .u32 0,.int .i64 0,.slice none 0 0,.int .i64 0,.int .i64 0,.slice none 0 0]).bel hb4;have HB4:=jp (((jD w3).step_alloc _).trans hb4);have B4:=HBx.out.bel HB4.out;have b1:=B4.cell 1 rfl;have b8:=B4.cell 8 rfl;have b9:=B4.cell 9 rfl;have k1:=C4.cell 1 rfl;have k2:=C4.cell 2 rfl;have k3:=C4.cell 3 rfl;have l1:=C4.free 1;have l2:=C4.free 2;have l3:=C4.free 3;have HC4:=jp (((C4.set 1 (.int .u32 (sg:Int)) (cs':=#[.int .i64 (g1:Int),.int .u32 (sg:Int),.int .i64 0,.slice none 0 0,.int .i64 0,.int .i64 0,.slice none 0 0]) rfl).set 2 (.int .i64 (g2:Int)) (cs':=#[.int .i64 (g1:Int),.int .u32 (sg:Int),.int .i64 (g2:Int),.slice none 0 0,.int .i64 0,.int .i64 0,.slice none 0 0]) rfl).set 3 (.slice aP2 B2.length kP2) (cs':=#[.int .i64 (g1:Int),.int .u32 (sg:Int),.int .i64 (g2:Int),.slice aP2 B2.length kP2,.int .i64 0,.int .i64 0,.slice none 0 0]) rfl);have HV4:Hid (Aa w3 (((w4.setCell ⟨w3.heap.size,1,none⟩ (.int .u32 (sg:Int))).setCell ⟨w3.heap.size,2,none⟩ (.int .i64 (g2:Int))).setCell ⟨w3.heap.size,3,none⟩ (.slice aP2 B2.length kP2))):=((HB4.out.step_set (p:=⟨w3.heap.size,1,none⟩) (jH _) _).step_set (p:=⟨w3.heap.size,2,none⟩) (jH _) _).step_set (p:=⟨w3.heap.size,3,none⟩) (jH _) _;have hne23:w2.heap.size≠w3.heap.size:=by omega
 have hlt4:w3.heap.size<w4.heap.size:=C4.lt;clear C4 B4 hb4 hsum p0 p1 p2 p3 p4 p5 p6 p7 p8 p9 HB4;go_wp2_with fail;refine Calls.mono (hah _ _ _ ?h1 ?h2) ?_
 case h1=>exact Bv.of (HO.out.later HV4.out)
 case h2=>exact Bv.of (HEb.out.later HV4.out)
 rintro e w5 ⟨rfl,hb5⟩;have C5:=HC4.out.bel hb5;have HB5:=jp (HV4.out.trans hb5);have m4:=C5.cell 4 rfl;have n4:=C5.free 4;obtain ⟨V5,hV5⟩:∃V5,V5=w5.setCell ⟨w3.heap.size,4,none⟩ (.int .i64 (n:Int)):=⟨_,rfl⟩;have HC5:Hid (Ae w3.heap.size 224 #[.int .i64 (g1:Int),.int .u32 (sg:Int),.int .i64 (g2:Int),.slice aP2 B2.length kP2,.int .i64 (n:Int),.int .i64 0,.slice none 0 0] V5):=by show Ae _ _ _ V5;rw [hV5];exact C5.set 4 _ rfl
 have HV5:Hid (Aa w3 V5):=by show Aa w3 V5;rw [hV5];exact HB5.out.step_set (p:=⟨w3.heap.size,4,none⟩) (jH _) _
 clear C5 hb5 hah k1 k2 k3 l1 l2 l3 b1 b8 b9 HC4 HV4 HB5;go_wp2_with fail;rw [←hV5];clear hV5 m4 n4;have hsl1:=fun wx=>Nd wx aO O.length kO n hn1
 have hsl2:=fun wx=>Nd wx aE2 E2.length kE2 n hn2
 have hsl3:=fun wx=>YA wx aE2 E2.length kE2 n m (by omega) hcap2
 have HO2:=jp (Bv.from (Bv.of (HO.out.later HV5.out)) hn1 hcapO);have HE2:=jp (Bv.from (Bv.of (HEb.out.later HV5.out)) hn2 hcap2);have HM2:=jp (hcut w3 aE2 kE2 (Bv.of HEb.out) hcap2);have B5:=HBx.out.bel HV5.out;have b9:=B5.cell 9 rfl;have m4:=HC5.out.cell 4 rfl;have m5:=HC5.out.cell 5 rfl;have n5:=HC5.out.free 5;generalize FN aO kO n=aO' at *;generalize FN aE2 kE2 n=aE' at *;clear B5 hcut;go_region_with (go_at_call 199;refine Calls.mono (hbe _ _ _ (by first|exact HO2.out|exact HO2.out.later (jB (jD _))) (by first|exact HE2.out|exact HE2.out.later (jB (jD _)))) ?_;rintro e w6 ⟨rfl,hb6x⟩;have hb6:Aa V5 w6:=(by first|exact hb6x|exact (jB (jD V5)).trans hb6x);have o5:=hb6.cell m5;have q5:=hb6.frozen m5 n5;have HC6:=jp (HC5.out.bel hb6);have HB6:=jp (HV5.out.trans hb6);clear hb6x hb6)
 all_goals
  clear m4 m5 n5 b9 hbe HO2 HE2 hsl1 hsl2 o5 q5;have C6:=HC6.out;have B6:=HBx.out.bel HB6.out;have b2:=B6.cell 2 rfl;have b9:=B6.cell 9 rfl;have k0:=C6.cell 0 rfl;have k1:=C6.cell 1 rfl;have k2:=C6.cell 2 rfl;have k3:=C6.cell 3 rfl;have k4:=C6.cell 4 rfl;have k5:=C6.cell 5 rfl;have k6:=C6.cell 6 rfl;have l6:=C6.free 6;have HV7:=jp ((HB6.out.step_set (p:=⟨w3.heap.size,5,none⟩) (jH _) (.int .i64 (m:Int))).step_set (p:=⟨w3.heap.size,6,none⟩) (jH _) (.slice aE' (E2.length - m - n) (kE2 - n)));have hmE:m≤E2.length:=by omega
  clear C6 B6 HC6 HB6 HC5 HV5;go_wp2_with fail;refine Calls.mono (hwr _ _ _ ?h1 ?h2) ?_
  case h1=>exact HPb.out.later HV7.out
  case h2=>exact HM2.out.later HV7.out
  rintro e w7 ⟨rfl,hb7⟩;have HB7:=jp (HB3.out.trans (HV7.out.trans hb7));clear hb7 HV7;go_wp2;go_ret2;rw [hF.out];exact ⟨rfl,HB7.out⟩
structure Xl (b s g:Nat) (B:List BK) (ah bh:Nat) (M:List EI):Prop where
 b32:b<4294967296
 s32:s<4294967296
 g32:g<4294967296
 good:AH B
 a16:ah<65536
 h16:bh<65536
 len:M.length≤65535
 ents:∀e∈M,Jg e
theorem Da {α β:Type} {P:List Bool→Option (α×List Bool)} {Q:α→List Bool→Option (β×List Bool)} {X:List Bool} {r:β×List Bool} (h:Bo P Q X=some r):∃a Y,P X=some (a,Y)∧Q a Y=some r:=by
 unfold Bo at h;cases hP:P X with
 |none=>rw [hP] at h;cases h
 |some y=>rw [hP] at h;exact ⟨y.1,y.2,rfl,h⟩
theorem PY {alg:Int} {l:List UInt8} {b s g:Nat} {B:List BK} {ah bh:Nat} {M:List EI} (h:Dl alg l=some (b,s,g,B,ah,bh,M)):Xl b s g B ah bh M:=by
 unfold Dl at h;cases hO:CQ l with
 |none=>rw [hO] at h;cases h
 |some b0=>
  rw [hO] at h;have h':JO alg (some (Az b0))=some (b,s,g,B,ah,bh,M):=h;obtain ⟨X1,t,Y1, -, -,h1⟩:=FT h';split at h1
  ·obtain ⟨X2,hd,Y2, -,hh,h2⟩:=FT h1;obtain ⟨X3,B3,Y3, -, -,h3⟩:=FT h2;split at h3
   ·rename_i hgd;obtain ⟨X4,ct,Y4, -,hc,h4⟩:=FT h3;obtain ⟨X5,E5,Y5, -,hm,h5⟩:=FT h4;unfold Iy at h5;split at h5
    ·injection h5 with h5
     obtain ⟨b1,s1,g1⟩:=hd;obtain ⟨a1,a2,n⟩:=ct;simp only at *;injection h5 with e1 h5
     injection h5 with e2 h5
     injection h5 with e3 h5
     injection h5 with e4 h5
     injection h5 with e5 h5
     injection h5 with e6 e7
     subst e1 e2 e3 e4 e5 e6 e7;obtain ⟨x1,z1,k1,hh⟩:=Da hh;obtain ⟨x2,z2,k2,hh⟩:=Da hh;obtain ⟨x3,z3,k3,hh⟩:=Da hh;obtain ⟨y1,u1,j1,hc⟩:=Da hc;obtain ⟨y2,u2,j2,hc⟩:=Da hc;obtain ⟨y3,u3,j3,hc⟩:=Da hc;unfold DT at hh hc;injection hh with hh
     injection hh with hh _
     injection hh with i1 hh
     injection hh with i2 i3
     injection hc with hc
     injection hc with hc _
     injection hc with i4 hc
     injection hc with i5 i6
     subst i1 i2 i3 i4 i5 i6
     have hma := NV (Q := Jg) (fun X a Y hX => by
       obtain ⟨x, y, rfl, hx, hy, -⟩ := OL hX
       have h6 := Mi hx (GJ _)
       have h7 := Ou hy (Hs _ _ _)
       exact ⟨by simp only; omega, by simp only; omega, by simp only; omega, by simp only; omega⟩) _ _ _ _ hm
     have p1:=(Dx k1).1;have p2:=(Dx k2).1;have p3:=(Dx k3).1;have p4:=(Dx j1).1;have p5:=(Dx j2).1;have p6:=(Dx j3).1;exact ⟨p1,p2,p3,hgd,p4,p5,by rw [hma.1];have:(2:Nat) ^ 16=65536:=rfl;omega,hma.2⟩
    ·cases h5
   ·cases h3
  ·cases h1
open Classical in
noncomputable def DH (lp li:List UInt8):List UInt8×Int:=match Bj li with
 |some (_,g,c,B,E)=>match Dl c.alg lp with
  |some (b,s,g2,B2,ah,bh,M)=>if b=g∧s=(G9 g c B E).toNat then
    if ah+bh≤E.length then if DR g2 c B2 (Gj ah bh M (E.map (CT B B2))) then (BJ 1 g2 c B2 (Gj ah bh M (E.map (CT B B2))),0) else ([],9)
    else ([],9)
   else ([],10)
  |none=>([],9)
 |none=>([],9)
theorem XL {ah bh:Nat} {M O:List EI}:(Gj ah bh M O).length≤M.length+2 * O.length:=by
 unfold Gj;simp only [jO,jk,jh];omega
theorem TG {ah bh:Nat} {M O:List EI} {e:EI} (h:e∈Gj ah bh M O):e∈M∨e∈O:=by
 unfold Gj at h;rcases jT.1 h with h|h
 ·rcases jT.1 h with h|h
  ·exact Or.inr (List.mem_of_mem_take h)
  ·exact Or.inl h
 ·exact Or.inr (List.mem_of_mem_drop h)
theorem W7 (tp ti:ByteArray) (w:World) (h1:tp.size≤1099511627776) (h2:ti.size≤1099511627776):
  Calls Tryz.prog 160 #[.string tp,.string ti] w (Ff w (DH tp.data.toList ti.data.toList)):=by
 have hr1:=fun wx=>JL ti wx h2
 rcases hi1:Bj ti.data.toList with _|⟨f,g,c,B,E⟩
 ·rw [hi1] at hr1;unfold FH CU at hr1;have HF:Hid (DH tp.data.toList ti.data.toList=([],9)):=by show _=_;unfold DH;rw [hi1]
  rw [HF.out];go_enter Tryz.func160,Tryz.ntmps160;go_wp2_with fail;refine (hr1 _).mono ?_;rintro e w1 ⟨hb1,rfl⟩;go_wp2;go_ret2;exact ⟨rfl,hb1.step_alloc _⟩
 rw [hi1] at hr1;unfold FH D8 at hr1;have ok1:=Hp hi1;have hl1:=ok1.len;have hg1:=ok1.right.1.2;have hr2:=fun wx=>QJ tp c.alg wx h1
 rcases hi2:Dl c.alg tp.data.toList with _|⟨b,s,g2,B2,ah,bh,M⟩
 ·rw [hi2] at hr2;unfold L5 FY at hr2;have HF:Hid (DH tp.data.toList ti.data.toList=([],9)):=by show _=_;unfold DH;rw [hi1];simp only;rw [hi2]
  rw [HF.out];clear ok1;go_enter Tryz.func160,Tryz.ntmps160;go_wp2_with fail;refine (hr1 _).mono ?_;rintro e w1 ⟨hb1,vP1,vE1,rfl,hoP1,hoE1⟩;obtain ⟨aP1,kP1,rfl⟩:=B8 hoP1;obtain ⟨aE1,kE1,rfl⟩:=B8 hoE1;have HB1:=jp (hb1.step_alloc (.cells #[.int .i64 (f:Int),.int .i64 (g:Int),.int .i64 c.alg,.int .i64 c.slots,.int .i64 c.points,.int .i64 c.probes,.string c.key,.int .i64 c.formats,.slice aP1 B.length kP1,.slice aE1 E.length kE1] 173));clear hoP1 hoE1 hb1;go_wp2_with fail;refine (hr2 _).mono ?_;rintro e w2 ⟨hb2,rfl⟩;have HB2:=jp ((HB1.out.trans hb2).step_alloc (.cells #[.int .i64 0,.int .u32 0,.int .i64 0,.slice none 0 0,.int .i64 0,.int .i64 0,.slice none 0 0] 224));clear hb2;go_wp2;go_ret2;exact ⟨rfl,HB2.out⟩
 rw [hi2] at hr2;unfold L5 Hb at hr2;have ok2:=PY hi2;obtain ⟨O,hOd⟩:∃O,O=E.map (CT B B2):=⟨_,rfl⟩;have hOl:O.length≤E.length:=by rw [hOd,je];exact jH _
 obtain ⟨NN,hNd⟩:∃N,N=Gj ah bh M O:=⟨_,rfl⟩
 have hNl:NN.length≤100000:=by
  have h3:=XL (ah:=ah) (bh:=bh) (M:=M) (O:=O);have h4:=ok2.len;rw [hNd];omega
 obtain ⟨sg,hsd⟩:∃sg,sg=(G9 g c B E).toNat:=⟨_,rfl⟩
 have HF10:Hid (¬(b=g∧s=sg)→DH tp.data.toList ti.data.toList=([],10)):=fun h=>by
  rw [hsd] at h;unfold DH;rw [hi1];simp only;rw [hi2];exact if_neg h
 have HF0:Hid (b=g→s=sg→ah+bh≤E.length→DR g2 c B2 NN→DH tp.data.toList ti.data.toList=(BJ 1 g2 c B2 NN,0)):=fun q1 q2 q3 q4=>by
  rw [hsd] at q2;rw [hNd,hOd] at q4 ⊢;unfold DH;rw [hi1];simp only;rw [hi2];simp only;rw [if_pos ⟨q1,q2⟩,if_pos q3,if_pos q4]
 have HF9:Hid (b=g→s=sg→¬(ah+bh≤E.length∧DR g2 c B2 NN)→DH tp.data.toList ti.data.toList=([],9)):=fun q1 q2 q3=>by
  rw [hsd] at q2;rw [hNd,hOd] at q3;unfold DH;rw [hi1];simp only;rw [hi2];simp only;rw [if_pos ⟨q1,q2⟩];by_cases q4:ah+bh≤E.length
  ·rw [if_pos q4,if_neg (fun h=>q3 ⟨q4,h⟩)]
  ·rw [if_neg q4]
 have hsum:=fun vP vE wx h1 h2=>On f g c B E vP vE wx (by omega) ok1.tok h1 ok1.good.1 h2 (fun e he=>(ok1.ents e he).1) (by omega)
 have hent:=fun q vP vE v2 wx hT hP hE hP2=>OX q c vP vE v2 B B2 E wx hT hP hE hP2 (by have:=ok2.good.1.1;omega) (by omega)
 rw [←hOd] at hent;have htu:=fun q vM vO wx h4 h5 h6 hM hO=>XW q ah bh vM vO M O wx h4 h5 h6 hM hO (by have:=ok2.len;omega) (by omega) (by have:=ok2.a16;omega) (by have:=ok2.h16;omega)
 rw [←hNd] at htu;have hcr:=fun vP vE wx hP hE=>Pa g2 c vP vE B2 NN wx hP hE ok2.good.1 (by omega) ok1.tok
 have hNr:DR g2 c B2 NN→NN.length≤255∧(∀e∈NN,Fp e):=fun h=>by
  have q1:=h.2.1;have q2:=LU ok1.tok ok2.good.1;refine ⟨by omega,fun e he=>?_⟩;obtain ⟨j,hj,q3,q4⟩:=h.2.2.1 e he;have q5:=ok2.good.1.1
  have q6:0≤e.1∧e.1<18446744073709551616:=by
   rw [hNd] at he;rcases TG he with he|he
   ·have:=ok2.ents e he;exact ⟨this.1,this.2.1⟩
   ·rw [hOd] at he;obtain ⟨e0,he0,rfl⟩:=List.mem_map.1 he;exact ok1.pts e0 he0
  exact ⟨q6.1,q6.2,by omega,by omega⟩
 have hwi:=fun (hR:DR g2 c B2 NN) vP vE wx hP hE=>Js 1 g2 c B2 NN vP vE wx (by omega) (by have:=ok2.g32;omega) ok1.tok hP ok2.good.1 hE (hNr hR).2 (by have:=(hNr hR).1;omega)
 unfold DW at hcr hwi;unfold D8 KY at hsum;rw [←hsd] at hsum;have HRG:Hid (DR g2 c B2 NN↔DR g2 c B2 NN):=Iff.rfl;generalize BJ 1 g2 c B2 NN=IB at *;generalize DR g2 c B2 NN=RG at *;have ha16:=ok2.a16;have hb16:=ok2.h16;clear hi1 hi2 hsd hNd hOd HRG hNr;go_enter Tryz.func160,Tryz.ntmps160;go_wp2_with fail;refine (hr1 _).mono ?_;rintro e w1 ⟨hb1,vP1,vE1,rfl,hoP1,hoE1⟩;obtain ⟨aP1,kP1,rfl⟩:=B8 hoP1;obtain ⟨aE1,kE1,rfl⟩:=B8 hoE1;have HB1:=jp hb1;have HPa:=jp (AJ.pool hoP1);have HEa:=jp (AS.ents hoE1);clear hoP1 hoE1 hb1 hr1;go_wp2_with fail;refine (hr2 _).mono ?_;rintro e w2 ⟨hb2,vP2,vM,rfl,hoP2,hoM⟩;obtain ⟨aP2,kP2,rfl⟩:=B8 hoP2;obtain ⟨aM,kM,rfl⟩:=B8 hoM;have hA2:=(Ae.new w1 173 #[.int .i64 (f:Int),.int .i64 (g:Int),.int .i64 c.alg,.int .i64 c.slots,.int .i64 c.points,.int .i64 c.probes,.string c.key,.int .i64 c.formats,.slice aP1 B.length kP1,.slice aE1 E.length kE1]).bel hb2;have hB2:=(HB1.out.step_alloc _).trans hb2;obtain ⟨W2,hW2⟩:∃W2,W2=w2.alloc (.cells #[.int .i64 (b:Int),.int .u32 (s:Int),.int .i64 (g2:Int),.slice aP2 B2.length kP2,.int .i64 (ah:Int),.int .i64 (bh:Int),.slice aM M.length kM] 224):=⟨_,rfl⟩;have hbw:Aa w2 W2:=by rw [hW2];exact (jD w2).step_alloc _
 have HCH:Hid (Ae w2.heap.size 224 #[.int .i64 (b:Int),.int .u32 (s:Int),.int .i64 (g2:Int),.slice aP2 B2.length kP2,.int .i64 (ah:Int),.int .i64 (bh:Int),.slice aM M.length kM] W2):=by show Ae _ _ _ W2;rw [hW2];exact Ae.new _ _ _
 have HA:=jp (hA2.bel hbw);have HB2:=jp (hB2.trans hbw);replace HPa:=jp (((HPa.out.later ((jD w1).step_alloc _)).later hb2).later hbw);replace HEa:=jp (((HEa.out.later ((jD w1).step_alloc _)).later hb2).later hbw);have HPb:=jp ((AJ.pool hoP2).later hbw);have HM:=jp ((AS.ents hoM).later hbw);clear hoP2 hoM hb2 hr2 HB1 hA2 hB2 hbw;go_wp2_with fail;rw [←hW2];clear hW2;have A2:=HA.out;have C2:=HCH.out;have a0:=A2.cell 0 rfl;have a1:=A2.cell 1 rfl;have a2:=A2.cell 2 rfl;have a3:=A2.cell 3 rfl;have a4:=A2.cell 4 rfl;have a5:=A2.cell 5 rfl;have a6:=A2.cell 6 rfl;have a7:=A2.cell 7 rfl;have a8:=A2.cell 8 rfl;have a9:=A2.cell 9 rfl;have k0:=C2.cell 0 rfl;have k1:=C2.cell 1 rfl;have k2:=C2.cell 2 rfl;have k3:=C2.cell 3 rfl;have k4:=C2.cell 4 rfl;have k5:=C2.cell 5 rfl;have k6:=C2.cell 6 rfl;clear A2 C2;by_cases hbg:b=g
 rotate_left
 ·have hF:=jp (HF10.out (fun h=>hbg h.1));have hnb:(((b:Int)) !=(g:Int))=true:=by rw [bne_iff_ne];omega
  clear HF10 HF0 HF9 hsum hent htu hcr hwi;go_quiet (fail);go_wp2;go_ret2;rw [hF.out];exact ⟨rfl,HB2.out.step_drewN _⟩
 subst hbg;by_cases hss:s=sg
 rotate_left
 ·have hF:=jp (HF10.out (fun h=>hss h.2));have hns:(((s:Int)) !=(sg:Int))=true:=by rw [bne_iff_ne];omega
  clear HF10 HF0 HF9 hent htu hcr hwi hss;go_region_held3 (fun w'=>Aa W2 w'∧w'.cell? ⟨w1.heap.size,0,none⟩=some (.int .i64 (f:Int))∧w'.cell? ⟨w1.heap.size,1,none⟩=some (.int .i64 (b:Int))∧w'.cell? ⟨w1.heap.size,2,none⟩=some (.int .i64 c.alg)∧w'.cell? ⟨w1.heap.size,3,none⟩=some (.int .i64 c.slots)∧w'.cell? ⟨w1.heap.size,4,none⟩=some (.int .i64 c.points)∧w'.cell? ⟨w1.heap.size,5,none⟩=some (.int .i64 c.probes)∧w'.cell? ⟨w1.heap.size,6,none⟩=some (.string c.key)∧w'.cell? ⟨w1.heap.size,7,none⟩=some (.int .i64 c.formats)∧w'.cell? ⟨w1.heap.size,8,none⟩=some (.slice aP1 B.length kP1)∧w'.cell? ⟨w1.heap.size,9,none⟩=some (.slice aE1 E.length kE1)∧w'.cell? ⟨w2.heap.size,0,none⟩=some (.int .i64 (b:Int))∧w'.cell? ⟨w2.heap.size,1,none⟩=some (.int .u32 (s:Int))) ((exact ⟨by solve_by_elim [jA,jB,jC,jD,jE],Aa.cell (by solve_by_elim [jA,jB,jC,jD,jE]) a0,Aa.cell (by solve_by_elim [jA,jB,jC,jD,jE]) a1,Aa.cell (by solve_by_elim [jA,jB,jC,jD,jE]) a2,Aa.cell (by solve_by_elim [jA,jB,jC,jD,jE]) a3,Aa.cell (by solve_by_elim [jA,jB,jC,jD,jE]) a4,Aa.cell (by solve_by_elim [jA,jB,jC,jD,jE]) a5,Aa.cell (by solve_by_elim [jA,jB,jC,jD,jE]) a6,Aa.cell (by solve_by_elim [jA,jB,jC,jD,jE]) a7,Aa.cell (by solve_by_elim [jA,jB,jC,jD,jE]) a8,Aa.cell (by solve_by_elim [jA,jB,jC,jD,jE]) a9,Aa.cell (by solve_by_elim [jA,jB,jC,jD,jE]) k0,Aa.cell (by solve_by_elim [jA,jB,jC,jD,jE]) k1⟩)) ((go_at_call 197;refine Calls.mono (hsum _ _ _ (HPa.out.later (by solve_by_elim [jA,jB,jC,jD,jE])) (HEa.out.later (by solve_by_elim [jA,jB,jC,jD,jE]))) ?_;rintro e w3 ⟨rfl,hb3⟩))
  all_goals
   have HB3:Hid (Aa w w3):=HB2.out.trans (by first|assumption|solve_by_elim [jA,jB,jC,jD,jE]);go_wp2;go_ret2;rw [hF.out];exact ⟨rfl,HB3.out⟩
 subst hss;have hns:(((s:Int)) !=(s:Int))=false:=by simp
 go_region_held3 (fun w'=>Aa W2 w'∧w'.cell? ⟨w1.heap.size,0,none⟩=some (.int .i64 (f:Int))∧w'.cell? ⟨w1.heap.size,1,none⟩=some (.int .i64 (b:Int))∧w'.cell? ⟨w1.heap.size,2,none⟩=some (.int .i64 c.alg)∧w'.cell? ⟨w1.heap.size,3,none⟩=some (.int .i64 c.slots)∧w'.cell? ⟨w1.heap.size,4,none⟩=some (.int .i64 c.points)∧w'.cell? ⟨w1.heap.size,5,none⟩=some (.int .i64 c.probes)∧w'.cell? ⟨w1.heap.size,6,none⟩=some (.string c.key)∧w'.cell? ⟨w1.heap.size,7,none⟩=some (.int .i64 c.formats)∧w'.cell? ⟨w1.heap.size,8,none⟩=some (.slice aP1 B.length kP1)∧w'.cell? ⟨w1.heap.size,9,none⟩=some (.slice aE1 E.length kE1)∧w'.cell? ⟨w2.heap.size,0,none⟩=some (.int .i64 (b:Int))∧w'.cell? ⟨w2.heap.size,1,none⟩=some (.int .u32 (s:Int))) ((exact ⟨by solve_by_elim [jA,jB,jC,jD,jE],Aa.cell (by solve_by_elim [jA,jB,jC,jD,jE]) a0,Aa.cell (by solve_by_elim [jA,jB,jC,jD,jE]) a1,Aa.cell (by solve_by_elim [jA,jB,jC,jD,jE]) a2,Aa.cell (by solve_by_elim [jA,jB,jC,jD,jE]) a3,Aa.cell (by solve_by_elim [jA,jB,jC,jD,jE]) a4,Aa.cell (by solve_by_elim [jA,jB,jC,jD,jE]) a5,Aa.cell (by solve_by_elim [jA,jB,jC,jD,jE]) a6,Aa.cell (by solve_by_elim [jA,jB,jC,jD,jE]) a7,Aa.cell (by solve_by_elim [jA,jB,jC,jD,jE]) a8,Aa.cell (by solve_by_elim [jA,jB,jC,jD,jE]) a9,Aa.cell (by solve_by_elim [jA,jB,jC,jD,jE]) k0,Aa.cell (by solve_by_elim [jA,jB,jC,jD,jE]) k1⟩)) ((go_at_call 197;refine Calls.mono (hsum _ _ _ (HPa.out.later (by solve_by_elim [jA,jB,jC,jD,jE])) (HEa.out.later (by solve_by_elim [jA,jB,jC,jD,jE]))) ?_;rintro e w3 ⟨rfl,hb3⟩));have hb23:Aa W2 w3:=by solve_by_elim [jA,jB,jC,jD,jE]
 have HB3:=jp (HB2.out.trans hb23);have HA3:=jp (HA.out.bel hb23);have HC3:=jp (HCH.out.bel hb23);replace HPa:=jp (HPa.out.later hb23);replace HEa:=jp (HEa.out.later hb23);replace HPb:=jp (HPb.out.later hb23);replace HM:=jp (HM.out.later hb23);have A3:=HA3.out;have C3:=HC3.out;clear k0 k1 k2 k3 k4 k5 k6;have b2:=A3.cell 2 rfl;have b3:=A3.cell 3 rfl;have b4:=A3.cell 4 rfl;have b5:=A3.cell 5 rfl;have b6:=A3.cell 6 rfl;have b7:=A3.cell 7 rfl;have b9:=A3.cell 9 rfl;have k2:=C3.cell 2 rfl;have k3:=C3.cell 3 rfl;have k4:=C3.cell 4 rfl;have k5:=C3.cell 5 rfl;have k6:=C3.cell 6 rfl;have hw13:w1.heap.size<w3.heap.size:=A3.lt;have hw23:w2.heap.size<w3.heap.size:=C3.lt;clear A3 C3 HA HCH HB2 hsum a0 a1 a2 a3 a4 a5 a6 a7 a8 a9;by_cases hab:ah+bh≤E.length
 rotate_left
 ·have hF:=jp (HF9.out (by simp) (by simp) (fun h=>hab h.1));have hdd:decide ((E.length:Int)<(ah:Int)+(bh:Int))=true:=jL (by omega);clear HF10 HF0 HF9 hab hent htu hcr hwi;go_wp2;go_ret2;rw [hF.out];exact ⟨rfl,HB3.out⟩
 have hdd:decide ((E.length:Int)<(ah:Int)+(bh:Int))=false:=jK (by omega);replace HF0:=jp (HF0.out (by simp) (by simp) hab);replace HF9:Hid (¬RG→DH tp.data.toList ti.data.toList=([],9)):=fun h=>HF9.out (by simp) (by simp) (fun k=>h k.2)
 obtain ⟨W3,hW3⟩:∃W3,W3=w3.alloc (.cells #[.int .i64 c.alg,.int .i64 c.slots,.int .i64 c.points,.int .i64 c.probes,.string c.key,.int .i64 c.formats,.slice aP2 B2.length kP2,.slice none 0 0] 66):=⟨_,rfl⟩;have hb3w:Aa w3 W3:=by rw [hW3];exact (jD w3).step_alloc _
 have HTB:Hid (Ae w3.heap.size 66 #[.int .i64 c.alg,.int .i64 c.slots,.int .i64 c.points,.int .i64 c.probes,.string c.key,.int .i64 c.formats,.slice aP2 B2.length kP2,.slice none 0 0] W3):=by show Ae _ _ _ W3;rw [hW3];exact Ae.new _ _ _
 have A4:=HA3.out.bel hb3w;have H4:=jp (hent w1.heap.size _ _ _ W3 ⟨⟨A4.cell 2 rfl,A4.cell 3 rfl,A4.cell 4 rfl,A4.cell 5 rfl,A4.cell 6 rfl,A4.cell 7 rfl⟩,A4.cell 8 rfl,A4.cell 9 rfl⟩ (HPa.out.later hb3w) (HEa.out.later hb3w) (HPb.out.later hb3w));clear A4 hent HF10 hab;go_wp2_with fail;rw [←hW3];clear hW3;refine H4.out.mono ?_;rintro e w4 ⟨vO,rfl,hb4,hoO⟩;obtain ⟨aO,kO,rfl⟩:=B8 hoO;have hb34:=hb3w.trans hb4;have C4:=HC3.out.bel hb34;have hw4:w3.heap.size<w4.heap.size:=(HTB.out.bel hb4).lt;have HTB4:=jp (HTB.out.bel hb4);have H5:=jp (htu w2.heap.size _ _ w4 (C4.cell 4 rfl) (C4.cell 5 rfl) (C4.cell 6 rfl) (HM.out.later hb34) (AS.ents hoO));have HB34:=jp hb34;clear C4 htu H4 hoO hb4 hb3w hb34 b2 b3 b4 b5 b6 b7 b9 k2 k3 k4 k5 k6;go_wp2_with fail;refine H5.out.mono ?_;rintro e w5 ⟨vN,rfl,hb5,hoN⟩;obtain ⟨aN,kN,rfl⟩:=B8 hoN;have T5:=HTB4.out.bel hb5;have HB35:=jp (HB34.out.trans hb5);have C5:=HC3.out.bel HB35.out;have k2:=C5.cell 2 rfl;have t0:=T5.cell 0 rfl;have t1:=T5.cell 1 rfl;have t2:=T5.cell 2 rfl;have t3:=T5.cell 3 rfl;have t4:=T5.cell 4 rfl;have t5:=T5.cell 5 rfl;have t6:=T5.cell 6 rfl;have t7:=T5.cell 7 rfl;have f7:=T5.free 7;have HV5:=jp (HB35.out.step_set (p:=⟨w3.heap.size,7,none⟩) (jH _) (.slice aN NN.length kN));have HT5:=jp (T5.set 7 (.slice aN NN.length kN) (cs':=#[.int .i64 c.alg,.int .i64 c.slots,.int .i64 c.points,.int .i64 c.probes,.string c.key,.int .i64 c.formats,.slice aP2 B2.length kP2,.slice aN NN.length kN]) rfl);have HN5:=jp (ownsRow_setCell_below hoN (a:=⟨w3.heap.size,7,none⟩) (by simp only;omega) (.slice aN NN.length kN));have hw35:w2.heap.size≠w3.heap.size:=by omega
 have H6:=jp (hcr _ _ _ (HPb.out.later HV5.out) (AS.ents HN5.out));clear C5 T5 hb5 hoN H5 HB34 HTB4 HB35 hcr;go_wp2_with fail;refine H6.out.mono ?_;rintro e w6 ⟨x,rfl,hb6,hx⟩;have HX:=jp hx;have HB6:=jp (HV5.out.trans hb6);have T6:=HT5.out.bel hb6;have C6:=HC3.out.bel HB6.out;have HN6:=jp (CV HN5.out hb6);clear k2 t0 t1 t2 t3 t4 t5 t6 t7 f7;have k2:=C6.cell 2 rfl;have t0:=T6.cell 0 rfl;have t1:=T6.cell 1 rfl;have t2:=T6.cell 2 rfl;have t3:=T6.cell 3 rfl;have t4:=T6.cell 4 rfl;have t5:=T6.cell 5 rfl;have t6:=T6.cell 6 rfl;have t7:=T6.cell 7 rfl;clear T6 C6 hb6 hx H6 HV5 HT5 HN5;cases x
 ·have hF:=jp (HF9.out (fun h=>by have:=HX.out.2 h;cases this));clear hwi HF0 HF9 HX;go_wp2;go_ret2;rw [hF.out];exact ⟨rfl,HB3.out.trans HB6.out⟩
 ·have hRG:RG:=HX.out.1 (by simp);have hF:=jp (HF0.out hRG);have H7:=jp (hwi hRG _ _ w6 (HPb.out.later HB6.out) (Bv.of (AS.ents HN6.out)));clear hwi HF0 HF9 HX hRG;go_wp2_with fail;refine H7.out.mono ?_;rintro e w7 ⟨rfl,hb7⟩;have HB7:=jp (HB3.out.trans (HB6.out.trans hb7));clear hb7;go_wp2;go_ret2;rw [hF.out];exact ⟨rfl,HB7.out⟩
end Go.Proofs.YtpapdkhjdelfcabGreat
