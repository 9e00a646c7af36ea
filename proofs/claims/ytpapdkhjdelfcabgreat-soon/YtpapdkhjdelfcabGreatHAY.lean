import Derived.Test.YtpapdkhjdelfcabGreatHAX
import Derived.Deep.RegionHeld3
set_option maxRecDepth 100000
set_option maxHeartbeats 4000000
namespace Go.Proofs.YtpapdkhjdelfcabGreat
open Go.RowKit
theorem Tryz.uTC:Tryz.prog.underlying 34=some (.struct (Tryz.prog.fieldsOf 34)):=by kernel_rfl
theorem Tryz.sTC:Tryz.prog.stoodInHeld 34=false:=by kernel_rfl
def cneB (c d:Cfg):Bool:=!(c.alg==d.alg && (c.slots==d.slots && (c.points==d.points && (c.probes==d.probes && (c.key.toList==d.key.toList && c.formats==d.formats)))))
theorem neq_cf (c d:Cfg) (w:World):(binOp .neq 34 (.agg #[.int .i64 c.alg,.int .i64 c.slots,.int .i64 c.points,.int .i64 c.probes,.string c.key,.int .i64 c.formats]) (.agg #[.int .i64 d.alg,.int .i64 d.slots,.int .i64 d.points,.int .i64 d.probes,.string d.key,.int .i64 d.formats])).run Tryz.prog w= .ok (.bool (cneB c d)) w:=by
 rw [run_neq_struct,run_equalIn_struct w 9999 _ _ _ Tryz.uTC Tryz.sTC];unfold cneB;simp [go_sem];by_cases h1:c.alg=d.alg <;>by_cases h2:c.slots=d.slots <;>by_cases h3:c.points=d.points <;>by_cases h4:c.probes=d.probes <;>by_cases h5:c.key.toList=d.key.toList <;>by_cases h6:c.formats=d.formats <;>simp [h1,h2,h3,h4,h5,h6]
theorem cneB_iff (c d:Cfg):cneB c d=true↔c≠d:=by
 obtain ⟨a1,a2,a3,a4,a5,a6⟩:=c;obtain ⟨b1,b2,b3,b4,b5,b6⟩:=d;unfold cneB;simp only [Bool.not_eq_true',Bool.and_eq_false_iff,beq_eq_false_iff_ne,ne_eq,Cfg.mk.injEq];have hs:a5.toList=b5.toList↔a5=b5:=⟨fun h=>toList_inj h,fun h=>by rw [h]⟩;rw [hs];constructor
 ·intro h e;obtain ⟨rfl,rfl,rfl,rfl,rfl,rfl⟩:=e;simp at h
 ·intro h;by_cases h1:a1=b1 <;>by_cases h2:a2=b2 <;>by_cases h3:a3=b3 <;>by_cases h4:a4=b4 <;>by_cases h5:a5=b5 <;>by_cases h6:a6=b6 <;>simp_all
def cutA (ao:Option Addr) (cap n:Nat):Option Addr:=if cap=n then ao else ao.map (·.add (n * 2))
theorem slice_teF (wx:World) (ao:Option Addr) (L cap n:Nat) (h:n≤L):
  (Instr.slice 64 (.slice ao L cap) (some (.int .i64 n)) none none).run Tryz.prog wx= .ok (.slice (cutA ao cap n) (L - n) (cap - n)) wx:=by
 rw [run_slice_any (P:=Tryz.prog) wx 64 ao L cap (by kernel_rfl)];have hs:(sizeOf (Tryz.prog.elem 64)).run Tryz.prog wx= .ok 2 wx:=by kernel_rfl
 have hb:(Instr.sliceBounds true L cap (some (.int .i64 n)) none none).run Tryz.prog wx= .ok (n,L,cap) wx:=by
  simp [Instr.sliceBounds,run_sliceBound,go_sem,h]
 rw [hb];simp only [Result.andThen,hs,sliced,cutA]
theorem slice_teL (wx:World) (ao:Option Addr) (L cap n m:Nat) (h:n+m≤L) (hc:L≤cap):
  (Instr.slice 64 (.slice ao L cap) (some (.int .i64 n)) (some (.int .i64 ((L:Int) - (m:Int)))) none).run Tryz.prog wx= .ok (.slice (cutA ao cap n) (L - m - n) (cap - n)) wx:=by
 rw [run_slice_lh (P:=Tryz.prog) wx 64 ao L cap (by kernel_rfl) .i64 .i64 _ _ (by omega) (by omega) (by omega)];have e1:((L:Int) - (m:Int)).toNat=L - m:=by omega
 have hs:(sizeOf (Tryz.prog.elem 64)).run Tryz.prog wx= .ok 2 wx:=by kernel_rfl
 rw [hs];simp only [Result.andThen,sliced,cutA,Int.toNat_natCast,e1]
theorem EOff.cut {w:World} {ao:Option Addr} {cap n m:Nat} {E:List EI} (h:EOff w (.slice ao E.length cap) E) (hnm:n+m≤E.length) (hc:E.length≤cap):EOff w (.slice (cutA ao cap n) (E.length - m - n) (cap - n)) ((E.drop n).take (E.length - m - n)):=by
 obtain ⟨ao',cap',hv,hcell⟩:=h;simp only [Value.slice.injEq] at hv;obtain ⟨rfl, -,rfl⟩:=hv;have hl:((E.drop n).take (E.length - m - n)).length=E.length - m - n:=by simp;omega
 refine ⟨_,_,by rw [hl],fun j hj=>?_⟩;rw [hl] at hj;obtain ⟨g,off,h1,h2,h3⟩:=hcell (n+j) (by omega);have hne:¬cap=n:=by omega
 have e:((E.drop n).take (E.length - m - n))[j]'(by rw [hl];exact hj)=E[n+j]'(by omega):=by simp
 rw [e];refine ⟨g,off+n * 2,?_,?_,?_⟩
 ·rw [cutA,if_neg hne,h1];simp only [Option.map_some,Addr.add];split
  ·rename_i h0;rw [h0];rfl
  ·rfl
 ·rw [show off+n * 2+j * 2=off+(n+j) * 2 by omega];exact h2
 ·rw [show off+n * 2+j * 2+1=off+(n+j) * 2+1 by omega];exact h3
theorem EOff.from {w:World} {ao:Option Addr} {cap n:Nat} {E:List EI} (h:EOff w (.slice ao E.length cap) E) (hnm:n≤E.length) (hc:E.length≤cap):EOff w (.slice (cutA ao cap n) (E.length - n) (cap - n)) (E.drop n):=by
 have:=h.cut (n:=n) (m:=0) (by omega) hc;have e:(E.drop n).take (E.length - 0 - n)=E.drop n:=List.take_of_length_le (by rw [List.length_drop];omega);rw [e] at this;simpa using this
def decCfg (a b:Cfg):Decidable (a=b):=
 decidable_of_iff (a.alg=b.alg∧a.slots=b.slots∧a.points=b.points∧a.probes=b.probes∧a.key.data=b.key.data∧a.formats=b.formats)
  ⟨fun ⟨h1,h2,h3,h4,h5,h6⟩=>by cases a;cases b;cases h1;cases h2;cases h3;cases h4;cases h6;exact congrArg (fun k=>Cfg.mk _ _ _ _ k _) (ByteArray.ext h5),fun h=>by subst h;simp⟩
def patchF (l1 l2:List UInt8):List UInt8×Int:=match imageP l1,imageP l2 with
 |some (_,g1,c1,B1,E1),some (_,g2,c2,B2,E2)=>haveI:=decCfg c1 c2;if c1=c2 then
   (patchB g1 (sumF g1 c1 B1 E1).toNat g2 B2 (preN (E1.map (inE B1 B2)) E2) (sufN ((E1.map (inE B1 B2)).drop (preN (E1.map (inE B1 B2)) E2)) (E2.drop (preN (E1.map (inE B1 B2)) E2))) ((E2.drop (preN (E1.map (inE B1 B2)) E2)).take (E2.length - sufN ((E1.map (inE B1 B2)).drop (preN (E1.map (inE B1 B2)) E2)) (E2.drop (preN (E1.map (inE B1 B2)) E2)) - preN (E1.map (inE B1 B2)) E2)) c2.alg,0)
  else ([],9)
 |_,_=>([],9)
def RTxE (w:World) (x:List UInt8×Int) (e:Ending) (w':World):Prop:=e= .returned (.tuple #[.string (txt x.1),.int .i64 x.2])∧Bel w w'
theorem patch_is (t1 t2:ByteArray) (w:World) (h1:t1.size≤1099511627776) (h2:t2.size≤1099511627776):
  Calls Tryz.prog 158 #[.string t1,.string t2] w (RTxE w (patchF t1.data.toList t2.data.toList)):=by
 have hr1:=fun wx=>readi_is t1 wx h1
 have hr2:=fun wx=>readi_is t2 wx h2
 have HPF:Hid (patchF t1.data.toList t2.data.toList=patchF t1.data.toList t2.data.toList):=rfl;rcases hi1:imageP t1.data.toList with _|⟨f1,g1,c1,B1,E1⟩
 ·rw [hi1] at hr1;unfold RImg imgNo at hr1;have HF:Hid (patchF t1.data.toList t2.data.toList=([],9)):=by show _=_;unfold patchF;rw [hi1]
  rw [HF.out];clear HPF;go_enter Tryz.func158,Tryz.ntmps158;go_wp2_with fail;refine (hr1 _).mono ?_;rintro e w1 ⟨hb1,rfl⟩;go_wp2;go_ret2;exact ⟨rfl,hb1.step_alloc _⟩
 rw [hi1] at hr1;have ok1:=imageP_ok hi1;rcases hi2:imageP t2.data.toList with _|⟨f2,g2,c2,B2,E2⟩
 ·rw [hi2] at hr2;unfold RImg imgNo at hr2;unfold RImg imgV at hr1;have HF:Hid (patchF t1.data.toList t2.data.toList=([],9)):=by show _=_;unfold patchF;rw [hi1,hi2]
  rw [HF.out];clear HPF ok1;go_enter Tryz.func158,Tryz.ntmps158;go_wp2_with fail;refine (hr1 _).mono ?_;rintro e w1 ⟨hb1,vP1,vE1,rfl,hoP1,hoE1⟩;obtain ⟨aP1,kP1,rfl⟩:=own_sliceW hoP1;obtain ⟨aE1,kE1,rfl⟩:=own_sliceW hoE1;have HB1:=Hid.mk (hb1.step_alloc (.cells #[.int .i64 (f1:Int),.int .i64 (g1:Int),.int .i64 c1.alg,.int .i64 c1.slots,.int .i64 c1.points,.int .i64 c1.probes,.string c1.key,.int .i64 c1.formats,.slice aP1 B1.length kP1,.slice aE1 E1.length kE1] 173));clear hoP1 hoE1 hb1;go_wp2_with fail;refine (hr2 _).mono ?_;rintro e w2 ⟨hb2,rfl⟩;have HB2:=Hid.mk ((HB1.out.trans hb2).step_alloc (.cells #[.int .i64 0,.int .i64 0,.int .i64 0,.int .i64 0,.int .i64 0,.int .i64 0,.string ⟨#[]⟩,.int .i64 0,.slice none 0 0,.slice none 0 0] 173));clear hb2;go_wp2;go_ret2;exact ⟨rfl,HB2.out⟩
 rw [hi2] at hr2;have ok2:=imageP_ok hi2;unfold RImg imgV at hr1 hr2;clear HPF;have hg1:=ok1.right.1.2;have hg2:=ok2.right.1.2;have hl1:=ok1.len;have hl2:=ok2.len;obtain ⟨O,hOd⟩:∃O,O=E1.map (inE B1 B2):=⟨_,rfl⟩;have hOl:O.length≤255:=by rw [hOd,List.length_map];exact hl1
 obtain ⟨n,hnd⟩:∃n,n=preN O E2:=⟨_,rfl⟩;have hn:=preN_le O E2;rw [←hnd] at hn;obtain ⟨hn1,hn2⟩:=hn;obtain ⟨m,hmd⟩:∃m,m=sufN (O.drop n) (E2.drop n):=⟨_,rfl⟩;have hm:=(sufN_le (O.drop n) (E2.drop n)).2;rw [←hmd,List.length_drop] at hm;obtain ⟨sg,hsd⟩:∃sg,sg=(sumF g1 c1 B1 E1).toNat:=⟨_,rfl⟩;have hs32:sg<4294967296:=by rw [hsd];exact (sumF g1 c1 B1 E1).isLt
 have hlM:((E2.drop n).take (E2.length - m - n)).length=E2.length - m - n:=by simp;omega
 have HF1:Hid (c1=c2→patchF t1.data.toList t2.data.toList=(patchB g1 sg g2 B2 n m ((E2.drop n).take (E2.length - m - n)) c2.alg,0)):=fun h=>by
  unfold patchF;rw [hi1,hi2,hsd,hmd,hnd,hOd];exact if_pos h
 have HF2:Hid (c1≠c2→patchF t1.data.toList t2.data.toList=([],9)):=fun h=>by
  unfold patchF;rw [hi1,hi2];exact if_neg h
 have hsum:=fun vP vE wx h1 h2=>sumof_is f1 g1 c1 B1 E1 vP vE wx (by omega) ok1.tok h1 ok1.good.1 h2 (fun e he=>(ok1.ents e he).1) (by omega)
 have hent:=fun q vP vE v2 wx hT hP hE hP2=>entsin_is q c1 vP vE v2 B1 B2 E1 wx hT hP hE hP2 (by have:=ok2.good.1.1;omega) (by omega)
 rw [←hOd] at hent;have hah:=fun vO vE wx h h'=>ahead_is O E2 vO vE wx h h' (by omega) (by omega)
 rw [←hnd] at hah;have hbe:=fun x y wx h h'=>behind2_is (O.drop n) (E2.drop n) x y wx h h' (by rw [List.length_drop];omega) (by rw [List.length_drop];omega)
 rw [←hmd] at hbe;have hwr:=fun vP vM wx hP hM=>writec_is g1 sg g2 B2 n m ((E2.drop n).take (E2.length - m - n)) c2.alg vP vM wx (by omega) hs32 (by omega) (by omega) (by omega) hP ok2.good.1 hM (fun e he=>(ok2.ents e (List.mem_of_mem_drop (List.mem_of_mem_take he))).1) (by omega)
 unfold chgV at hwr;unfold imgV RSumF at hsum;rw [←hsd] at hsum;generalize patchB g1 sg g2 B2 n m ((E2.drop n).take (E2.length - m - n)) c2.alg=PB at *;generalize hMM:(E2.drop n).take (E2.length - m - n)=M at *;have hncf:=neq_cf c1 c2;have hcne:=cneB_iff c1 c2;have hcut:∀(w:World) (ao:Option Addr) (cap:Nat),EOff w (.slice ao E2.length cap) E2→E2.length≤cap→EOff w (.slice (cutA ao cap n) (E2.length - m - n) (cap - n)) M:=fun w ao cap h hc=>by rw [←hMM];exact h.cut (by omega) hc
 clear hi1 hi2 hsd hmd hnd hMM hOd;generalize cneB c1 c2=cn at *;go_enter Tryz.func158,Tryz.ntmps158;go_wp2_with fail;refine (hr1 _).mono ?_;rintro e w1 ⟨hb1,vP1,vE1,rfl,hoP1,hoE1⟩;obtain ⟨aP1,kP1,rfl⟩:=own_sliceW hoP1;obtain ⟨aE1,kE1,rfl⟩:=own_sliceW hoE1;have HB1:=Hid.mk hb1;have HPa:=Hid.mk (OwnB.pool hoP1);have HEa:=Hid.mk (OwnE.ents hoE1);clear hoP1 hoE1 hb1 hr1;go_wp2_with fail;refine (hr2 _).mono ?_;rintro e w2 ⟨hb2,vP2,vE2,rfl,hoP2,hoE2⟩;obtain ⟨aP2,kP2,rfl⟩:=own_sliceW hoP2;obtain ⟨aE2,kE2,rfl⟩:=own_sliceW hoE2
 have hcap2:E2.length≤kE2:=by
  rcases hoE2.2 with ⟨g1,g2⟩|⟨g,cap,cur,g1,_,_,g3,_⟩
  ·omega
  ·simp only [Value.slice.injEq] at g1;omega
 have HA2:=Hid.mk ((BoxC.new w1 173 #[.int .i64 (f1:Int),.int .i64 (g1:Int),.int .i64 c1.alg,.int .i64 c1.slots,.int .i64 c1.points,.int .i64 c1.probes,.string c1.key,.int .i64 c1.formats,.slice aP1 B1.length kP1,.slice aE1 E1.length kE1]).bel hb2);have HB2:=Hid.mk ((HB1.out.step_alloc _).trans hb2);replace HPa:=Hid.mk ((HPa.out.later ((Bel.refl w1).step_alloc _)).later hb2);replace HEa:=Hid.mk ((HEa.out.later ((Bel.refl w1).step_alloc _)).later hb2);have HPb:=Hid.mk (OwnB.pool hoP2);have HEb:=Hid.mk (OwnE.ents hoE2);have hlt12:w1.heap.size<w2.heap.size:=HA2.out.lt;clear hoP2 hoE2 hb2 hr2 HB1;have A2:=HA2.out;have p2:=A2.cell 2 rfl;have p3:=A2.cell 3 rfl;have p4:=A2.cell 4 rfl;have p5:=A2.cell 5 rfl;have p6:=A2.cell 6 rfl;have p7:=A2.cell 7 rfl;clear A2;cases cn
 rotate_left
 ·have hF:=HF2.out (hcne.1 (by simp));replace hF:=Hid.mk hF;clear hcne HF1 HF2;go_wp2;go_ret2;rw [hF.out];exact ⟨rfl,HB2.out.step_alloc _⟩
 have hF:=HF1.out (Classical.byContradiction fun h=>by have:=hcne.2 h;simp at this);replace hF:=Hid.mk hF;obtain ⟨W2,hW2⟩:∃W2,W2=w2.alloc (.cells #[.int .i64 (f2:Int),.int .i64 (g2:Int),.int .i64 c2.alg,.int .i64 c2.slots,.int .i64 c2.points,.int .i64 c2.probes,.string c2.key,.int .i64 c2.formats,.slice aP2 B2.length kP2,.slice aE2 E2.length kE2] 173):=⟨_,rfl⟩;have hbw:Bel w2 W2:=by rw [hW2];exact (Bel.refl w2).step_alloc _
 have HBB:Hid (BoxC w2.heap.size 173 #[.int .i64 (f2:Int),.int .i64 (g2:Int),.int .i64 c2.alg,.int .i64 c2.slots,.int .i64 c2.points,.int .i64 c2.probes,.string c2.key,.int .i64 c2.formats,.slice aP2 B2.length kP2,.slice aE2 E2.length kE2] W2):=by show BoxC _ _ _ W2;rw [hW2];exact BoxC.new _ _ _
 replace HA2:=Hid.mk (HA2.out.bel hbw);replace HB2:=Hid.mk (HB2.out.trans hbw);replace HPa:=Hid.mk (HPa.out.later hbw);replace HEa:=Hid.mk (HEa.out.later hbw);replace HPb:=Hid.mk (HPb.out.later hbw);replace HEb:=Hid.mk (HEb.out.later hbw);have H3:=Hid.mk (hent w1.heap.size _ _ _ W2 ⟨⟨HA2.out.cell 2 rfl,HA2.out.cell 3 rfl,HA2.out.cell 4 rfl,HA2.out.cell 5 rfl,HA2.out.cell 6 rfl,HA2.out.cell 7 rfl⟩,HA2.out.cell 8 rfl,HA2.out.cell 9 rfl⟩ HPa.out HEa.out HPb.out);clear hent hbw hcne HF1 HF2;go_wp2_with fail;rw [←hW2];clear hW2 p2 p3 p4 p5 p6 p7;refine H3.out.mono ?_;rintro e w3 ⟨vO,rfl,hb3,hoO⟩;obtain ⟨aO,kO,rfl⟩:=own_sliceW hoO
 have hcapO:O.length≤kO:=by
  rcases hoO.2 with ⟨g1,g2⟩|⟨g,cap,cur,g1,_,_,g3,_⟩
  ·omega
  ·simp only [Value.slice.injEq] at g1;omega
 have HA:=Hid.mk (HA2.out.bel hb3);have HBx:=Hid.mk (HBB.out.bel hb3);have HB3:=Hid.mk (HB2.out.trans hb3);replace HPa:=Hid.mk (HPa.out.later hb3);replace HEa:=Hid.mk (HEa.out.later hb3);replace HPb:=Hid.mk (HPb.out.later hb3);replace HEb:=Hid.mk (HEb.out.later hb3);have HO:=Hid.mk (OwnE.ents hoO);have hlt3:w2.heap.size<w3.heap.size:=HBx.out.lt;have hlt13:w1.heap.size<w3.heap.size:=HA.out.lt;clear hoO hb3 H3 HA2 HBB HB2;have A3:=HA.out;have p0:=A3.cell 0 rfl;have p1:=A3.cell 1 rfl;have p2:=A3.cell 2 rfl;have p3:=A3.cell 3 rfl;have p4:=A3.cell 4 rfl;have p5:=A3.cell 5 rfl;have p6:=A3.cell 6 rfl;have p7:=A3.cell 7 rfl;have p8:=A3.cell 8 rfl;have p9:=A3.cell 9 rfl;clear A3;go_wp2_with fail;refine Calls.mono (hsum _ _ _ ?h1 ?h2) ?_
 case h1=>exact HPa.out.later (by (repeat (first|exact Bel.refl _|assumption|refine Bel.step_alloc ?_ _|refine Bel.step_drew ?_|refine Bel.step_drewN ?_ _|refine Bel.step_set ?_ (by simp <;>omega) _|refine Bel.trans ?_ (by assumption))))
 case h2=>exact HEa.out.later (by (repeat (first|exact Bel.refl _|assumption|refine Bel.step_alloc ?_ _|refine Bel.step_drew ?_|refine Bel.step_drewN ?_ _|refine Bel.step_set ?_ (by simp <;>omega) _|refine Bel.trans ?_ (by assumption))))
 rintro e w4 ⟨rfl,hb4⟩;have C4:=(BoxC.new w3 224 #[.int .i64 (g1:Int),.int .u32 0,.int .i64 0,.slice none 0 0,.int .i64 0,.int .i64 0,.slice none 0 0]).bel hb4;have HB4:=Hid.mk (((Bel.refl w3).step_alloc _).trans hb4);have B4:=HBx.out.bel HB4.out;have b1:=B4.cell 1 rfl;have b8:=B4.cell 8 rfl;have b9:=B4.cell 9 rfl;have k1:=C4.cell 1 rfl;have k2:=C4.cell 2 rfl;have k3:=C4.cell 3 rfl;have l1:=C4.free 1;have l2:=C4.free 2;have l3:=C4.free 3;have HC4:=Hid.mk (((C4.set 1 (.int .u32 (sg:Int)) (cs':=#[.int .i64 (g1:Int),.int .u32 (sg:Int),.int .i64 0,.slice none 0 0,.int .i64 0,.int .i64 0,.slice none 0 0]) rfl).set 2 (.int .i64 (g2:Int)) (cs':=#[.int .i64 (g1:Int),.int .u32 (sg:Int),.int .i64 (g2:Int),.slice none 0 0,.int .i64 0,.int .i64 0,.slice none 0 0]) rfl).set 3 (.slice aP2 B2.length kP2) (cs':=#[.int .i64 (g1:Int),.int .u32 (sg:Int),.int .i64 (g2:Int),.slice aP2 B2.length kP2,.int .i64 0,.int .i64 0,.slice none 0 0]) rfl);have HV4:Hid (Bel w3 (((w4.setCell ⟨w3.heap.size,1,none⟩ (.int .u32 (sg:Int))).setCell ⟨w3.heap.size,2,none⟩ (.int .i64 (g2:Int))).setCell ⟨w3.heap.size,3,none⟩ (.slice aP2 B2.length kP2))):=((HB4.out.step_set (p:=⟨w3.heap.size,1,none⟩) (Nat.le_refl _) _).step_set (p:=⟨w3.heap.size,2,none⟩) (Nat.le_refl _) _).step_set (p:=⟨w3.heap.size,3,none⟩) (Nat.le_refl _) _;have hne23:w2.heap.size≠w3.heap.size:=by omega
 have hlt4:w3.heap.size<w4.heap.size:=C4.lt;clear C4 B4 hb4 hsum p0 p1 p2 p3 p4 p5 p6 p7 p8 p9 HB4;go_wp2_with fail;refine Calls.mono (hah _ _ _ ?h1 ?h2) ?_
 case h1=>exact EOff.of (HO.out.later HV4.out)
 case h2=>exact EOff.of (HEb.out.later HV4.out)
 rintro e w5 ⟨rfl,hb5⟩;have C5:=HC4.out.bel hb5;have HB5:=Hid.mk (HV4.out.trans hb5);have m4:=C5.cell 4 rfl;have n4:=C5.free 4;obtain ⟨V5,hV5⟩:∃V5,V5=w5.setCell ⟨w3.heap.size,4,none⟩ (.int .i64 (n:Int)):=⟨_,rfl⟩;have HC5:Hid (BoxC w3.heap.size 224 #[.int .i64 (g1:Int),.int .u32 (sg:Int),.int .i64 (g2:Int),.slice aP2 B2.length kP2,.int .i64 (n:Int),.int .i64 0,.slice none 0 0] V5):=by show BoxC _ _ _ V5;rw [hV5];exact C5.set 4 _ rfl
 have HV5:Hid (Bel w3 V5):=by show Bel w3 V5;rw [hV5];exact HB5.out.step_set (p:=⟨w3.heap.size,4,none⟩) (Nat.le_refl _) _
 clear C5 hb5 hah k1 k2 k3 l1 l2 l3 b1 b8 b9 HC4 HV4 HB5;go_wp2_with fail;rw [←hV5];clear hV5 m4 n4;have hsl1:=fun wx=>slice_teF wx aO O.length kO n hn1
 have hsl2:=fun wx=>slice_teF wx aE2 E2.length kE2 n hn2
 have hsl3:=fun wx=>slice_teL wx aE2 E2.length kE2 n m (by omega) hcap2
 have HO2:=Hid.mk (EOff.from (EOff.of (HO.out.later HV5.out)) hn1 hcapO);have HE2:=Hid.mk (EOff.from (EOff.of (HEb.out.later HV5.out)) hn2 hcap2);have HM2:=Hid.mk (hcut w3 aE2 kE2 (EOff.of HEb.out) hcap2);have B5:=HBx.out.bel HV5.out;have b9:=B5.cell 9 rfl;have m4:=HC5.out.cell 4 rfl;have m5:=HC5.out.cell 5 rfl;have n5:=HC5.out.free 5;generalize cutA aO kO n=aO' at *;generalize cutA aE2 kE2 n=aE' at *;clear B5 hcut;go_region_with (go_at_call 199;refine Calls.mono (hbe _ _ _ (by first|exact HO2.out|exact HO2.out.later (Bel.step_drew (Bel.refl _))) (by first|exact HE2.out|exact HE2.out.later (Bel.step_drew (Bel.refl _)))) ?_;rintro e w6 ⟨rfl,hb6x⟩;have hb6:Bel V5 w6:=(by first|exact hb6x|exact (Bel.step_drew (Bel.refl V5)).trans hb6x);have o5:=hb6.cell m5;have q5:=hb6.frozen m5 n5;have HC6:=Hid.mk (HC5.out.bel hb6);have HB6:=Hid.mk (HV5.out.trans hb6);clear hb6x hb6)
 all_goals
  clear m4 m5 n5 b9 hbe HO2 HE2 hsl1 hsl2 o5 q5;have C6:=HC6.out;have B6:=HBx.out.bel HB6.out;have b2:=B6.cell 2 rfl;have b9:=B6.cell 9 rfl;have k0:=C6.cell 0 rfl;have k1:=C6.cell 1 rfl;have k2:=C6.cell 2 rfl;have k3:=C6.cell 3 rfl;have k4:=C6.cell 4 rfl;have k5:=C6.cell 5 rfl;have k6:=C6.cell 6 rfl;have l6:=C6.free 6;have HV7:=Hid.mk ((HB6.out.step_set (p:=⟨w3.heap.size,5,none⟩) (Nat.le_refl _) (.int .i64 (m:Int))).step_set (p:=⟨w3.heap.size,6,none⟩) (Nat.le_refl _) (.slice aE' (E2.length - m - n) (kE2 - n)));have hmE:m≤E2.length:=by omega
  clear C6 B6 HC6 HB6 HC5 HV5;go_wp2_with fail;refine Calls.mono (hwr _ _ _ ?h1 ?h2) ?_
  case h1=>exact HPb.out.later HV7.out
  case h2=>exact HM2.out.later HV7.out
  rintro e w7 ⟨rfl,hb7⟩;have HB7:=Hid.mk (HB3.out.trans (HV7.out.trans hb7));clear hb7 HV7;go_wp2;go_ret2;rw [hF.out];exact ⟨rfl,HB7.out⟩
end Go.Proofs.YtpapdkhjdelfcabGreat
