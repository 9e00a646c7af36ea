import Derived.Test.YtpapdkhjdelfcabGreatHBZ
import Derived.Test.YtpapdkhjdelfcabGreatHCA
import Derived.Test.YtpapdkhjdelfcabGreatHBQ
import Derived.Test.YtpapdkhjdelfcabGreatHBU
import Derived.Test.YtpapdkhjdelfcabGreatHBR
set_option maxRecDepth 100000
set_option maxHeartbeats 4000000
namespace Go.Proofs.YtpapdkhjdelfcabGreat
open Go.RowKit
theorem and_held {held part:Int} (hp:FSt part):bits BinOp.and IntKind.i64 held part=0:=by
 rcases hp with ⟨_,h⟩|⟨_,h⟩
 ·exact absurd shAll h
 ·exact absurd mvAll h
theorem cfgZ_ok (x:ByteArray) (hx:x.size=16):Cfg.OK ⟨1,13,2,3,x,3⟩:=by
 refine ⟨by simp,by simp,by simp,by simp,?_,by simp,by simp,by simp,by simp,hx,by simp,by simp⟩;intro d h1 h2;have hd:d<13:=by simp only at h2;omega
 rcases (show d=2∨d=3∨d=4∨d=5∨d=6∨d=7∨d=8∨d=9∨d=10∨d=11∨d=12 by omega) with rfl|rfl|rfl|rfl|rfl|rfl|rfl|rfl|rfl|rfl|rfl <;>simp
theorem WAt.new (w:World) (cs:Array Value) (t:TypeId) (hc:cs.size≤100):WAt w.heap.size cs.toList (w.alloc (.cells cs t)):=by
 have h:=World.ownsRow_lit (base:=w.heap.size) (e:=t) w cs cs.size (Nat.le_refl _) (by unfold maxLen;omega) (Nat.mul_one _).symm;refine ⟨fun o u hu=>?_,fun o ho=>World.ownsRow.frozenAt h o⟩;have hl:=(List.getElem?_eq_some_iff.1 hu).1;exact (World.ownsRow.cellAt h o (by simpa using hl)).trans hu
theorem box_is (w:World) (x:ByteArray) (t:TypeId):WAt w.heap.size (wl0 0 ⟨1,13,2,3,x,3⟩ [.pointer none,.int .i64 0,.int .i64 0,.int .i64 0,.int .i64 0,.string ⟨#[]⟩,.int .i64 0,.slice none 0 0,.slice none 0 0,.slice none 0 0,.slice none 0 0,.slice none 0 0,.string ⟨#[]⟩])
  (w.alloc (.cells #[.int .i64 0,.int .i64 1,.int .i64 13,.int .i64 2,.int .i64 3,.string x,.int .i64 3,.pointer none,.int .i64 0,.int .i64 0,.int .i64 0,.int .i64 0,.string ⟨#[]⟩,.int .i64 0,.slice none 0 0,.slice none 0 0,.slice none 0 0,.slice none 0 0,.slice none 0 0,.string ⟨#[]⟩] t)):=
 WAt.new w #[.int .i64 0,.int .i64 1,.int .i64 13,.int .i64 2,.int .i64 3,.string x,.int .i64 3,.pointer none,.int .i64 0,.int .i64 0,.int .i64 0,.int .i64 0,.string ⟨#[]⟩,.int .i64 0,.slice none 0 0,.slice none 0 0,.slice none 0 0,.slice none 0 0,.slice none 0 0,.string ⟨#[]⟩] t (by simp)
def RUpTo (w:World) (e:Ending) (w':World):Prop:=e= .returned (.int .i64 (-1))∧Bel w w'
theorem upto_is (a:Option Addr) (len cap:Nat) (held:Int) (w:World) (h:IsOps w a len) (hl:len≤65536):
  Calls Tryz.prog 22 #[.slice a len cap,.int .i64 held] w (RUpTo w):=by
 have hfi:=fun wx=>fill_is ByteArray.empty 16 wx (by omega) (by omega)
 have HI:=Hid.mk h;have HA:Hid (∀part,FSt part→bits BinOp.and IntKind.i64 held part=0):=fun part hp=>and_held hp
 clear h;go_enter Tryz.func22,Tryz.ntmps22;go_wp2_with fail;refine (hfi _).mono ?_;rintro e w1 ⟨x,rfl,hb1,hx⟩;clear hfi;go_wp2_with fail;refine (kbegin_is w w1.heap.size 0 0 ⟨1,13,2,3,x,3⟩ _ _ _ _ _ _ _ _ _ _ _ _ _ _ (box_is w1 x _) (cfgZ_ok x hx) (hb1.step_alloc _) hb1.size).mono ?_;rintro e w2 ⟨rfl,k0,hk0,hR0⟩;generalize w1.heap.size=p at hk0;have HK0:=Hid.mk hk0;clear hk0 hx hb1;go_wp2;go_loopg [7,8] len (fun r nok ni wr=>∃j:Nat,nok= .bool true∧ni= .int .i64 (j:Int)∧j≤len∧r=len - j∧∃k,KInv w p j k wr∧k.Rdy j)
 case atStart=>exact ⟨0,rfl,rfl,by omega,by omega,k0,HK0.out,hR0⟩
 case round=>
  obtain ⟨j,rfl,rfl,hj,rfl,k,hk,hR⟩:=hrel;by_cases hjl:j<len
  ·obtain ⟨kd,xa,xb,xc,S,⟨ab,ao,rfl,q0,q1,q2,q3,q4⟩, -,ia,ib,ic,hS⟩:=HI.out.2 j hjl;have hbel:Bel w wr:=hk.bel;have r0:=hbel.cell q0;have r1:=hbel.cell q1;have r2:=hbel.cell q2;have r3:=hbel.cell q3;have r4:=hbel.cell q4;have hst:=step_all w p j k kd xa xb xc S wr hk hR (by omega) ia ib ic (Nat.le_trans hS (by decide));have hj1:decide ((j:Int)<(len:Int))=true:=decide_eq_true (by omega);clear hk q0 q1 q2 q3 q4 hS ia ib ic hR;unfold opV at hst;go_wp2_with fail;refine hst.mono ?_;intro e w3 hr;clear hst;rcases hr with ⟨rfl,k2,hk2,hR2⟩|⟨rfl,hb3,part,hF,hcell⟩
   ·have HK2:=Hid.mk hk2;clear hk2;go_wp2;go_roundg (len - (j+1))
    case measure=>omega
    case rel=>exact ⟨j+1,rfl,by go_num,by omega,rfl,k2,HK2.out,hR2⟩
   ·have hand:=HA.out part hF;clear hF;go_wp2;go_ret;exact ⟨rfl,hb3⟩
  ·have hj1:decide ((j:Int)<(len:Int))=false:=decide_eq_false (by omega);have HB:Hid (Bel w wr):=hk.bel;clear hk;go_wp2;go_ret;exact ⟨rfl,HB.out⟩
end Go.Proofs.YtpapdkhjdelfcabGreat
namespace Go.Proofs.YtpapdkhjdelfcabGreat
open Go.RowKit
def cfgA:Cfg:=⟨1,7,1,1,⟨#[48,49,50,51,52,53,54,55,56,57,97,98,99,100,101,102]⟩,3⟩
def nA:ByteArray:=⟨#[97]⟩
def nB:ByteArray:=⟨#[98]⟩
theorem cfgA_ok:cfgA.OK:=by
 refine ⟨by decide,by decide,by decide,by decide,?_,by decide,by decide,by decide,by decide,by decide,by decide,by decide⟩;intro d h1 h2;have hd:d<7:=by simp only [cfgA] at h2;omega
 rcases (show d=2∨d=3∨d=4∨d=5∨d=6 by omega) with rfl|rfl|rfl|rfl|rfl <;>decide
theorem alive_mag:maglevF cfgA [(nA,1),(nB,1)]=[0,1,0,0,0,1,1]:=by decide+kernel
theorem alive_mk:mkF cfgA [(nA,1),(nB,1)]=[(0,0),(0,1),(0,0),(0,0),(0,0),(0,1),(0,1)]:=by
 rw [mkF,if_neg (by decide),if_pos (show cfgA.alg=1 from rfl),alive_mag];rfl
theorem alive_names:namesF [(nA,1),(nB,1)] (mkF cfgA [(nA,1),(nB,1)])=[nA,nB,nA,nA,nA,nB,nB]:=by rw [alive_mk];rfl
theorem alive_add1:addE [] nB 1=0∧addB [] nB 1=[(nB,1)]:=⟨by decide+kernel,rfl⟩
theorem alive_add2:addE [(nB,1)] nA 1=0∧addB [(nB,1)] nA 1=[(nA,1),(nB,1)]:=by
 have he:addE [(nB,1)] nA 1=0:=by decide+kernel
 refine ⟨he,?_⟩;unfold addB;rw [if_pos he];have hl:less nA nB=true:=by decide+kernel
 simp [ins,hl]
theorem alive_is (w:World):Calls Tryz.prog 20 #[] w (RBool w fun x=>x=true):=by
 have hnw:=fun wx=>new_is cfgA wx cfgA_ok
 rw [show cfgA.cells=#[.int .i64 1,.int .i64 7,.int .i64 1,.int .i64 1,.string ⟨#[48,49,50,51,52,53,54,55,56,57,97,98,99,100,101,102]⟩,.int .i64 3] from rfl] at hnw;go_enter Tryz.func20,Tryz.ntmps20;go_wp2_with fail;refine (hnw _).mono ?_;rintro e w1 ⟨q,rfl,hb1,hq1,hq2,hS1⟩;have hS1:=hS1 [q] (by simp);have hb01:Bel w w1:=(Bel.step_alloc (Bel.refl w) _).trans hb1;have hqw:w.heap.size≤q:=by simp at hq1;omega
 have ha1:=add_is [q] q cfgA [] 0 nB 1 w1 hS1 (by simpa using hq2) cfgA_ok Good.nil (by omega) (by omega);rw [alive_add1.1,alive_add1.2] at ha1;simp only [if_true,nB] at ha1;clear hnw;go_wp2_with fail;refine ha1.mono ?_;rintro e w2 ⟨rfl,hbt2,hS2⟩;have hG1:Good [(nB,(1:Int))]:=by have:=Good.nil.add nB 1;rwa [alive_add1.2] at this
 have ha2:=add_is [q] q cfgA [(nB,1)] (0+1) nA 1 w2 hS2 (by simpa using hS2.lt) cfgA_ok hG1 (by omega) (by omega);rw [alive_add2.1,alive_add2.2] at ha2;simp only [if_true] at ha2;rw [show nA=⟨#[97]⟩ from rfl] at ha2;clear ha1;go_wp2_with fail;refine ha2.mono ?_;rintro e w3 ⟨rfl,hbt3,hS3⟩;have hG2:Good [(nA,(1:Int)),(nB,1)]:=by have:=hG1.add nA 1;rwa [alive_add2.2] at this
 have hsl:=slots_is [q] q cfgA [(nA,1),(nB,1)] (0+1+1) w3 hS3 (mkF_len cfgA _ cfgA_ok hG2.1);rw [alive_names] at hsl;have hb03:Bel w w3:=But.belTo (But.belTo hb01 hbt2 (by simpa using hqw)) hbt3 (by simpa using hqw);clear ha2 hS1 hS2 hS3 hG1 hG2 hbt2 hbt3;go_wp2_with fail;refine hsl.mono ?_;rintro e w4 ⟨vL,rfl,hb4,hO, -⟩;obtain ⟨g,cap,hv,hg1,hg2⟩:=World.ownsRow.form hO (by simp);subst hv;have hcl:=fun j u (hj:([nA,nB,nA,nA,nA,nB,nB].map Value.string)[j]?=some u)=>World.ownsRow.cells hO (g:=g) rfl j u hj
 have hadd:∀j,(⟨g,0,none⟩:Addr).add j=⟨g,j,none⟩:=fun j=>by unfold Addr.add;split <;>simp_all
 have y0:=hcl 0 _ rfl;have y1:=hcl 1 _ rfl;have y2:=hcl 2 _ rfl;have y3:=hcl 3 _ rfl;have y4:=hcl 4 _ rfl;have y5:=hcl 5 _ rfl;have y6:=hcl 6 _ rfl;rw [hadd] at y0 y1 y2 y3 y4 y5 y6;simp only [nA,nB] at y0 y1 y2 y3 y4 y5 y6;clear hcl hadd hsl hO;go_wp2;refine wp_loop_rounds 8 ?_;rw [rounds_succ];go_wp2;rw [rounds_succ];go_wp2;rw [rounds_succ];go_wp2;rw [rounds_succ];go_wp2;rw [rounds_succ];go_wp2;rw [rounds_succ];go_wp2;rw [rounds_succ];go_wp2;rw [rounds_succ];go_wp2;go_ret;exact ⟨_,rfl,hb03.trans hb4,by decide+kernel⟩
end Go.Proofs.YtpapdkhjdelfcabGreat
namespace Go.Proofs.YtpapdkhjdelfcabGreat
open Go.RowKit
theorem and_14 {held:Int} (hh:held=1∨held=16∨held=32∨held=64∨held=128):bits BinOp.and IntKind.i64 held 14=0:=by
 rcases hh with rfl|rfl|rfl|rfl|rfl <;>decide
theorem plays_is (a:Option Addr) (len cap:Nat) (held:Int) (w:World) (h:IsOps w a len) (hh:held=1∨held=16∨held=32∨held=64∨held=128):
  Calls Tryz.prog 15 #[.slice a len cap,.int .i64 held] w (RBool w fun x=>x=true):=by
 have hsm:=small_is a len cap w h
 have hup := fun wx (b : Bel w wx) (hl : len ≤ 65536) => upto_is a len cap held wx ⟨h.1, fun i hi => by
   obtain ⟨kd, x, y, z, S, ⟨bb, o, e, q0, q1, q2, q3, q4⟩, r⟩ := h.2 i hi
   exact ⟨kd, x, y, z, S, ⟨bb, o, e, b.cell q0, b.cell q1, b.cell q2, b.cell q3, b.cell q4⟩, r⟩⟩ hl
 have h14:=and_14 hh;clear h hh;go_enter Tryz.func15,Tryz.ntmps15;go_wp2_with fail;refine hsm.mono ?_;rintro e w1 ⟨x,rfl,rfl,hx⟩;clear hsm;cases x
 ·clear hup;go_wp2;go_ret;exact ⟨_,rfl,Bel.refl _,rfl⟩
 ·have hl:=hx rfl;clear hx;go_wp2_with fail;refine (alive_is _).mono ?_;rintro e w2 ⟨y,rfl,hb2,rfl⟩;have hup2:=hup w2 hb2 hl;clear hup;go_wp2_with fail;refine hup2.mono ?_;rintro e w3 ⟨rfl,hb3⟩;have hb:=hb2.trans hb3;clear hup2;go_wp2;go_ret;exact ⟨_,rfl,hb,rfl⟩
theorem lawSame_is (a:Option Addr) (len cap:Nat) (w:World) (h:IsOps w a len):
  Calls Tryz.prog 8 #[.slice a len cap] w (RBool w fun x=>x=true):=by
 have hpl:=plays_is a len cap 64 w h (by omega);clear h;go_enter Tryz.func8,Tryz.ntmps8;go_wp2_with fail;refine hpl.mono ?_;rintro e w1 ⟨x,rfl,hb,rfl⟩;go_wp2;go_ret;exact ⟨_,rfl,hb,rfl⟩
theorem lawShares_is (a:Option Addr) (len cap:Nat) (w:World) (h:IsOps w a len):
  Calls Tryz.prog 6 #[.slice a len cap] w (RBool w fun x=>x=true):=by
 have hpl:=plays_is a len cap 32 w h (by omega);clear h;go_enter Tryz.func6,Tryz.ntmps6;go_wp2_with fail;refine hpl.mono ?_;rintro e w1 ⟨x,rfl,hb,rfl⟩;go_wp2;go_ret;exact ⟨_,rfl,hb,rfl⟩
theorem lawMoved_is (a:Option Addr) (len cap:Nat) (w:World) (h:IsOps w a len):
  Calls Tryz.prog 7 #[.slice a len cap] w (RBool w fun x=>x=true):=by
 have hpl:=plays_is a len cap 16 w h (by omega);clear h;go_enter Tryz.func7,Tryz.ntmps7;go_wp2_with fail;refine hpl.mono ?_;rintro e w1 ⟨x,rfl,hb,rfl⟩;go_wp2;go_ret;exact ⟨_,rfl,hb,rfl⟩
theorem lawRefused_is (a:Option Addr) (len cap:Nat) (w:World) (h:IsOps w a len):
  Calls Tryz.prog 5 #[.slice a len cap] w (RBool w fun x=>x=true):=by
 have hpl:=plays_is a len cap 1 w h (by omega);clear h;go_enter Tryz.func5,Tryz.ntmps5;go_wp2_with fail;refine hpl.mono ?_;rintro e w1 ⟨x,rfl,hb,rfl⟩;go_wp2;go_ret;exact ⟨_,rfl,hb,rfl⟩
theorem lawBytes_is (a:Option Addr) (len cap:Nat) (w:World) (h:IsOps w a len):
  Calls Tryz.prog 9 #[.slice a len cap] w (RBool w fun x=>x=true):=by
 have hpl:=plays_is a len cap 128 w h (by omega);clear h;go_enter Tryz.func9,Tryz.ntmps9;go_wp2_with fail;refine hpl.mono ?_;rintro e w1 ⟨x,rfl,hb,rfl⟩;go_wp2;go_ret;exact ⟨_,rfl,hb,rfl⟩
end Go.Proofs.YtpapdkhjdelfcabGreat
namespace Go.Proofs.YtpapdkhjdelfcabGreat
open Go.RowKit
def fB:List BK:=[(nB,1)]
def fE:List EI:=[(0,0),(0,0),(0,0),(0,0),(0,0),(0,0),(0,0)]
def cfgF:Cfg:={cfgA with formats:=0}
theorem fetch_mag:maglevF cfgA fB=[0,0,0,0,0,0,0]:=by decide+kernel
theorem fetch_mk:mkF cfgA fB=fE:=by
 rw [mkF,if_neg (by decide),if_pos (show cfgA.alg=1 from rfl),fetch_mag];rfl
theorem fB_good:Good fB:=by have:=Good.nil.add nB 1;rwa [alive_add1.2] at this
def fI:List UInt8:=imageB 2 1 cfgA fB fE
def fA:Ans:=(1,1,2,1,0,fI)
theorem fetch_1:answP (serveB 3 1 cfgA fB fE (tickB 0 3 0 0 []))=some fA:=by kernel_rfl
theorem fetch_2:answP (serveB 3 1 cfgA fB fE (tickB 1 3 0 0 []))=some (0,0,0,0,0,[]):=by kernel_rfl
def fBits:List Bool:=bytesBits (packB (bodyB 2 1 cfgA fB fE))
theorem fetch_open:openB fI=some (packB (bodyB 2 1 cfgA fB fE)):=open_seal (packB_pos (by decide+kernel))
def rest1:List Bool:=fBits.drop 16
def rest2:List Bool:=fBits.drop (16+208)
def rest3:List Bool:=((bksX rest2).map Prod.snd).getD []
def rest4:List Bool:=rest3.drop 16
def rest5:List Bool:=((manyP (oneEn (wpF 1) (woF 2 1 1)) 7 rest4).map Prod.snd).getD []
theorem st1:(some fBits).bind (textP 2)=(some rest1).map (Prod.mk [67,72]):=by kernel_rfl
theorem st2:(some rest1).bind headX=(some rest2).map (Prod.mk (2,1,cfgF)):=by kernel_rfl
theorem st3:(some rest2).bind bksX=(some rest3).map (Prod.mk fB):=by kernel_rfl
theorem st4:(some rest3).bind (numP 16)=(some rest4).map (Prod.mk 7):=by kernel_rfl
theorem st5:(some rest4).bind (manyP (oneEn (wpF cfgF.alg) (woF 2 cfgF.alg fB.length)) 7)=(some rest5).map (Prod.mk fE):=by kernel_rfl
theorem cfgF_tok:cfgF.TOK:=((Cfg.ok_iff cfgA).1 cfgA_ok).1
theorem fetch_right:RightG 1 cfgF fB fE:=by
 refine ⟨⟨by decide,by decide⟩,by decide+kernel,fun e he=>⟨0,by decide,?_,by decide⟩,fun h=>absurd h (by decide)⟩;simp [fE] at he;rw [he];rfl
theorem fetch_img:imageP fI=some (2,1,cfgF,fB,fE):=by
 unfold imageP;rw [fetch_open,Option.bind_some,show bytesBits (packB (bodyB 2 1 cfgA fB fE))=fBits from rfl,imgT_step st1,if_pos rfl,imgH_step st2,if_pos ⟨⟨by decide,by decide⟩,cfgF_tok⟩,imgB_step st3,if_pos fB_good,imgN_step st4,imgE_step st5];unfold imgEnd;rw [if_pos ⟨by kernel_rfl,fetch_right⟩]
def fP:Pln:=⟨3,1,cfgF,fB,fE,0,0,0,[],false⟩
theorem fetch_take:takeG (plnNew 3) fA=fP:=by
 unfold takeG;have h1:newT (plnNew 3).cg (plnNew 3).cf (plnNew 3).cp (plnNew 3).T fA=[(0,fI)]:=by kernel_rfl
 have h2:com1 (plnNew 3).cg (plnNew 3).cf (plnNew 3).cp (plnNew 3).T fA=(1,2,1,[]):=by kernel_rfl
 have h3:thB [(0,fI)]=fI:=by simp [thB]
 have h4:useP (plnNew 3).fm (plnNew 3).g (plnNew 3).cg (plnNew 3).cf (plnNew 3).cp (plnNew 3).T fA:=⟨by kernel_rfl,by rw [h2];rfl,by rw [h2];rfl⟩;rw [if_neg (by decide),if_pos h4,h1,h2,if_pos (show [((0:Nat),fI)].length=(1,2,1,([]:List TP)).2.2.1 from rfl),h3,fetch_img];exact if_pos ⟨rfl,rfl⟩
theorem fetch_r1:recvG (plnNew 3) (serveB 3 1 cfgA fB fE (tickB 0 3 0 0 []))=fP:=by
 unfold recvG;rw [fetch_1];exact fetch_take
theorem fetch_r2:recvG fP (serveB 3 1 cfgA fB fE (tickB 1 3 0 0 []))=fP:=by
 unfold recvG;rw [fetch_2];show takeG fP _=_;unfold takeG;rw [if_pos (by decide)];rfl
theorem fetch_own:plOwnF 1 cfgF fB fE ⟨#[107]⟩=(nB,0):=by decide+kernel
end Go.Proofs.YtpapdkhjdelfcabGreat
namespace Go.Proofs.YtpapdkhjdelfcabGreat
open Go.RowKit
def fPl (j:Nat):Pln:=if j=0 then plnNew 3 else fP
def FeI (w:World) (q j:Nat) (wr:World):Prop:=∃M L pb R,SvpAt M q ⟨cfgA,fB,((1:Nat):Int),L,[(pb,fPl j,R)]⟩ wr∧(∀k∈M,w.heap.size≤k∧k<wr.heap.size)∧Bel w wr
theorem FeI.later {w:World} {q j:Nat} {wr w':World} (h:FeI w q j wr) (b:Bel wr w'):FeI w q j w':=by
 obtain ⟨M,L,pb,R,h1,h2,h3⟩:=h;exact ⟨M,L,pb,R,h1.later b,fun k hk=>⟨(h2 k hk).1,Nat.lt_of_lt_of_le (h2 k hk).2 b.size⟩,h3.trans b⟩
def fTq (j:Nat):List UInt8:=tickB (fPl j).g (fPl j).fm (fPl j).cg (fPl j).cf (fPl j).T
def fTa (j:Nat):List UInt8:=serveB 3 1 cfgA fB fE (fTq j)
theorem fetch_rj (j:Nat):recvG (fPl j) (fTa j)=fP:=by
 by_cases h:j=0
 ·subst h;exact fetch_r1
 ·have e:fPl j=fP:=if_neg h;unfold fTa fTq;rw [e];exact fetch_r2
theorem txt_data (l:List UInt8):(txt l).data.toList=l:=rfl
theorem fTa_len (j:Nat):(fTa j).length≤16777216:=by unfold fTa;exact serveB_len _ _ _ _ _ _
theorem fe_tick {w:World} {q j:Nat} {wr:World} (h:FeI w q j wr):Calls Tryz.prog 29 #[.pointer (some ⟨q,0,none⟩),.int .i64 0] wr fun e w'=>e= .returned (.tuple #[.string (txt (fTq j)),.int .i64 0])∧Bel wr w':=by
 obtain ⟨M,L,pb,R,h1,h2,h3⟩:=h;exact tick_v (n:=0) h1 (Nat.succ_pos _)
theorem fe_serve {w:World} {q j:Nat} {wr:World} (h:FeI w q j wr):Calls Tryz.prog 30 #[.pointer (some ⟨q,0,none⟩),.string (txt (fTq j))] wr fun e w'=>e= .returned (.string (txt (fTa j)))∧Bel wr w':=by
 obtain ⟨M,L,pb,R,h1,h2,h3⟩:=h;have hs:=serve_v M q cfgA fB 1 (txt (fTq j)) wr h1 (mkF_len _ _ cfgA_ok fB_good.1) cfgA_ok fB_good.1 (by decide) (by rw [txt_size];exact Nat.le_trans (tickB_len _ _ _ _ _) (by decide));rw [fetch_mk] at hs;exact hs
theorem fe_plane {M:List Nat} {q pb:Nat} {L R':List Nat} {P:Pln} {R:List Nat} {w':World} (p':Pln) (hS:SvpAt (R'++M) q (Svp.setP ⟨cfgA,fB,((1:Nat):Int),L,[(pb,P,R)]⟩ 0 pb p' R') w'):SvpAt (R'++M) q ⟨cfgA,fB,((1:Nat):Int),L,[(pb,p',R')]⟩ w':=hS
theorem fe_recv {w:World} {q j:Nat} {wr:World} (h:FeI w q j wr):Calls Tryz.prog 31 #[.pointer (some ⟨q,0,none⟩),.int .i64 0,.string (txt (fTa j))] wr fun e w'=>e= .returned (.int .i64 0)∧FeI w q (j+1) w':=by
 obtain ⟨M,L,pb,R,h1,h2,h3⟩:=h;refine (receive_v (n:=0) h1 (fun k hk=>(h2 k hk).2) (Nat.succ_pos _) (txt (fTa j)) (by rw [txt_size];exact Nat.le_trans (fTa_len j) (by decide))).mono ?_;rintro e w' ⟨rfl,R',hR,hb,hS⟩;have hpl:=(h1.pl (n:=0) (Nat.succ_pos _)).1;obtain ⟨p1,p2, -⟩:=hpl;have e2:fPl (j+1)=fP:=if_neg (Nat.succ_ne_zero j);have e1:recvG (fPl j) (txt (fTa j)).data.toList=fPl (j+1):=by rw [txt_data,fetch_rj,e2]
 refine ⟨rfl,R'++M,L,pb,R',?_,fun k hk=>?_,But.belTo h3 hb (fun k hk=>?_)⟩
 ·have hS':=fe_plane _ hS;rw [←e1];exact hS'
 ·rcases List.mem_append.1 hk with hk|hk
  ·refine ⟨?_,(hR k hk).2⟩;rcases (hR k hk).1 with h5|h5
   ·exact (h2 k (p2 k h5)).1
   ·exact Nat.le_trans h3.size h5
  ·exact ⟨(h2 k hk).1,Nat.lt_of_lt_of_le (h2 k hk).2 hb.size⟩
 ·rcases List.mem_cons.1 hk with hk|hk
  ·rw [hk];exact (h2 _ p1).1
  ·exact (h2 k (p2 k hk)).1
theorem fe_held {w:World} {q j:Nat} {wr:World} (h:FeI w q (j+1) wr):Calls Tryz.prog 32 #[.pointer (some ⟨q,0,none⟩),.int .i64 0] wr fun e w'=>e= .returned (.tuple #[.int .i64 1,.int .i64 0])∧Bel wr w':=by
 obtain ⟨M,L,pb,R,h1,h2,h3⟩:=h;have e2:fPl (j+1)=fP:=if_neg (Nat.succ_ne_zero j);rw [e2] at h1;exact held_v (n:=0) h1 (Nat.succ_pos _)
theorem fe_look {w:World} {q j:Nat} {wr:World} (h:FeI w q (j+1) wr):Calls Tryz.prog 33 #[.pointer (some ⟨q,0,none⟩),.int .i64 0,.string ⟨#[107]⟩] wr fun e w'=>e= .returned (.tuple #[.string nB,.int .i64 0])∧Bel wr w':=by
 obtain ⟨M,L,pb,R,h1,h2,h3⟩:=h;have e2:fPl (j+1)=fP:=if_neg (Nat.succ_ne_zero j);rw [e2] at h1;have hl:=lookup_v (n:=0) h1 (Nat.succ_pos _) ⟨#[107]⟩ (by decide);have e:plOwnF 1 cfgF fB fE ⟨#[107]⟩=(nB,0):=fetch_own;refine hl.mono ?_;rintro e' w' ⟨rfl,hb⟩;refine ⟨?_,hb⟩;show Ending.returned (.tuple #[.string (plOwnF 1 cfgF fB fE ⟨#[107]⟩).1,.int .i64 (plOwnF 1 cfgF fB fE ⟨#[107]⟩).2])=_;rw [e]
theorem fetches_is (w:World):Calls Tryz.prog 21 #[] w (RBool w fun x=>x=true):=by
 have hnw:=fun wx=>new_is cfgA wx cfgA_ok
 rw [show cfgA.cells=#[.int .i64 1,.int .i64 7,.int .i64 1,.int .i64 1,.string ⟨#[48,49,50,51,52,53,54,55,56,57,97,98,99,100,101,102]⟩,.int .i64 3] from rfl] at hnw;go_enter Tryz.func21,Tryz.ntmps21;go_wp2_with fail;refine (hnw _).mono ?_;rintro e w1 ⟨q,rfl,hb1,hq1,hq2,hS1⟩;have hS1:=(hS1 [q] (by simp)).svp;have hb01:Bel w w1:=(Bel.step_alloc (Bel.refl w) _).trans hb1;have hqw:w.heap.size≤q:=by simp at hq1;omega
 have ha1:=add_v [q] q cfgA [] 0 nB 1 w1 hS1 (by simpa using hq2) cfgA_ok Good.nil (by omega) (by omega);rw [alive_add1.1,alive_add1.2] at ha1;simp only [if_true,nB] at ha1;clear hnw;go_wp2_with fail;refine ha1.mono ?_;rintro e w2 ⟨rfl,hbt2,hS2⟩;have hb02:Bel w w2:=But.belTo hb01 hbt2 (by simpa using hqw);have hq3:q<w2.heap.size:=Nat.lt_of_lt_of_le hq2 hbt2.size;have hjn:=join_v hS2 (by simpa using hq3) (by decide) (fm:=3) (by decide);have HS2:=Hid.mk hS2;clear ha1 hS1 hS2;go_wp2_with fail;refine hjn.mono ?_;rintro e w3 ⟨pb,L',rfl,hbt3,⟨hp1,hp2⟩,hL,hS3⟩
 have H0:Hid (FeI w q 0 w3):=by
  refine ⟨_,L',pb,[],hS3,fun k hk=>?_,But.belTo hb02 hbt3 (fun k hk=>?_)⟩
  ·rcases List.mem_cons.1 hk with rfl|hk
   ·exact ⟨Nat.le_trans hb02.size hp1,hp2⟩
   ·rcases List.mem_append.1 hk with hk|hk
    ·refine ⟨?_,(hL k hk).2⟩;rcases (hL k hk).1 with h5|h5
     ·cases h5
     ·exact Nat.le_trans hb02.size h5
    ·rw [List.mem_singleton.1 hk];exact ⟨hqw,Nat.lt_of_lt_of_le hq3 hbt3.size⟩
  ·rcases List.mem_cons.1 hk with rfl|hk
   ·exact hqw
   ·cases hk
 clear hjn hS3 hL hbt3 hbt2 hp1 hp2 HS2 hb1 hb01 hb02;go_wp2;go_loopg [6] 8 (fun r nk wr=>∃j:Nat,nk= .int .i64 (j:Int)∧j≤8∧r=8 - j∧FeI w q j wr)
 case atStart=>exact ⟨0,rfl,by omega,rfl,H0.out⟩
 case round=>
  obtain ⟨j,rfl,hj,rfl,hF⟩:=hrel;by_cases hj8:j<8
  ·have hjb:decide ((j:Int)<8)=true:=decide_eq_true (by omega);have htk:=fe_tick hF;have HF:=Hid.mk hF;clear hF;go_wp2_with fail;refine htk.mono ?_;rintro e w4 ⟨rfl,hb4⟩;have hF4:=HF.out.later hb4;have hsv:=fe_serve hF4;clear htk;go_wp2_with fail;refine hsv.mono ?_;rintro e w5 ⟨rfl,hb5⟩;have hrc:=fe_recv (hF4.later hb5);clear hsv hF4;go_wp2_with fail;refine hrc.mono ?_;rintro e w6 ⟨rfl,hF6⟩;have HF6:=Hid.mk hF6;clear hrc hF6;go_wp2;go_roundg (8 - (j+1))
   case measure=>omega
   case rel=>exact ⟨j+1,by go_num,by omega,rfl,HF6.out⟩
  ·obtain rfl:j=8:=by omega
   have hhd:=fe_held hF;have HF:=Hid.mk hF;clear hF;go_wp2_with fail;refine hhd.mono ?_;rintro e w4 ⟨rfl,hb4⟩;have hF4:=HF.out.later hb4;have hlk:=fe_look hF4;simp only [nB] at hlk;have HF4:=Hid.mk hF4;clear hhd hF4;go_wp2_with fail;refine hlk.mono ?_;rintro e w5 ⟨rfl,hb5⟩
   have HB:Hid (Bel w w5):=by
    obtain ⟨_,_,_,_,_,_,h3⟩:=HF4.out.later hb5;exact h3
   clear hlk hb5 hb4;go_wp2;go_ret;exact ⟨_,rfl,HB.out,by first|rfl|decide+kernel⟩
theorem playsW_is (a:Option Addr) (len cap:Nat) (w:World) (h:IsOps w a len):
  Calls Tryz.prog 15 #[.slice a len cap,.int .i64 4] w (RBool w fun x=>x=true):=by
 have hsm:=small_is a len cap w h
 have hup := fun wx (b : Bel w wx) (hl : len ≤ 65536) => upto_is a len cap 4 wx ⟨h.1, fun i hi => by
   obtain ⟨kd, x, y, z, S, ⟨bb, o, e, q0, q1, q2, q3, q4⟩, r⟩ := h.2 i hi
   exact ⟨kd, x, y, z, S, ⟨bb, o, e, b.cell q0, b.cell q1, b.cell q2, b.cell q3, b.cell q4⟩, r⟩⟩ hl
 have h14:bits BinOp.and IntKind.i64 4 14=4:=by decide
 clear h;go_enter Tryz.func15,Tryz.ntmps15;go_wp2_with fail;refine hsm.mono ?_;rintro e w1 ⟨x,rfl,rfl,hx⟩;clear hsm;cases x
 ·clear hup;go_wp2;go_ret;exact ⟨_,rfl,Bel.refl _,rfl⟩
 ·have hl:=hx rfl;clear hx;go_wp2_with fail;refine (alive_is _).mono ?_;rintro e w2 ⟨y,rfl,hb2,rfl⟩;go_wp2_with fail;refine (fetches_is _).mono ?_;rintro e w3 ⟨y,rfl,hb3,rfl⟩;have hb23:=hb2.trans hb3;have hup2:=hup w3 hb23 hl;clear hup;go_wp2_with fail;refine hup2.mono ?_;rintro e w4 ⟨rfl,hb4⟩;have hb:=hb23.trans hb4;clear hup2;go_wp2;go_ret;exact ⟨_,rfl,hb,rfl⟩
theorem lawWrong_is (a:Option Addr) (len cap:Nat) (w:World) (h:IsOps w a len):
  Calls Tryz.prog 11 #[.slice a len cap] w (RBool w fun x=>x=true):=by
 have hpl:=playsW_is a len cap w h;clear h;go_enter Tryz.func11,Tryz.ntmps11;go_wp2_with fail;refine hpl.mono ?_;rintro e w1 ⟨x,rfl,hb,rfl⟩;go_wp2;go_ret;exact ⟨_,rfl,hb,rfl⟩
theorem playsO_is (a:Option Addr) (len cap:Nat) (w:World) (h:IsOps w a len):
  Calls Tryz.prog 15 #[.slice a len cap,.int .i64 2] w (RBool w fun x=>x=true):=by
 have hsm:=small_is a len cap w h
 have hup := fun wx (b : Bel w wx) (hl : len ≤ 65536) => upto_is a len cap 2 wx ⟨h.1, fun i hi => by
   obtain ⟨kd, x, y, z, S, ⟨bb, o, e, q0, q1, q2, q3, q4⟩, r⟩ := h.2 i hi
   exact ⟨kd, x, y, z, S, ⟨bb, o, e, b.cell q0, b.cell q1, b.cell q2, b.cell q3, b.cell q4⟩, r⟩⟩ hl
 have h14:bits BinOp.and IntKind.i64 2 14=2:=by decide
 clear h;go_enter Tryz.func15,Tryz.ntmps15;go_wp2_with fail;refine hsm.mono ?_;rintro e w1 ⟨x,rfl,rfl,hx⟩;clear hsm;cases x
 ·clear hup;go_wp2;go_ret;exact ⟨_,rfl,Bel.refl _,rfl⟩
 ·have hl:=hx rfl;clear hx;go_wp2_with fail;refine (alive_is _).mono ?_;rintro e w2 ⟨y,rfl,hb2,rfl⟩;go_wp2_with fail;refine (fetches_is _).mono ?_;rintro e w3 ⟨y,rfl,hb3,rfl⟩;have hb23:=hb2.trans hb3;have hup2:=hup w3 hb23 hl;clear hup;go_wp2_with fail;refine hup2.mono ?_;rintro e w4 ⟨rfl,hb4⟩;have hb:=hb23.trans hb4;clear hup2;go_wp2;go_ret;exact ⟨_,rfl,hb,rfl⟩
theorem lawOne_is (a:Option Addr) (len cap:Nat) (w:World) (h:IsOps w a len):
  Calls Tryz.prog 10 #[.slice a len cap] w (RBool w fun x=>x=true):=by
 have hpl:=playsO_is a len cap w h;clear h;go_enter Tryz.func10,Tryz.ntmps10;go_wp2_with fail;refine hpl.mono ?_;rintro e w1 ⟨x,rfl,hb,rfl⟩;go_wp2;go_ret;exact ⟨_,rfl,hb,rfl⟩
theorem playsS_is (a:Option Addr) (len cap:Nat) (w:World) (h:IsOps w a len):
  Calls Tryz.prog 15 #[.slice a len cap,.int .i64 8] w (RBool w fun x=>x=true):=by
 have hsm:=small_is a len cap w h
 have hup := fun wx (b : Bel w wx) (hl : len ≤ 65536) => upto_is a len cap 8 wx ⟨h.1, fun i hi => by
   obtain ⟨kd, x, y, z, S, ⟨bb, o, e, q0, q1, q2, q3, q4⟩, r⟩ := h.2 i hi
   exact ⟨kd, x, y, z, S, ⟨bb, o, e, b.cell q0, b.cell q1, b.cell q2, b.cell q3, b.cell q4⟩, r⟩⟩ hl
 have h14:bits BinOp.and IntKind.i64 8 14=8:=by decide
 clear h;go_enter Tryz.func15,Tryz.ntmps15;go_wp2_with fail;refine hsm.mono ?_;rintro e w1 ⟨x,rfl,rfl,hx⟩;clear hsm;cases x
 ·clear hup;go_wp2;go_ret;exact ⟨_,rfl,Bel.refl _,rfl⟩
 ·have hl:=hx rfl;clear hx;go_wp2_with fail;refine (alive_is _).mono ?_;rintro e w2 ⟨y,rfl,hb2,rfl⟩;go_wp2_with fail;refine (fetches_is _).mono ?_;rintro e w3 ⟨y,rfl,hb3,rfl⟩;have hb23:=hb2.trans hb3;have hup2:=hup w3 hb23 hl;clear hup;go_wp2_with fail;refine hup2.mono ?_;rintro e w4 ⟨rfl,hb4⟩;have hb:=hb23.trans hb4;clear hup2;go_wp2;go_ret;exact ⟨_,rfl,hb,rfl⟩
theorem lawSoon_is (a:Option Addr) (len cap:Nat) (w:World) (h:IsOps w a len):
  Calls Tryz.prog 12 #[.slice a len cap] w (RBool w fun x=>x=true):=by
 have hpl:=playsS_is a len cap w h;clear h;go_enter Tryz.func12,Tryz.ntmps12;go_wp2_with fail;refine hpl.mono ?_;rintro e w1 ⟨x,rfl,hb,rfl⟩;go_wp2;go_ret;exact ⟨_,rfl,hb,rfl⟩
end Go.Proofs.YtpapdkhjdelfcabGreat
