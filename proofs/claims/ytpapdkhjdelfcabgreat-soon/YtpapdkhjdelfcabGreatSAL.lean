import Derived.Test.YtpapdkhjdelfcabGreatSAK
import Derived.Test.YtpapdkhjdelfcabGreatSAJ
import Derived.Test.YtpapdkhjdelfcabGreatSAG
import Derived.Test.YtpapdkhjdelfcabGreatSAC
import Derived.Test.YtpapdkhjdelfcabGreatSAH
set_option maxRecDepth 100000
set_option maxHeartbeats 4000000
namespace Go.Proofs.YtpapdkhjdelfcabGreat
open Go.RowKit
theorem step_restart (W0:World) (p s:Nat) (k:KI) (a b c:Int) (S:ByteArray) (w:World) (h:KInv W0 p s k w) (hR:k.Rdy s) (hs:s≤65600) (hpp:0<k.pp.length) (ha:I64 a):
  Calls Tryz.prog 36 #[.pointer (some ⟨p,0,none⟩),opV 10 a b c S] w (RStep W0 p (s+1) FS):=by
 have hhl:=h.hdn hR;have hle4:k.pp.length≤4:=h.svc.le4;have hpk:=fun wx=>pick_is a (k.hd.length:Int) wx ha (by omega) (by omega)
 obtain ⟨h1,h2⟩:=pickF_range a (k.hd.length:Int) (by omega);obtain ⟨n,hn⟩:=Int.eq_ofNat_of_zero_le h1;rw [hn] at hpk h2;have hnl:n<k.pp.length:=by omega
 obtain ⟨gh,ch,hvh, -, -⟩:=World.ownsRow.form h.held (by omega:0<k.hd.length);have c17:w.cell? ⟨p,17,none⟩=some (.slice (some ⟨gh,0,none⟩) k.hd.length ch):=by rw [←hvh];exact h.at_.1 17 _ rfl
 have c7:=h.at_.1 7 _ rfl;have hplt:=h.at_.lt (by rw [wl_len];decide);have hp0:=(h.lt p (h.inM p h.p_in)).1;have hlz:((k.hd.length:Int)==0)=false:=by rw [beq_eq_false_iff_ne];omega
 have hfb:k.fb≤800000000000:=hR.fb8 hs;have HI:=Hid.mk h;have hcl:=fun wx (b':Bel w wx)=>krestart_is (h.later b') hnl
 clear h h1 hn;have HR:=Hid.mk hR;have HHL:=Hid.mk hhl;have HNL:=Hid.mk hnl;have HS:=Hid.mk hs;clear hR hhl hnl hs hle4 hpp h2 hfb;unfold opV;go_enter Tryz.func36,Tryz.ntmps36;go_wp2_with fail;go_region_held3 (fun w'=>Bel w w'∧w'.cell? ⟨p,17,none⟩=some (.slice (some ⟨gh,0,none⟩) k.hd.length ch)∧w'.cell? ⟨w.heap.size,1,none⟩=some (.int .i64 a)) ((exact ⟨by (repeat (first|exact Bel.refl _|assumption|refine Bel.step_alloc ?_ _|refine Bel.step_drew ?_|refine Bel.step_drewN ?_ _|refine Bel.step_set ?_ (by simp <;>omega) _|refine Bel.trans ?_ (by assumption))),Bel.cell (a:=w) (by (repeat (first|exact Bel.refl _|assumption|refine Bel.step_alloc ?_ _|refine Bel.step_drew ?_|refine Bel.step_drewN ?_ _|refine Bel.step_set ?_ (by simp <;>omega) _|refine Bel.trans ?_ (by assumption)))) c17,by simp⟩)) ((go_at_call 70;refine (hpk _).mono ?_;rintro e w2 ⟨rfl,rfl⟩))
 all_goals clear hpk
 go_wp2_with fail;refine (hcl _ (by (repeat (first|exact Bel.refl _|assumption|refine Bel.step_alloc ?_ _|refine Bel.step_drew ?_|refine Bel.step_drewN ?_ _|refine Bel.step_set ?_ (by simp <;>omega) _|refine Bel.trans ?_ (by assumption))))).mono ?_;rintro e w2 ⟨rfl,M2,pp2,hk2,hl2,hTr2⟩;have hnk:n<k.hd.length:=by rw [HHL.out];exact HNL.out
 have hrow:=hk2.held;have hvh2:({k with M:=M2,pp:=pp2}:KI).vh= .slice (some ⟨gh,0,none⟩) k.hd.length ch:=hvh;rw [hvh2] at hrow
 have hc2:w2.cell? ⟨gh,n,none⟩=some (.int .i64 k.hd[n]):=by
  have hc:=World.ownsRow.cellAt hrow n (by simpa using hnk);rw [hc];simp [hnk]
 have hf2:w2.frozen? ⟨gh,n,none⟩=false:=World.ownsRow.frozenAt hrow n;have x17:w2.cell? ⟨p,17,none⟩=some (.slice (some ⟨gh,0,none⟩) k.hd.length ch):=by rw [←hvh];exact hk2.at_.1 17 _ rfl
 have hk3:=hk2.note hvh2 hnk (x:=0) (by omega);have hst:=kstands_is hk3 HS.out HR.out.2.1 (n:=n) (by show n<pp2.length;rw [hl2];exact HNL.out) (hTr2 HR.out.2.2.2.2.2);clear hk2 hcl hrow hk3 hTr2;go_wp2_with fail;refine hst.mono ?_;rintro e w3 ⟨hd',rfl,hk3,hTr3⟩;have HK3:=Hid.mk hk3;have HTR3:=Hid.mk hTr3;clear hst hk3 hTr3;go_wp2;go_ret;exact Or.inl ⟨rfl,_,HK3.out.up (by omega),HR.out.1,HR.out.2.1,Nat.le_trans HR.out.2.2.1 (Nat.mul_le_mul_right _ (Nat.le_succ s)),HR.out.2.2.2.1,HR.out.2.2.2.2.1,HTR3.out⟩
end Go.Proofs.YtpapdkhjdelfcabGreat

namespace Go.Proofs.YtpapdkhjdelfcabGreat
open Go.RowKit
theorem crc_low (y:BitVec 32):bits .and .u32 (y.toNat:Int) 1=((y.toNat % 2:Nat):Int):=by
 have hy:=y.isLt;rw [show (1:Int)=((1:Nat):Int) from rfl,u32_and_nat _ _ (by omega) (by omega),Nat.and_one_is_mod]
theorem cStep_nat (y:BitVec 32):(cStep y).toNat=y.toNat / 2 ^^^ (3988292384 * (y.toNat % 2)):=by
 have hy:=y.isLt;unfold cStep;rw [BitVec.toNat_xor,BitVec.toNat_ushiftRight,Nat.shiftRight_eq_div_pow]
 have h0:y.getLsbD 0=(y.toNat % 2==1):=by
  rw [BitVec.getLsbD,Nat.testBit_zero];rcases Nat.mod_two_eq_zero_or_one y.toNat with h|h <;>simp [h]
 rw [h0];rcases Nat.mod_two_eq_zero_or_one y.toNat with h|h <;>simp [h]
theorem crc_one {y:BitVec 32} (h:y.toNat % 2=1):bits .xor .u32 ((y.toNat:Int) / 2) 3988292384=((cStep y).toNat:Int):=by
 have hy:=y.isLt;have e1:((y.toNat:Int) / 2)=((y.toNat / 2:Nat):Int):=by omega
 rw [e1,show (3988292384:Int)=((3988292384:Nat):Int) from rfl,u32_xor_nat _ _ (by omega) (by omega),cStep_nat,h]
theorem crc_nil {y:BitVec 32} (h:y.toNat % 2=0):((y.toNat:Int) / 2)=((cStep y).toNat:Int):=by
 rw [cStep_nat,h];simp
theorem kcrc_is (t:ByteArray) (w:World) (ht:t.size≤1099511627776):
  Calls Tryz.prog 180 #[.string t] w (RCrc w (crcB t.data.toList)):=by
 have hz:Hid (t.data.toList.length=t.size):=by show _=_;rw [Array.length_toList];rfl
 go_enter Tryz.func180,Tryz.ntmps180;go_wp2;go_loopg [3,4] t.size (fun r x d wr=>w=wr∧∃k:Nat,r=t.size - k∧k≤t.size∧x= .int .u32 (((t.data.toList.take k).foldl cByte 0xFFFFFFFF#32).toNat:Int)∧d= .int .i64 (k:Int))
 case atStart=>exact ⟨rfl,0,rfl,by omega,rfl,rfl⟩
 case round=>
  obtain ⟨rfl,k,hr,hk,rfl,rfl⟩:=hrel;by_cases hlt:k<t.size
  ·have hft:Hid ((t.data.toList.take (k+1)).foldl cByte 0xFFFFFFFF#32=cByte ((t.data.toList.take k).foldl cByte 0xFFFFFFFF#32) (t[k]'hlt)):=fold_take t.data.toList k (by rw [hz.out];exact hlt) _;generalize (t.data.toList.take k).foldl cByte 0xFFFFFFFF#32=c at *;go_wp2;go_loopg [3,5] 8 (fun r x d wr=>w=wr∧∃j:Nat,r=8 - j∧j≤8∧x= .int .u32 ((stepN (c ^^^ BitVec.ofNat 32 (t[k]'hlt).toNat) j).toNat:Int)∧d= .int .i64 (j:Int))
   case atStart=>exact ⟨rfl,0,rfl,by omega,by rw [crc_xor];rfl,rfl⟩
   case round=>
    obtain ⟨rfl,j,hr2,hj,rfl,rfl⟩:=hrel;by_cases hj8:j<8
    ·have hst:Hid (stepN (c ^^^ BitVec.ofNat 32 (t[k]'hlt).toNat) (j+1)=cStep (stepN (c ^^^ BitVec.ofNat 32 (t[k]'hlt).toNat) j)):=rfl;generalize stepN (c ^^^ BitVec.ofNat 32 (t[k]'hlt).toNat) j=y at *;rcases Nat.mod_two_eq_zero_or_one y.toNat with h2|h2
     ·have hlow:(bits .and .u32 (y.toNat:Int) 1==1)=false:=by rw [crc_low,h2];rfl
      have HS:=Hid.mk (crc_nil h2);go_wp2;go_roundg (8 - (j+1))
      case measure=>omega
      case rel=>exact ⟨rfl,j+1,rfl,by omega,by rw [hst.out,←HS.out],by go_num⟩
     ·have hlow:(bits .and .u32 (y.toNat:Int) 1==1)=true:=by rw [crc_low,h2];rfl
      have HS:=Hid.mk (crc_one h2);go_wp2;go_roundg (8 - (j+1))
      case measure=>omega
      case rel=>exact ⟨rfl,j+1,rfl,by omega,by rw [hst.out,←HS.out],by go_num⟩
    ·obtain rfl:j=8:=by omega
     rw [←cByte_step,←hft.out];go_wp2;go_roundg (t.size - (k+1))
     case measure=>omega
     case rel=>exact ⟨rfl,k+1,rfl,by omega,rfl,by go_num⟩
  ·have he:Hid (t.data.toList.take k=t.data.toList):=List.take_of_length_le (by rw [hz.out];omega);go_wp2;go_ret;refine ⟨?_,rfl⟩;show Ending.returned (.int .u32 (bits .xor .u32 _ 4294967295))=_;have:=crc_xor ((t.data.toList.take k).foldl cByte 0xFFFFFFFF#32) 4294967295;rw [show (((4294967295:Nat):Int) % 4294967296)=4294967295 from rfl] at this;rw [this,he.out];rfl
theorem decF_len4 {l:List UInt8} (h:(decF l).2.2.2=0):4<l.length:=by
 unfold decF at h;split at h
 ·rename_i hi;unfold imageP openB at hi;by_cases hl:l.length≤4
  ·rw [if_pos hl] at hi;simp at hi
  ·omega
 ·simp at h
def AnI (w:World) (q2:Nat) (on:Cfg) (i:Nat) (wr:World):Prop:=∃(Bx:List BK) (gx:Nat),SvcAt (.slice none 0 0) [q2] q2 on Bx (gx:Int) wr∧Good Bx∧Bel w wr∧gx≤i
def RAny (w:World) (e:Ending) (w':World):Prop:=∃b,e= .returned (.bool b)∧Bel w w'
end Go.Proofs.YtpapdkhjdelfcabGreat

namespace Go.Proofs.YtpapdkhjdelfcabGreat
open Go.RowKit
def anB:Nat→List BK
 |0=>[]
 |j+1=>[(tt,1+((j % 2:Nat):Int))]
theorem tt_at (x:Int):atName tt [(tt,x)]=0:=by
 unfold atName;rw [List.findIdx_cons];simp
theorem an_add:addE [] tt 1=0∧addB [] tt 1=anB 1:=⟨by decide+kernel,rfl⟩
theorem an_set (j:Nat) (x:Int):setE [(tt,x)] tt (1+((j % 2:Nat):Int))=0∧setB [(tt,x)] tt (1+((j % 2:Nat):Int))=anB (j+1):=by
 have h:setE [(tt,x)] tt (1+((j % 2:Nat):Int))=0:=by
  unfold setE;rw [if_neg (by omega),tt_at,if_pos (by simp)]
 refine ⟨h,?_⟩;unfold setB;rw [if_pos h,tt_at];rfl
theorem anB_good (j:Nat):Good (anB j):=by
 cases j with
 |zero=>exact Good.nil
 |succ j=>
  refine ⟨⟨by simp [anB],fun b hb=>?_⟩,List.pairwise_singleton _ _⟩;rw [List.mem_singleton.1 hb];exact ⟨by show 1≤tt.size;decide,by show tt.size≤8;decide,by show (0:Int)≤1+((j % 2:Nat):Int);omega,by show 1+((j % 2:Nat):Int)≤6;omega⟩
def AnJ (w:World) (q2:Nat) (on:Cfg) (j:Nat) (wr:World):Prop:=SvcAt (.slice none 0 0) [q2] q2 on (anB j) (j:Int) wr∧Bel w wr
theorem kanother_is {W0:World} {p s:Nat} {k:KI} {w:World} (h:KInv W0 p s k w) {g1 g2:Nat} {B1 B2:List BK} (h1:GenOK k.on g1 B1) (h2:GenOK k.on g2 B2):
  Calls Tryz.prog 134 #[.pointer (some ⟨p,0,none⟩),.string (txt (patS k.on g1 B1 g2 B2)),.string (txt (imgS 1 g1 k.on B1))] w fun e w'=>e= .returned (.bool true)∧Bel w w':=by
 have hPs:(txt (patS k.on g1 B1 g2 B2)).size≤16777216:=by rw [txt_size];exact patchB_len h2.2.1.1 (by have:=mkF_short h2.1 h2.2.1;rw [List.length_take,List.length_drop];omega)
 have hOs:(txt (imgS 1 g1 k.on B1)).size≤16777216:=by rw [txt_size];exact imageB_len ((Cfg.ok_iff k.on).1 h1.1).1 h1.2.1.1 (by have:=mkF_short h1.1 h1.2.1;omega)
 have hO5:5≤(txt (imgS 1 g1 k.on B1)).size:=by rw [txt_size];exact imgS_len _ _ _ _
 have hdc:=fun wx=>decode_is (txt (imgS 1 g1 k.on B1)) wx (by omega)
 rw [show (txt (imgS 1 g1 k.on B1)).data.toList=imgS 1 g1 k.on B1 from rfl,dec_img ⟨by omega,by omega⟩ h1] at hdc;have honOK:=h.onok;have hnw:=fun wx=>new_is k.on wx honOK
 have c8:=h.at_.1 8 _ rfl;have c9:=h.at_.1 9 _ rfl;have c10:=h.at_.1 10 _ rfl;have c11:=h.at_.1 11 _ rfl;have c12:=h.at_.1 12 _ rfl;have c13:=h.at_.1 13 _ rfl;have hcr:=fun (t:ByteArray) wx (ht:t.size≤1099511627776)=>kcrc_is t wx ht
 have hap:=fun (z:ByteArray) wx (hz:z.size≤1099511627776)=>sapply_is (txt (patS k.on g1 B1 g2 B2)) z wx (by omega) hz
 have hg1:=h1.2.2.1
 have HZ:Hid (∀j,1≤j→j=g1→(applyF (patS k.on g1 B1 g2 B2) (imgS 1 j k.on (anB j))).2=10∨crcB ((txt (imgS 1 j k.on (anB j))).extract 0 ((txt (imgS 1 j k.on (anB j))).size - 4)).data.toList=crcB ((txt (imgS 1 g1 k.on B1)).extract 0 ((txt (imgS 1 g1 k.on B1)).size - 4)).data.toList):=fun j hj e=>by
  rcases apply_other h1 h2 (g:=j) (B:=anB j) ⟨honOK,anB_good j,hj,by have:=h1.2.2.2;omega⟩ with k1|⟨k1,k2⟩
  ·exact Or.inl k1
  ·refine Or.inr ?_;have c1:=imgS_cut j k.on (anB j);have c2:=imgS_cut g1 k.on B1;rw [ext_list,ext_list,txt_size,txt_size];show crcB (((imgS 1 j k.on (anB j)).drop 0).take ((imgS 1 j k.on (anB j)).length - 4 - 0))=crcB (((imgS 1 g1 k.on B1).drop 0).take ((imgS 1 g1 k.on B1).length - 4 - 0));rw [List.drop_zero,List.drop_zero,Nat.sub_zero,Nat.sub_zero,c1,c2,k2]
 have HS:Hid (∀j,(txt (imgS 1 j k.on (anB j))).size≤16777216∧5≤(txt (imgS 1 j k.on (anB j))).size):=fun j=>by
  rw [txt_size];exact ⟨imageB_len ((Cfg.ok_iff k.on).1 honOK).1 (anB_good j).1 (by have:=mkF_short honOK (anB_good j);omega),imgS_len _ _ _ _⟩
 clear h;obtain ⟨P,hP⟩:∃P,P=txt (patS k.on g1 B1 g2 B2):=⟨_,rfl⟩;obtain ⟨old,hold⟩:∃old,old=txt (imgS 1 g1 k.on B1):=⟨_,rfl⟩;have hPd:P.data.toList=patS k.on g1 B1 g2 B2:=by rw [hP];rfl
 rw [←hP] at hap hPs;rw [←hold] at hdc hOs hO5 HZ;rw [←hP,←hold];rw [hPd] at hap;have HPD:=Hid.mk hPd;clear hP hold hPd;generalize imgS 1 g1 k.on B1=I1 at *;generalize imgS 2 g1 k.on B1=I2 at *;generalize patS k.on g1 B1 g2 B2=PL at *;clear h1 h2;obtain ⟨M0,q0,c0,on,B,g0,vb0,vw0,vs0,vh0,vf0,img0,part0,L0,pp0,vr0,sp0,hd0,fr0,fb0,ds0,dh0,bs0⟩:=k;simp only [Cfg.cells] at *;have HON:=Hid.mk honOK;clear honOK;go_enter Tryz.func134,Tryz.ntmps134;go_wp2_with fail;refine (hdc _).mono ?_;rintro e w1 ⟨rfl,hb1⟩;have e8:=hb1.cell c8;have e9:=hb1.cell c9;have e10:=hb1.cell c10;have e11:=hb1.cell c11;have e12:=hb1.cell c12;have e13:=hb1.cell c13;clear hdc c8 c9 c10 c11 c12 c13;go_wp2_with fail;refine (hnw _).mono ?_;rintro e w2 ⟨q2,rfl,hb2,hq2a,hq2b,hS2⟩;have hS2:=hS2 [q2] (by simp);have hb02:=hb1.trans hb2;clear hnw e8 e9 e10 e11 e12 e13;by_cases hG:40<g1
 ·have hgt:decide ((g1:Int)>40)=true:=decide_eq_true (by omega);have HB:=Hid.mk hb02;clear hb1 hb2;go_wp2;go_ret;exact ⟨rfl,HB.out⟩
 have hgt:decide ((g1:Int)>40)=false:=decide_eq_false (by omega);have H0:Hid (AnJ w q2 on 0 w2):=⟨hS2,hb02⟩;have hqw:w.heap.size≤q2:=Nat.le_trans hb1.size hq2a;clear hS2 hb1 hb2 hq2a;go_wp2;go_loopg [12,13] g1 (fun r vf nk wr=>∃j:Nat,nk= .int .i64 (j:Int)∧vf= .int .i64 0∧j≤g1∧r=g1 - j∧AnJ w q2 on j wr)
 case atStart=>exact ⟨0,rfl,rfl,by omega,rfl,H0.out⟩
 case round=>
  obtain ⟨j,rfl,rfl,hj,rfl,hS,hbr⟩:=hrel;have hlt:=hS.lt;by_cases hjG:j<g1
  ·have hjb:decide ((j:Int)<(g1:Int))=true:=decide_eq_true (by omega);by_cases hj0:j=0
   ·subst hj0;have had:=add_is [q2] q2 on (anB 0) ((0:Nat):Int) tt 1 wr hS (by simpa using hlt) HON.out (anB_good 0) (by omega) (by omega);have e0:addE (anB 0) tt 1=0:=an_add.1;have e1:addB (anB 0) tt 1=anB 1:=an_add.2;rw [e0,e1] at had;simp only [if_true,tt] at had;clear hS;go_wp2_with fail;refine had.mono ?_;rintro e w3 ⟨rfl,hbt,hS3⟩;have hbw:Bel w w3:=But.belTo hbr hbt (by intro k hk;simp at hk;subst hk;exact hqw);have HN:Hid (AnJ w q2 on 1 w3):=⟨hS3,hbw⟩;clear had hS3;go_wp2;go_roundg (g1 - 1)
    case measure=>omega
    case rel=>exact ⟨1,rfl,rfl,by omega,rfl,HN.out⟩
   ·have hjz:((j:Int)==0)=false:=by rw [beq_eq_false_iff_ne];omega
    obtain ⟨i,rfl⟩:∃i,j=i+1:=⟨j - 1,by omega⟩;have had:=set_is [q2] q2 on (anB (i+1)) ((i+1:Nat):Int) tt (1+(((i+1) % 2:Nat):Int)) wr hS (by simpa using hlt) HON.out (anB_good _) (by omega) (by omega);have e0:setE (anB (i+1)) tt (1+(((i+1) % 2:Nat):Int))=0:=(an_set (i+1) _).1;have e1:setB (anB (i+1)) tt (1+(((i+1) % 2:Nat):Int))=anB (i+1+1):=(an_set (i+1) _).2;rw [e0,e1] at had;have e2:(1+(((i+1) % 2:Nat):Int))=1+((i:Int)+1) % 2:=by omega
    rw [e2] at had;simp only [if_true,tt] at had;clear hS e0 e1 e2;go_wp2_with fail;refine had.mono ?_;rintro e w3 ⟨rfl,hbt,hS3⟩;have hbw:Bel w w3:=But.belTo hbr hbt (by intro k hk;simp at hk;subst hk;exact hqw)
    have HN : Hid (AnJ w q2 on (i + 1 + 1) w3) := ⟨by have e3 : ((i + 1 + 1 : Nat) : Int) = ((i + 1 : Nat) : Int) + 1 := by omega
                                                      rw [e3]; exact hS3, hbw⟩
    clear had hS3;go_wp2;go_roundg (g1 - (i+1+1))
    case measure=>omega
    case rel=>exact ⟨i+1+1,by go_num,rfl,by omega,rfl,HN.out⟩
  ·obtain rfl:j=g1:=by omega
   have him:=image_v [q2] q2 on (anB j) j 1 wr hS.svp (mkF_len _ _ HON.out (anB_good j).1) HON.out (anB_good j).1 (by omega)
   have hsg:simgF 1 j on (anB j) (mkF on (anB j))=(imgS 1 j on (anB j),0):=by
    unfold simgF;rw [if_pos ⟨by omega,by omega⟩,if_neg (by omega)];rfl
   rw [hsg] at him;obtain ⟨hz1,hz5⟩:=HS.out j;have hZ:=HZ.out j hg1 rfl;have hapz:=fun wx=>hap (txt (imgS 1 j on (anB j))) wx (by omega)
   rw [show (txt (imgS 1 j on (anB j))).data.toList=imgS 1 j on (anB j) from rfl] at hapz;generalize applyF PL (imgS 1 j on (anB j))=AZ at *;obtain ⟨AZ1,AZE⟩:=AZ;unfold RTxE at him hapz;dsimp only at him hapz hZ;generalize txt (imgS 1 j on (anB j))=z at *;have hzb:decide ((z.size:Int)<5)=false:=decide_eq_false (by omega);have hcz:=fun wx=>hcr (z.extract 0 (z.size - 4)) wx (by simp;omega)
   have hco:=fun wx=>hcr (old.extract 0 (old.size - 4)) wx (by simp;omega)
   unfold RCrc at hcz hco;generalize crcB (z.extract 0 (z.size - 4)).data.toList=ca at *;generalize crcB (old.extract 0 (old.size - 4)).data.toList=cb at *;have HZZ:=Hid.mk hZ;clear hS hsg hcr hap hZ;go_wp2_with fail;refine him.mono ?_;rintro e w3 ⟨rfl,hb3⟩;have hbw:Bel w w3:=hbr.trans hb3;clear him hb3;go_wp2_with fail;refine (hcz _).mono ?_;rintro e w4 ⟨rfl,rfl⟩;go_wp2_with fail;refine (hco _).mono ?_;rintro e w4 ⟨rfl,rfl⟩;go_wp2_with fail;refine (hapz _).mono ?_;rintro e w4 ⟨rfl,hb4⟩;have hbx:Bel w w4:=hbw.trans hb4;clear hapz hcz hco;by_cases hE:AZE=10
   ·have hEb:(AZE==10)=true:=by rw [beq_iff_eq];exact hE
    go_wp2;go_ret;exact ⟨rfl,hbx⟩
   ·have hEb:(AZE==10)=false:=by rw [beq_eq_false_iff_ne];exact hE
    have hab:ca=cb:=HZZ.out.resolve_left hE;subst hab;go_wp2;go_ret;exact ⟨rfl,hbx⟩
end Go.Proofs.YtpapdkhjdelfcabGreat

namespace Go.Proofs.YtpapdkhjdelfcabGreat
open Go.RowKit
def RWrit (W0:World) (p s:Nat) (k:KI) (e:Ending) (w':World):Prop:=∃img',e= .returned (.bool true)∧KInv W0 p s {k with img:=img'} w'∧ImgP img' k.on k.g k.B
theorem size0_nil {t:ByteArray} (h:t.size=0):t.toList=[]:=by
 have:t=ByteArray.empty:=by
  apply ByteArray.ext;exact Array.eq_empty_of_size_eq_zero h
 have e1:ByteArray.empty.toList=[]:=by kernel_rfl
 rw [this,e1]
theorem conv_set {wA:World} {gA c0 m n:Nat} {l:List UInt8} (hB:BRow gA l wA) (hn:l.length=n) (x v:UInt8) (V:Int) (hV:V=(v.toNat:Int)):(convert 105 9 (.slice (some ⟨gA,0,none⟩) n c0)).run Tryz.prog (wA.setCell ⟨gA,m,none⟩ (.int .u8 (bits .xor .u8 (x.toNat:Int) V)))= .ok (.string (txt (l.set m (x ^^^ v)))) (wA.setCell ⟨gA,m,none⟩ (.int .u8 (bits .xor .u8 (x.toNat:Int) V))):=by
 subst hn
 have := run_convert_bytes_back (P := Tryz.prog) (wA.setCell ⟨gA, m, none⟩ (.int .u8 (bits .xor .u8 (x.toNat : Int) V))) 105 9 5 ⟨gA, 0, none⟩ c0 (l.set m (x ^^^ v)) Tryz.underlying105 rfl rfl (fun i hi => by
   have := (hB.set m (x ^^^ v) (bits .xor .u8 (x.toNat : Int) V) (by rw [hV, u8_xor])).1 i hi
   rwa [addr_add])
 rw [List.length_set] at this;exact this
theorem KInv.bel_img {W0:World} {p s:Nat} {k:KI} {w w':World} (h:KInv W0 p s k w) (b:Bel w w'):KInv W0 p s {k with img:=k.img} w':=h.later b
theorem kwritten_is {W0:World} {p s:Nat} {k:KI} {w:World} (h:KInv W0 p s k w) (hs:s≤65600) (hIm:ImgP k.img k.on k.g k.B) (a b:Int) (ha:I64 a) (hb:I64 b):
  Calls Tryz.prog 74 #[.pointer (some ⟨p,0,none⟩),.int .i64 a,.int .i64 b] w (RWrit W0 p s k):=by
 have c7:=h.at_.1 7 _ rfl;have c19:=h.at_.1 19 _ rfl;have f19:=h.at_.2 19 (by rw [wl_len];decide);have hgn:=fun wx (b':Bel w wx)=>kgen_is (h.later b')
 have him:=fun f wx (b':Bel w wx)=>kimage_is (h.later b') hs f
 have him1:=him 1;have him2:=him 2;have hisz:=h.isz;have hplt:=h.at_.lt (by rw [wl_len];decide);have HI:=Hid.mk h;have hgN:=h.gN;have hgs:=h.gen;have hon:=h.onok;have hgd:=h.good;have HIm:=Hid.mk hIm;clear him h hIm;have hpk2:=fun wx=>pick_is b 255 wx hb (by omega) (by omega)
 have hpr2:=pickF_range b 255 (by omega);generalize pickF b 255=yv at *;obtain ⟨hy1,hy2⟩:=hpr2;by_cases hg0:k.g=0
 ·have e7:∀f:Int,1≤f∧f≤2→simgF f k.g.toNat k.on k.B (mkF k.on k.B)=([],7):=fun f hf=>by
   unfold simgF;rw [if_pos hf,if_pos (by omega)]
  rw [e7 1 ⟨by omega,by omega⟩] at him1
  rw [e7 2 ⟨by omega,by omega⟩] at him2
  have hgb:(k.g==0)=true:=by rw [beq_iff_eq];exact hg0
  clear e7
  go_enter Tryz.func74,Tryz.ntmps74
  go_wp2_with fail
  refine (him1 _ (by (repeat (first|exact Bel.refl _|assumption|refine Bel.step_alloc ?_ _|refine Bel.step_drew ?_|refine Bel.step_drewN ?_ _|refine Bel.step_set ?_ (by simp <;>omega) _|refine Bel.trans ?_ (by assumption))))).mono ?_
  rintro e w1 ⟨rfl,hb1⟩
  have d7:=hb1.cell c7
  go_wp2_with fail
  refine (him2 _ (by (repeat (first|exact Bel.refl _|assumption|refine Bel.step_alloc ?_ _|refine Bel.step_drew ?_|refine Bel.step_drewN ?_ _|refine Bel.step_set ?_ (by simp <;>omega) _|refine Bel.trans ?_ (by assumption))))).mono ?_
  rintro e w2 ⟨rfl,hb2⟩
  have hbw2:Bel w w2:=hb1.trans hb2
  have e7:=hbw2.cell c7
  have hg2:=hgn w2 hbw2
  clear him1 him2 hgn
  go_wp2_with fail
  refine hg2.mono ?_
  rintro e w3 ⟨rfl,rfl⟩
  go_wp2
  all_goals go_ret
  all_goals exact ⟨k.img,rfl,HI.out.bel_img hbw2,HIm.out⟩
 have hGO:GenOK k.on k.g.toNat k.B:=⟨hon,hgd,by omega,by omega⟩
 have e0:∀f:Nat,1≤f∧f≤2→simgF (f:Int) k.g.toNat k.on k.B (mkF k.on k.B)=(imgS f k.g.toNat k.on k.B,0):=fun f hf=>by
  unfold simgF;rw [if_pos ⟨by omega,by omega⟩,if_neg (by omega),Int.toNat_natCast];rfl
 have e01:=e0 1 ⟨by omega,by omega⟩;have e02:=e0 2 ⟨by omega,by omega⟩;rw [show ((1:Nat):Int)=1 from rfl] at e01;rw [show ((2:Nat):Int)=2 from rfl] at e02;rw [e01] at him1;rw [e02] at him2;have hsh:=mkF_short hon hgd;have hz1:(txt (imgS 1 k.g.toNat k.on k.B)).size≤16777216:=by rw [txt_size];exact imageB_len ((Cfg.ok_iff k.on).1 hon).1 hgd.1 (by omega)
 have hz2:(txt (imgS 2 k.g.toNat k.on k.B)).size≤16777216:=by rw [txt_size];exact imageB_len ((Cfg.ok_iff k.on).1 hon).1 hgd.1 (by omega)
 have hz15:5≤(txt (imgS 1 k.g.toNat k.on k.B)).size:=by rw [txt_size];exact imgS_len _ _ _ _
 have hz25:5≤(txt (imgS 2 k.g.toNat k.on k.B)).size:=by rw [txt_size];exact imgS_len _ _ _ _
 have HO1:Hid (∃b,openB (txt (imgS 1 k.g.toNat k.on k.B)).data.toList=some b):=⟨_,imgS_open 1 k.g.toNat k.on k.B⟩;have HO2:Hid (∃b,openB (txt (imgS 2 k.g.toNat k.on k.B)).data.toList=some b):=⟨_,imgS_open 2 k.g.toNat k.on k.B⟩;have hd1:=fun wx=>decode_is (txt (imgS 1 k.g.toNat k.on k.B)) wx (by omega)
 have hd2:=fun wx=>decode_is (txt (imgS 2 k.g.toNat k.on k.B)) wx (by omega)
 rw [show (txt (imgS 1 k.g.toNat k.on k.B)).data.toList=imgS 1 k.g.toNat k.on k.B from rfl,dec_img ⟨by omega,by omega⟩ hGO] at hd1;rw [show (txt (imgS 2 k.g.toNat k.on k.B)).data.toList=imgS 2 k.g.toNat k.on k.B from rfl,dec_img ⟨by omega,by omega⟩ hGO] at hd2;unfold RDec at hd1 hd2;dsimp only at hd1 hd2;rw [hgN] at hd1 hd2;unfold RTxE at him1 him2;dsimp only at him1 him2;have HNew:Hid (ImgP (txt (imgS 1 k.g.toNat k.on k.B)) k.on k.g k.B):=Or.inr ⟨k.g.toNat,k.B,by omega,by omega,hgd,rfl,fun _=>rfl⟩
 have HPat:Hid (k.img.toList≠[]→∃(g1:Nat) (B1:List BK),GenOK k.on g1 B1∧k.img=txt (imgS 1 g1 k.on B1)∧((g1:Int)=k.g→B1=k.B)):=fun hne=>by
  rcases HIm.out with h0|⟨g0,B0,q1,q2,q3,q4,q5⟩
  ·exact absurd (size0_nil h0) hne
  ·exact ⟨g0,B0,⟨hon,q3,q1,by omega⟩,q4,q5⟩
 have HAn:=fun (k':KI) wx (hk':KInv W0 p s k' wx) (e:k'.on=k.on) (g1:Nat) (B1:List BK) (hg1:GenOK k.on g1 B1)=>kanother_is hk' (e ▸ hg1:GenOK k'.on g1 B1) (e ▸ hGO:GenOK k'.on k.g.toNat k.B)
 have HPat2:Hid (∀(g1:Nat) (B1:List BK),GenOK k.on g1 B1→patchF (imgS 1 g1 k.on B1) (imgS 2 k.g.toNat k.on k.B)=(patS k.on g1 B1 k.g.toNat k.B,0)∧applyF (patS k.on g1 B1 k.g.toNat k.B) (imgS 1 g1 k.on B1)=(imgS 1 k.g.toNat k.on k.B,0)∧(g1≠k.g.toNat→(applyF (patS k.on g1 B1 k.g.toNat k.B) (imgS 1 k.g.toNat k.on k.B)).2=10)∧(patS k.on g1 B1 k.g.toNat k.B).length≤16777216):=fun g1 B1 hg1=>by
  refine ⟨patch_img ⟨by omega,by omega⟩ ⟨by omega,by omega⟩ hg1 hGO,apply_img hg1 hGO,fun hne=>?_,?_⟩
  ·rcases apply_other hg1 hGO hGO with k1|k1
   ·exact k1
   ·exact absurd k1.1 hne
  ·exact patchB_len hgd.1 (by rw [List.length_take,List.length_drop];omega)
 have hdc:=fun (x:ByteArray) wx (hx:x.size≤16777216)=>decode_is x wx (by omega)
 have hcv:=fun (x:ByteArray) wx=>run_bytes_of_string (P:=Tryz.prog) wx 9 105 5 x rfl Tryz.underlying105 rfl
 have HNI:Hid (∃I1 I2:List UInt8,I1=imgS 1 k.g.toNat k.on k.B∧I2=imgS 2 k.g.toNat k.on k.B):=⟨_,_,rfl,rfl⟩;obtain ⟨t1,ht1⟩:∃t1,t1=txt (imgS 1 k.g.toNat k.on k.B):=⟨_,rfl⟩;obtain ⟨t2,ht2⟩:∃t2,t2=txt (imgS 2 k.g.toNat k.on k.B):=⟨_,rfl⟩;rw [←ht1] at him1 hz1 hz15 HO1 HNew hd1 hd2;rw [←ht2] at him2 hz2 hz25 HO2 hd1 hd2;have HT1:=Hid.mk ht1;have HT2:=Hid.mk ht2;clear ht1 ht2 e0 e01 e02 HNI;have hgb:(k.g==0)=false:=by rw [beq_eq_false_iff_ne];exact hg0
 have hb15:decide ((t1.size:Int)<5)=false:=decide_eq_false (by omega);have hb25:decide ((t2.size:Int)<5)=false:=decide_eq_false (by omega);obtain ⟨m1,hm1⟩:=Int.eq_ofNat_of_zero_le (pickF_range a (t1.size:Int) (by omega)).1;obtain ⟨m2,hm2⟩:=Int.eq_ofNat_of_zero_le (pickF_range a (t2.size:Int) (by omega)).1;have hpkm1:=fun wx=>pick_is a (t1.size:Int) wx ha (by omega) (by omega)
 have hpkm2:=fun wx=>pick_is a (t2.size:Int) wx ha (by omega) (by omega)
 have hmm1:m1<t1.size:=by have:=(pickF_range a (t1.size:Int) (by omega)).2;omega
 have hmm2:m2<t2.size:=by have:=(pickF_range a (t2.size:Int) (by omega)).2;omega
 rw [hm1] at hpkm1;rw [hm2] at hpkm2;clear hm1 hm2;have HTl1:Hid (t1.data.toList.length=t1.size):=by show _=_;rw [Array.length_toList];rfl
 have HTl2:Hid (t2.data.toList.length=t2.size):=by show _=_;rw [Array.length_toList];rfl
 have HmL1:Hid (m1<t1.data.toList.length):=by show _<_;rw [HTl1.out];exact hmm1
 have HmL2:Hid (m2<t2.data.toList.length):=by show _<_;rw [HTl2.out];exact hmm2
 obtain ⟨v8,hv8⟩:∃v8:UInt8,(v8.toNat:Int)=1+yv:=⟨UInt8.ofNat (1+yv).toNat,by rw [UInt8.toNat_ofNat'];omega⟩;have hv0:v8≠0:=fun e=>by rw [e] at hv8;have:(0:Int)=1+yv:=hv8;omega
 have HV8:=Hid.mk hv8;clear hv8
 have HdT1:Hid (∀wx,Calls Tryz.prog 89 #[.string (txt (t1.data.toList.set m1 ((t1.data.toList[m1]'HmL1.out) ^^^ v8)))] wx (RDec wx ([],[],0,9))):=fun wx=>by
  obtain ⟨bd,hbd⟩:=HO1.out;have:=decode_is (txt (t1.data.toList.set m1 ((t1.data.toList[m1]'HmL1.out) ^^^ v8))) wx (by rw [txt_size,List.length_set,HTl1.out];omega);rwa [show (txt (t1.data.toList.set m1 ((t1.data.toList[m1]'HmL1.out) ^^^ v8))).data.toList=t1.data.toList.set m1 ((t1.data.toList[m1]'HmL1.out) ^^^ v8) from rfl,dec_none (turned_none hbd HmL1.out hv0)] at this
 have HdT2:Hid (∀wx,Calls Tryz.prog 89 #[.string (txt (t2.data.toList.set m2 ((t2.data.toList[m2]'HmL2.out) ^^^ v8)))] wx (RDec wx ([],[],0,9))):=fun wx=>by
  obtain ⟨bd,hbd⟩:=HO2.out;have:=decode_is (txt (t2.data.toList.set m2 ((t2.data.toList[m2]'HmL2.out) ^^^ v8))) wx (by rw [txt_size,List.length_set,HTl2.out];omega);rwa [show (txt (t2.data.toList.set m2 ((t2.data.toList[m2]'HmL2.out) ^^^ v8))).data.toList=t2.data.toList.set m2 ((t2.data.toList[m2]'HmL2.out) ^^^ v8) from rfl,dec_none (turned_none hbd HmL2.out hv0)] at this
 have HGE:=Hid.mk hGO;have HGN:=Hid.mk hgN;clear hdc hGO hgN hgs hon hgd hsh hv0;go_enter Tryz.func74,Tryz.ntmps74;go_wp2_with fail;refine (him1 _ (by (repeat (first|exact Bel.refl _|assumption|refine Bel.step_alloc ?_ _|refine Bel.step_drew ?_|refine Bel.step_drewN ?_ _|refine Bel.step_set ?_ (by simp <;>omega) _|refine Bel.trans ?_ (by assumption))))).mono ?_;rintro e w1 ⟨rfl,hb1⟩;have d7:=hb1.cell c7;clear him1;go_wp2_with fail;refine (him2 _ (by (repeat (first|exact Bel.refl _|assumption|refine Bel.step_alloc ?_ _|refine Bel.step_drew ?_|refine Bel.step_drewN ?_ _|refine Bel.step_set ?_ (by simp <;>omega) _|refine Bel.trans ?_ (by assumption))))).mono ?_;rintro e w2 ⟨rfl,hb2⟩;have hbw2:Bel w w2:=hb1.trans hb2;have e7:=hbw2.cell c7;clear him2 d7 hb1 hb2;have hg2:=hgn w2 hbw2;go_wp2_with fail;refine hg2.mono ?_;rintro e w3 ⟨rfl,rfl⟩;clear hg2;go_wp2;go_loopg [11] 2 (fun r nk wr=>∃j:Nat,nk= .int .i64 (j:Int)∧j≤2∧r=2 - j∧Bel w wr)
 case atStart=>exact ⟨0,rfl,by omega,rfl,hbw2⟩
 case round=>
  obtain ⟨j,rfl,hj,rfl,hbr⟩:=hrel;have x7:=hbr.cell c7;by_cases hj2:j<2
  ·have hjb:decide ((j:Int)<2)=true:=decide_eq_true (by omega);by_cases hj1:j=1
   ·have hj1b:((j:Int)==1)=true:=by rw [beq_iff_eq];omega
    go_wp2_with fail;refine (hd2 _).mono ?_;rintro e w4 ⟨rfl,hb4⟩;have hbw4:Bel w w4:=hbr.trans hb4;have y7:=hbw4.cell c7;have hgn4:=hgn w4 hbw4;clear hb4;go_wp2_with fail;refine hgn4.mono ?_;rintro e w5 ⟨rfl,rfl⟩;clear hgn4;have hcv4:=hcv t2 w4;go_wp2_with fail;generalize grownCap w4 t2.size 0 5=c0;have hB0:=BRow.new w4 t2 5 c0;generalize hwA:(World.alloc w4 (Obj.cells (bytesRow t2 c0) 5 ((bytesRow t2 c0).size,(bytesRow t2 c0).size+1))).drew=wA;have hBA:BRow w4.heap.size t2.data.toList wA:=by rw [←hwA];exact hB0.later (by (repeat (first|exact Bel.refl _|assumption|refine Bel.step_alloc ?_ _|refine Bel.step_drew ?_|refine Bel.step_drewN ?_ _|refine Bel.step_set ?_ (by simp <;>omega) _|refine Bel.trans ?_ (by assumption))))
    have hbA:Bel w wA:=by rw [←hwA];(repeat (first|exact Bel.refl _|assumption|refine Bel.step_alloc ?_ _|refine Bel.step_drew ?_|refine Bel.step_drewN ?_ _|refine Bel.step_set ?_ (by simp <;>omega) _|refine Bel.trans ?_ (by assumption)))
    have hw4:w.heap.size≤w4.heap.size:=hbw4.size;clear hwA hB0 hcv4;generalize w4.heap.size=gA at *;refine (hpkm2 _).mono ?_;rintro e w6 ⟨rfl,rfl⟩;go_wp2_with fail;refine (hpk2 _).mono ?_;rintro e w6 ⟨rfl,rfl⟩;have cB:=hBA.1 _ HmL2.out;have fB:=hBA.2 _ HmL2.out;have hcv2:∀V:Int,V=1+yv→(convert 105 9 (.slice (some ⟨gA,0,none⟩) t2.size c0)).run Tryz.prog (wA.setCell ⟨gA,m2,none⟩ (.int .u8 (bits .xor .u8 ((t2.data.toList[m2]'HmL2.out).toNat:Int) V)))= .ok (.string (txt (t2.data.toList.set m2 ((t2.data.toList[m2]'HmL2.out) ^^^ v8)))) (wA.setCell ⟨gA,m2,none⟩ (.int .u8 (bits .xor .u8 ((t2.data.toList[m2]'HmL2.out).toNat:Int) V))):=fun V hV=>conv_set hBA HTl2.out _ v8 V (hV.trans HV8.out.symm)
    have hcvA:=hcv2 (1+yv) rfl;have hcvB:=hcv2 ((1+yv) % 256) (by omega);have hbB:∀V:Int,Bel w (wA.setCell ⟨gA,m2,none⟩ (.int .u8 (bits .xor .u8 ((t2.data.toList[m2]'HmL2.out).toNat:Int) V))):=fun V=>Bel.step_set hbA hw4 _
    have hdT:=HdT2.out;clear hcv2 hBA;generalize (t2.data.toList[m2]'HmL2.out)=bv at *;generalize txt (t2.data.toList.set m2 (bv ^^^ v8))=tT at *;go_wp2_with fail;refine (hdT _).mono ?_;rintro e w7 ⟨rfl,hb7⟩;have HB7:Hid (Bel w w7):=Bel.trans (hbB _) hb7;clear hb7 hbB hcvA hcvB cB fB hdT;go_wp2;go_roundg (2 - (j+1))
    case measure=>omega
    case rel=>exact ⟨j+1,by go_num,by omega,rfl,HB7.out⟩
   ·have hj1b:((j:Int)==1)=false:=by rw [beq_eq_false_iff_ne];omega
    go_wp2_with fail;refine (hd1 _).mono ?_;rintro e w4 ⟨rfl,hb4⟩;have hbw4:Bel w w4:=hbr.trans hb4;have y7:=hbw4.cell c7;have hgn4:=hgn w4 hbw4;clear hb4;go_wp2_with fail;refine hgn4.mono ?_;rintro e w5 ⟨rfl,rfl⟩;clear hgn4;have hcv4:=hcv t1 w4;go_wp2_with fail;generalize grownCap w4 t1.size 0 5=c0;have hB0:=BRow.new w4 t1 5 c0;generalize hwA:(World.alloc w4 (Obj.cells (bytesRow t1 c0) 5 ((bytesRow t1 c0).size,(bytesRow t1 c0).size+1))).drew=wA;have hBA:BRow w4.heap.size t1.data.toList wA:=by rw [←hwA];exact hB0.later (by (repeat (first|exact Bel.refl _|assumption|refine Bel.step_alloc ?_ _|refine Bel.step_drew ?_|refine Bel.step_drewN ?_ _|refine Bel.step_set ?_ (by simp <;>omega) _|refine Bel.trans ?_ (by assumption))))
    have hbA:Bel w wA:=by rw [←hwA];(repeat (first|exact Bel.refl _|assumption|refine Bel.step_alloc ?_ _|refine Bel.step_drew ?_|refine Bel.step_drewN ?_ _|refine Bel.step_set ?_ (by simp <;>omega) _|refine Bel.trans ?_ (by assumption)))
    have hw4:w.heap.size≤w4.heap.size:=hbw4.size;clear hwA hB0 hcv4;generalize w4.heap.size=gA at *;refine (hpkm1 _).mono ?_;rintro e w6 ⟨rfl,rfl⟩;go_wp2_with fail;refine (hpk2 _).mono ?_;rintro e w6 ⟨rfl,rfl⟩;have cB:=hBA.1 _ HmL1.out;have fB:=hBA.2 _ HmL1.out;have hcv2:∀V:Int,V=1+yv→(convert 105 9 (.slice (some ⟨gA,0,none⟩) t1.size c0)).run Tryz.prog (wA.setCell ⟨gA,m1,none⟩ (.int .u8 (bits .xor .u8 ((t1.data.toList[m1]'HmL1.out).toNat:Int) V)))= .ok (.string (txt (t1.data.toList.set m1 ((t1.data.toList[m1]'HmL1.out) ^^^ v8)))) (wA.setCell ⟨gA,m1,none⟩ (.int .u8 (bits .xor .u8 ((t1.data.toList[m1]'HmL1.out).toNat:Int) V))):=fun V hV=>conv_set hBA HTl1.out _ v8 V (hV.trans HV8.out.symm)
    have hcvA:=hcv2 (1+yv) rfl;have hcvB:=hcv2 ((1+yv) % 256) (by omega);have hbB:∀V:Int,Bel w (wA.setCell ⟨gA,m1,none⟩ (.int .u8 (bits .xor .u8 ((t1.data.toList[m1]'HmL1.out).toNat:Int) V))):=fun V=>Bel.step_set hbA hw4 _
    have hdT:=HdT1.out;clear hcv2 hBA;generalize (t1.data.toList[m1]'HmL1.out)=bv at *;generalize txt (t1.data.toList.set m1 (bv ^^^ v8))=tT at *;go_wp2_with fail;refine (hdT _).mono ?_;rintro e w7 ⟨rfl,hb7⟩;have HB7:Hid (Bel w w7):=Bel.trans (hbB _) hb7;clear hb7 hbB hcvA hcvB cB fB hdT;go_wp2;go_roundg (2 - (j+1))
    case measure=>omega
    case rel=>exact ⟨j+1,by go_num,by omega,rfl,HB7.out⟩
  ·have hjb:decide ((j:Int)<2)=false:=decide_eq_false (by omega);have x19:=hbr.cell c19;have y19:=hbr.frozen c19 f19;have hKr:=HI.out.later hbr;have hk2:=hKr.setW (c':=k.c) (part':=k.part) (img':=t1) ((But.refl [p] wr).set (by simp) (.string t1)) (hKr.at_.set 19 _) hKr.cok (by omega);have HK2:=Hid.mk hk2;clear hKr;by_cases hne:k.img.toList=[]
   ·have hie:=(nil_beq k.img).1 hne;clear hk2;go_wp2;go_ret;exact ⟨t1,rfl,HK2.out,HNew.out⟩
   have hie:=(nil_beq k.img).2 hne;obtain ⟨g1,B1,hg1,hEq,hB1⟩:=HPat.out hne;obtain ⟨p1,p2,p3,p4⟩:=HPat2.out g1 B1 hg1;have han0:=fun wx (b':Bel (wr.setCell ⟨p,19,none⟩ (.string t1)) wx)=>HAn _ wx (hk2.later b') rfl g1 B1 hg1
   have hPs:(txt (patS k.on g1 B1 k.g.toNat k.B)).size≤16777216:=by rw [txt_size];exact p4
   have hpa:=fun wx=>spatch_is k.img t2 wx (by omega) (by omega)
   rw [show k.img.data.toList=imgS 1 g1 k.on B1 by rw [hEq];rfl,show t2.data.toList=imgS 2 k.g.toNat k.on k.B by rw [HT2.out];rfl,p1] at hpa;have hap1:=fun wx=>sapply_is (txt (patS k.on g1 B1 k.g.toNat k.B)) k.img wx (by omega) (by omega)
   have hap2:=fun wx=>sapply_is (txt (patS k.on g1 B1 k.g.toNat k.B)) t1 wx (by omega) (by omega)
   rw [show (txt (patS k.on g1 B1 k.g.toNat k.B)).data.toList=patS k.on g1 B1 k.g.toNat k.B from rfl,show k.img.data.toList=imgS 1 g1 k.on B1 by rw [hEq];rfl,p2] at hap1;rw [show (txt (patS k.on g1 B1 k.g.toNat k.B)).data.toList=patS k.on g1 B1 k.g.toNat k.B from rfl,show t1.data.toList=imgS 1 k.g.toNat k.on k.B by rw [HT1.out];rfl] at hap2
   have HSame:Hid (g1=k.g.toNat→k.img=t1):=fun e=>by
    have:B1=k.B:=hB1 (by rw [e];exact HGN.out);rw [hEq,HT1.out,e,this]
   have hq3:g1≠k.g.toNat→(applyF (patS k.on g1 B1 k.g.toNat k.B) (imgS 1 k.g.toNat k.on k.B)).2=10:=p3;generalize applyF (patS k.on g1 B1 k.g.toNat k.B) (imgS 1 k.g.toNat k.on k.B)=A2 at *;obtain ⟨A2,AE2⟩:=A2;unfold RTxE at hpa hap1 hap2;dsimp only at hpa hap1 hap2 hq3;rw [←HT1.out] at hap1;rw [←hEq] at han0;have HQ3:=Hid.mk hq3;clear p1 p2 p3 p4 hk2 hq3 hEq hg1 hB1 HAn;generalize txt (patS k.on g1 B1 k.g.toNat k.B)=tp at *;go_wp2_with fail;refine (hpa _).mono ?_;rintro e w4 ⟨rfl,hb4⟩;go_wp2_with fail;refine (hap1 _).mono ?_;rintro e w5 ⟨rfl,hb5⟩;have hb45:=hb4.trans hb5;go_wp2_with fail;refine (hap2 _).mono ?_;rintro e w6 ⟨rfl,hb6⟩;have hb46:=hb45.trans hb6;have han6:=han0 w6 hb46;clear han0 hpa hap1 hap2;by_cases hA2:AE2=10
   ·have hne2:(AE2 !=10)=false:=by rw [bne_eq_false_iff_eq];exact hA2
    go_wp2_with fail;refine han6.mono ?_;rintro e w7 ⟨rfl,hb7⟩;have HB7:=Hid.mk (hb46.trans hb7);clear han6;go_wp2;go_ret;exact ⟨t1,rfl,HK2.out.later HB7.out,HNew.out⟩
   ·have hne2:(AE2 !=10)=true:=by rw [bne_iff_ne];exact hA2
    have hsame : k.img = t1 := HSame.out (by
      by_cases e : g1 = k.g.toNat
      · exact e
      · exact absurd (HQ3.out e) hA2)
    have hg2:(k.img.toList==t1.toList)=true:=by rw [hsame];exact beq_self_eq_true _
    have HSM:=Hid.mk hsame;clear hsame;go_wp2_with fail;refine han6.mono ?_;rintro e w7 ⟨rfl,hb7⟩;have HB7:=Hid.mk (hb46.trans hb7);clear han6;go_wp2;go_ret;exact ⟨t1,rfl,HK2.out.later HB7.out,HNew.out⟩
end Go.Proofs.YtpapdkhjdelfcabGreat

namespace Go.Proofs.YtpapdkhjdelfcabGreat
open Go.RowKit
theorem step_bytes (W0:World) (p s:Nat) (k:KI) (a b c:Int) (S:ByteArray) (w:World) (h:KInv W0 p s k w) (hR:k.Rdy s) (hs:s≤65600) (ha:I64 a) (hb:I64 b):
  Calls Tryz.prog 36 #[.pointer (some ⟨p,0,none⟩),opV 13 a b c S] w (RStep W0 p (s+1) FS):=by
 have hwr:=fun wx (b':Bel w wx)=>kwritten_is (h.later b') hs hR.2.2.2.2.1 a b ha hb
 have hplt:=h.at_.lt (by rw [wl_len];decide);have HR:=Hid.mk hR;clear h hR;unfold opV;go_enter Tryz.func36,Tryz.ntmps36;go_wp2_with fail;refine (hwr _ (by (repeat (first|exact Bel.refl _|assumption|refine Bel.step_alloc ?_ _|refine Bel.step_drew ?_|refine Bel.step_drewN ?_ _|refine Bel.step_set ?_ (by simp <;>omega) _|refine Bel.trans ?_ (by assumption))))).mono ?_;rintro e w2 ⟨img',rfl,hk2,hI2⟩;have HK:=Hid.mk hk2;have HI2:=Hid.mk hI2;clear hwr hk2 hI2;go_wp2;go_ret;exact Or.inl ⟨rfl,_,HK.out.up (by omega),⟨HR.out.1,HR.out.2.1,Nat.le_trans HR.out.2.2.1 (Nat.mul_le_mul_right _ (Nat.le_succ s)),HR.out.2.2.2.1,HI2.out,HR.out.2.2.2.2.2⟩⟩
theorem step_all (W0:World) (p s:Nat) (k:KI) (kd a b c:Int) (S:ByteArray) (w:World) (h:KInv W0 p s k w) (hR:k.Rdy s) (hs:s≤65600) (ha:I64 a) (hb:I64 b) (hc:I64 c) (hS:S.size≤maxLen):
  Calls Tryz.prog 36 #[.pointer (some ⟨p,0,none⟩),opV kd a b c S] w (RStep W0 p (s+1) FS):=by
 by_cases k1:kd=1
 ·subst k1;exact step_num W0 p s k a b c S w h hR ha hb
 by_cases k2:kd=2
 ·subst k2;exact step_key W0 p s k a b c S w h hR
 by_cases k3:kd=3
 ·subst k3;exact step_new W0 p s k a b c S w h hR
 by_cases k4:kd=4
 ·subst k4;exact step_delta W0 p s k a b c S w h hR hs ha hb hS
 by_cases k5:kd=5
 ·subst k5;exact step_drop W0 p s k a b c S w h hR
 by_cases k6:kd=6
 ·subst k6;exact step_join W0 p s k a b c S w h hR ha
 by_cases k12:kd=12
 ·subst k12;exact step_same W0 p s k a b c S w h hR
 by_cases k13:kd=13
 ·subst k13;exact step_bytes W0 p s k a b c S w h hR hs ha hb
 by_cases hpp:k.pp.length=0
 ·exact step_none W0 p s k kd a b c S w h hR hpp ⟨by omega,k12,k13⟩
 have hpp':0<k.pp.length:=by omega
 by_cases k7:kd=7
 ·subst k7;exact step_round W0 p s k a b c S w h hR hs hpp' ha
 by_cases k8:kd=8
 ·subst k8;exact step_old W0 p s k a b c S w h hR hs hpp' ha hb
 by_cases k9:kd=9
 ·subst k9;exact step_burst W0 p s k a b c S w h hR hs hpp' ha hb hc
 by_cases k10:kd=10
 ·subst k10;exact step_restart W0 p s k a b c S w h hR hs hpp' ha
 by_cases k11:kd=11
 ·subst k11;exact step_soon W0 p s k a b c S w h hR hs hpp' ha hb
 exact step_else W0 p s k kd a b c S w h hR hs hpp' ha (by omega)
end Go.Proofs.YtpapdkhjdelfcabGreat
