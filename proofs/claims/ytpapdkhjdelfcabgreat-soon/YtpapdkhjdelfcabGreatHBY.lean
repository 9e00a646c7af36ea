import Derived.Test.YtpapdkhjdelfcabGreatHBX
import Derived.Test.YtpapdkhjdelfcabGreatHBW
import Derived.Test.YtpapdkhjdelfcabGreatHBS
import Derived.Test.YtpapdkhjdelfcabGreatHBN
set_option maxRecDepth 100000
set_option maxHeartbeats 4000000
namespace Go.Proofs.YtpapdkhjdelfcabGreat
open Go.RowKit
theorem step_old (W0:World) (p s:Nat) (k:KI) (a b c:Int) (S:ByteArray) (w:World) (h:KInv W0 p s k w) (hR:k.Rdy s) (hs:s≤65600) (hpp:0<k.pp.length) (ha:I64 a) (hb:I64 b):
  Calls Tryz.prog 36 #[.pointer (some ⟨p,0,none⟩),opV 8 a b c S] w (RStep W0 p (s+1) FSt):=by
 have hhl:=h.hdn hR;have hle4:k.pp.length≤4:=h.svc.le4;have hpk:=fun wx=>pick_is a (k.hd.length:Int) wx ha (by omega) (by omega)
 obtain ⟨h1,h2⟩:=pickF_range a (k.hd.length:Int) (by omega);obtain ⟨n,hn⟩:=Int.eq_ofNat_of_zero_le h1;rw [hn] at hpk h2;have hnl:n<k.pp.length:=by omega
 obtain ⟨gh,ch,hvh, -, -⟩:=World.ownsRow.form h.held (by omega:0<k.hd.length);have c17:w.cell? ⟨p,17,none⟩=some (.slice (some ⟨gh,0,none⟩) k.hd.length ch):=by rw [←hvh];exact h.at_.1 17 _ rfl
 have c7:=h.at_.1 7 _ rfl;have hplt:=h.at_.lt (by rw [wl_len];decide);have hp0:=(h.lt p (h.inM p h.p_in)).1;have hlz:((k.hd.length:Int)==0)=false:=by rw [beq_eq_false_iff_ne];omega
 have hfb:k.fb≤800000000000:=hR.fb8 hs;have HI:=Hid.mk h;have hcl:=fun wx (b':Bel w wx)=>kold_is (h.later b') hs hnl (Nat.le_trans hfb (by decide)) b hb
 clear h h1 hn;have HR:=Hid.mk hR;have HHL:=Hid.mk hhl;have HNL:=Hid.mk hnl;have HS:=Hid.mk hs;clear hR hhl hnl hs hle4 hpp h2 hfb;unfold opV;go_enter Tryz.func36,Tryz.ntmps36;go_wp2_with fail;go_region_held3 (fun w'=>Bel w w'∧w'.cell? ⟨p,17,none⟩=some (.slice (some ⟨gh,0,none⟩) k.hd.length ch)∧w'.cell? ⟨w.heap.size,1,none⟩=some (.int .i64 a)) ((exact ⟨by (repeat (first|exact Bel.refl _|assumption|refine Bel.step_alloc ?_ _|refine Bel.step_drew ?_|refine Bel.step_drewN ?_ _|refine Bel.step_set ?_ (by simp <;>omega) _|refine Bel.trans ?_ (by assumption))),Bel.cell (a:=w) (by (repeat (first|exact Bel.refl _|assumption|refine Bel.step_alloc ?_ _|refine Bel.step_drew ?_|refine Bel.step_drewN ?_ _|refine Bel.step_set ?_ (by simp <;>omega) _|refine Bel.trans ?_ (by assumption)))) c17,by simp⟩)) ((go_at_call 70;refine (hpk _).mono ?_;rintro e w2 ⟨rfl,rfl⟩))
 all_goals clear hpk
 go_wp2_with fail;refine (hcl _ (by (repeat (first|exact Bel.refl _|assumption|refine Bel.step_alloc ?_ _|refine Bel.step_drew ?_|refine Bel.step_drewN ?_ _|refine Bel.step_set ?_ (by simp <;>omega) _|refine Bel.trans ?_ (by assumption))))).mono ?_;rintro e w2 ⟨rfl,k2,hk2,hT2, -⟩;have x17:w2.cell? ⟨p,17,none⟩=some (.slice (some ⟨gh,0,none⟩) k.hd.length ch):=by rw [←hvh,←hT2.vh];exact hk2.at_.1 17 _ rfl
 have hst:=kstands_is hk2 HS.out (by rw [hT2.dh];exact HR.out.2.1) (n:=n) (by rw [hT2.len];exact HNL.out) (hT2.tr HR.out.2.2.2.2.2);clear hk2 hcl;go_wp2_with fail;refine hst.mono ?_;rintro e w3 ⟨hd',rfl,hk3,hTr3⟩;have HK3:=Hid.mk hk3;have HTR3:=Hid.mk hTr3;clear hst hk3 hTr3;go_wp2;go_ret;exact Or.inl ⟨rfl,_,RStand.up HK3.out HR.out hT2 (by decide) HTR3.out⟩
end Go.Proofs.YtpapdkhjdelfcabGreat
namespace Go.Proofs.YtpapdkhjdelfcabGreat
open Go.RowKit
theorem step_burst (W0:World) (p s:Nat) (k:KI) (a b c:Int) (S:ByteArray) (w:World) (h:KInv W0 p s k w) (hR:k.Rdy s) (hs:s≤65600) (hpp:0<k.pp.length) (ha:I64 a) (hb:I64 b) (hc:I64 c):
  Calls Tryz.prog 36 #[.pointer (some ⟨p,0,none⟩),opV 9 a b c S] w (RStep W0 p (s+1) FSt):=by
 have hhl:=h.hdn hR;have hle4:k.pp.length≤4:=h.svc.le4;have hpk:=fun wx=>pick_is a (k.hd.length:Int) wx ha (by omega) (by omega)
 obtain ⟨h1,h2⟩:=pickF_range a (k.hd.length:Int) (by omega);obtain ⟨n,hn⟩:=Int.eq_ofNat_of_zero_le h1;rw [hn] at hpk h2;have hnl:n<k.pp.length:=by omega
 obtain ⟨gh,ch,hvh, -, -⟩:=World.ownsRow.form h.held (by omega:0<k.hd.length);have c17:w.cell? ⟨p,17,none⟩=some (.slice (some ⟨gh,0,none⟩) k.hd.length ch):=by rw [←hvh];exact h.at_.1 17 _ rfl
 have c7:=h.at_.1 7 _ rfl;have hplt:=h.at_.lt (by rw [wl_len];decide);have hp0:=(h.lt p (h.inM p h.p_in)).1;have hlz:((k.hd.length:Int)==0)=false:=by rw [beq_eq_false_iff_ne];omega
 have hfb:k.fb≤800000000000:=hR.fb8 hs;have HI:=Hid.mk h;have hcl:=fun wx (b':Bel w wx)=>kburst_is (h.later b') hs hnl (Nat.le_trans hfb (by decide)) hR.2.2.2.1 b c S hb hc
 clear h h1 hn;have HR:=Hid.mk hR;have HHL:=Hid.mk hhl;have HNL:=Hid.mk hnl;have HS:=Hid.mk hs;clear hR hhl hnl hs hle4 hpp h2 hfb;unfold opV;go_enter Tryz.func36,Tryz.ntmps36;go_wp2_with fail;go_region_held3 (fun w'=>Bel w w'∧w'.cell? ⟨p,17,none⟩=some (.slice (some ⟨gh,0,none⟩) k.hd.length ch)∧w'.cell? ⟨w.heap.size,1,none⟩=some (.int .i64 a)) ((exact ⟨by (repeat (first|exact Bel.refl _|assumption|refine Bel.step_alloc ?_ _|refine Bel.step_drew ?_|refine Bel.step_drewN ?_ _|refine Bel.step_set ?_ (by simp <;>omega) _|refine Bel.trans ?_ (by assumption))),Bel.cell (a:=w) (by (repeat (first|exact Bel.refl _|assumption|refine Bel.step_alloc ?_ _|refine Bel.step_drew ?_|refine Bel.step_drewN ?_ _|refine Bel.step_set ?_ (by simp <;>omega) _|refine Bel.trans ?_ (by assumption)))) c17,by simp⟩)) ((go_at_call 70;refine (hpk _).mono ?_;rintro e w2 ⟨rfl,rfl⟩))
 all_goals clear hpk
 go_wp2_with fail;refine (hcl _ (by (repeat (first|exact Bel.refl _|assumption|refine Bel.step_alloc ?_ _|refine Bel.step_drew ?_|refine Bel.step_drewN ?_ _|refine Bel.step_set ?_ (by simp <;>omega) _|refine Bel.trans ?_ (by assumption))))).mono ?_;rintro e w2 ⟨k2,rfl,hk2,hT2⟩;have x17:w2.cell? ⟨p,17,none⟩=some (.slice (some ⟨gh,0,none⟩) k.hd.length ch):=by rw [←hvh,←hT2.vh];exact hk2.at_.1 17 _ rfl
 have hst:=kstands_is hk2 HS.out (by rw [hT2.dh];exact HR.out.2.1) (n:=n) (by rw [hT2.len];exact HNL.out) (hT2.tr HR.out.2.2.2.2.2);clear hk2 hcl;go_wp2_with fail;refine hst.mono ?_;rintro e w3 ⟨hd',rfl,hk3,hTr3⟩;have HK3:=Hid.mk hk3;have HTR3:=Hid.mk hTr3;clear hst hk3 hTr3;go_wp2;go_ret;exact Or.inl ⟨rfl,_,RStand.up HK3.out HR.out hT2 (by decide) HTR3.out⟩
end Go.Proofs.YtpapdkhjdelfcabGreat
namespace Go.Proofs.YtpapdkhjdelfcabGreat
open Go.RowKit
theorem step_soon (W0:World) (p s:Nat) (k:KI) (a b c:Int) (S:ByteArray) (w:World) (h:KInv W0 p s k w) (hR:k.Rdy s) (hs:s≤65600) (hpp:0<k.pp.length) (ha:I64 a) (hb:I64 b):
  Calls Tryz.prog 36 #[.pointer (some ⟨p,0,none⟩),opV 11 a b c S] w (RStep W0 p (s+1) FSt):=by
 have hhl:=h.hdn hR;have hle4:k.pp.length≤4:=h.svc.le4;have hpk:=fun wx=>pick_is a (k.hd.length:Int) wx ha (by omega) (by omega)
 obtain ⟨h1,h2⟩:=pickF_range a (k.hd.length:Int) (by omega);obtain ⟨n,hn⟩:=Int.eq_ofNat_of_zero_le h1;rw [hn] at hpk h2;have hnl:n<k.pp.length:=by omega
 obtain ⟨gh,ch,hvh, -, -⟩:=World.ownsRow.form h.held (by omega:0<k.hd.length);have c17:w.cell? ⟨p,17,none⟩=some (.slice (some ⟨gh,0,none⟩) k.hd.length ch):=by rw [←hvh];exact h.at_.1 17 _ rfl
 have c7:=h.at_.1 7 _ rfl;have hplt:=h.at_.lt (by rw [wl_len];decide);have hp0:=(h.lt p (h.inM p h.p_in)).1;have hlz:((k.hd.length:Int)==0)=false:=by rw [beq_eq_false_iff_ne];omega
 have hfb:k.fb≤800000000000:=hR.fb8 hs;have HI:=Hid.mk h;have hcl:=fun wx (b':Bel w wx)=>klatest_is (h.later b') hs hR.1 hnl hfb hR.2.2.2.2.2 b hb
 clear h h1 hn;have HR:=Hid.mk hR;have HHL:=Hid.mk hhl;have HNL:=Hid.mk hnl;have HS:=Hid.mk hs;clear hR hhl hnl hs hle4 hpp h2 hfb;unfold opV;go_enter Tryz.func36,Tryz.ntmps36;go_wp2_with fail;go_region_held3 (fun w'=>Bel w w'∧w'.cell? ⟨p,17,none⟩=some (.slice (some ⟨gh,0,none⟩) k.hd.length ch)∧w'.cell? ⟨w.heap.size,1,none⟩=some (.int .i64 a)) ((exact ⟨by (repeat (first|exact Bel.refl _|assumption|refine Bel.step_alloc ?_ _|refine Bel.step_drew ?_|refine Bel.step_drewN ?_ _|refine Bel.step_set ?_ (by simp <;>omega) _|refine Bel.trans ?_ (by assumption))),Bel.cell (a:=w) (by (repeat (first|exact Bel.refl _|assumption|refine Bel.step_alloc ?_ _|refine Bel.step_drew ?_|refine Bel.step_drewN ?_ _|refine Bel.step_set ?_ (by simp <;>omega) _|refine Bel.trans ?_ (by assumption)))) c17,by simp⟩)) ((go_at_call 70;refine (hpk _).mono ?_;rintro e w2 ⟨rfl,rfl⟩))
 all_goals clear hpk
 go_wp2_with fail;refine (hcl _ (by (repeat (first|exact Bel.refl _|assumption|refine Bel.step_alloc ?_ _|refine Bel.step_drew ?_|refine Bel.step_drewN ?_ _|refine Bel.step_set ?_ (by simp <;>omega) _|refine Bel.trans ?_ (by assumption))))).mono ?_;rintro e w2 ⟨k2,rfl,hk2,hT2⟩;have x17:w2.cell? ⟨p,17,none⟩=some (.slice (some ⟨gh,0,none⟩) k.hd.length ch):=by rw [←hvh,←hT2.vh];exact hk2.at_.1 17 _ rfl
 have hst:=kstands_is hk2 HS.out (by rw [hT2.dh];exact HR.out.2.1) (n:=n) (by rw [hT2.len];exact HNL.out) (hT2.tr HR.out.2.2.2.2.2);clear hk2 hcl;go_wp2_with fail;refine hst.mono ?_;rintro e w3 ⟨hd',rfl,hk3,hTr3⟩;have HK3:=Hid.mk hk3;have HTR3:=Hid.mk hTr3;clear hst hk3 hTr3;go_wp2;go_ret;exact Or.inl ⟨rfl,_,RStand.up HK3.out HR.out hT2 (by decide) HTR3.out⟩
end Go.Proofs.YtpapdkhjdelfcabGreat
namespace Go.Proofs.YtpapdkhjdelfcabGreat
open Go.RowKit
theorem step_restart (W0:World) (p s:Nat) (k:KI) (a b c:Int) (S:ByteArray) (w:World) (h:KInv W0 p s k w) (hR:k.Rdy s) (hs:s≤65600) (hpp:0<k.pp.length) (ha:I64 a):
  Calls Tryz.prog 36 #[.pointer (some ⟨p,0,none⟩),opV 10 a b c S] w (RStep W0 p (s+1) FSt):=by
 have hhl:=h.hdn hR;have hle4:k.pp.length≤4:=h.svc.le4;have hpk:=fun wx=>pick_is a (k.hd.length:Int) wx ha (by omega) (by omega)
 obtain ⟨h1,h2⟩:=pickF_range a (k.hd.length:Int) (by omega);obtain ⟨n,hn⟩:=Int.eq_ofNat_of_zero_le h1;rw [hn] at hpk h2;have hnl:n<k.pp.length:=by omega
 obtain ⟨gh,ch,hvh, -, -⟩:=World.ownsRow.form h.held (by omega:0<k.hd.length);have c17:w.cell? ⟨p,17,none⟩=some (.slice (some ⟨gh,0,none⟩) k.hd.length ch):=by rw [←hvh];exact h.at_.1 17 _ rfl
 have c7:=h.at_.1 7 _ rfl;have hplt:=h.at_.lt (by rw [wl_len];decide);have hp0:=(h.lt p (h.inM p h.p_in)).1;have hlz:((k.hd.length:Int)==0)=false:=by rw [beq_eq_false_iff_ne];omega
 have hfb:k.fb≤800000000000:=hR.fb8 hs;have HI:=Hid.mk h;have hcl:=fun wx (b':Bel w wx)=>krestart_is (h.later b') hnl
 clear h h1 hn;have HR:=Hid.mk hR;have HHL:=Hid.mk hhl;have HNL:=Hid.mk hnl;have HS:=Hid.mk hs;clear hR hhl hnl hs hle4 hpp h2 hfb;unfold opV;go_enter Tryz.func36,Tryz.ntmps36;go_wp2_with fail;go_region_held3 (fun w'=>Bel w w'∧w'.cell? ⟨p,17,none⟩=some (.slice (some ⟨gh,0,none⟩) k.hd.length ch)∧w'.cell? ⟨w.heap.size,1,none⟩=some (.int .i64 a)) ((exact ⟨by (repeat (first|exact Bel.refl _|assumption|refine Bel.step_alloc ?_ _|refine Bel.step_drew ?_|refine Bel.step_drewN ?_ _|refine Bel.step_set ?_ (by simp <;>omega) _|refine Bel.trans ?_ (by assumption))),Bel.cell (a:=w) (by (repeat (first|exact Bel.refl _|assumption|refine Bel.step_alloc ?_ _|refine Bel.step_drew ?_|refine Bel.step_drewN ?_ _|refine Bel.step_set ?_ (by simp <;>omega) _|refine Bel.trans ?_ (by assumption)))) c17,by simp⟩)) ((go_at_call 70;refine (hpk _).mono ?_;rintro e w2 ⟨rfl,rfl⟩))
 all_goals clear hpk
 go_wp2_with fail;refine (hcl _ (by (repeat (first|exact Bel.refl _|assumption|refine Bel.step_alloc ?_ _|refine Bel.step_drew ?_|refine Bel.step_drewN ?_ _|refine Bel.step_set ?_ (by simp <;>omega) _|refine Bel.trans ?_ (by assumption))))).mono ?_;rintro e w2 ⟨rfl,M2,pp2,hk2,hl2,hTr2⟩;have hnk:n<k.hd.length:=by rw [HHL.out];exact HNL.out
 have hrow:=hk2.held;have hvh2:({k with M:=M2,pp:=pp2}:KI).vh= .slice (some ⟨gh,0,none⟩) k.hd.length ch:=hvh;rw [hvh2] at hrow
 have hc2:w2.cell? ⟨gh,n,none⟩=some (.int .i64 k.hd[n]):=by
  have hc:=World.ownsRow.cellAt hrow n (by simpa using hnk);rw [hc];simp [hnk]
 have hf2:w2.frozen? ⟨gh,n,none⟩=false:=World.ownsRow.frozenAt hrow n;have x17:w2.cell? ⟨p,17,none⟩=some (.slice (some ⟨gh,0,none⟩) k.hd.length ch):=by rw [←hvh];exact hk2.at_.1 17 _ rfl
 have hk3:=hk2.note hvh2 hnk (x:=0) (by omega);have hst:=kstands_is hk3 HS.out HR.out.2.1 (n:=n) (by show n<pp2.length;rw [hl2];exact HNL.out) (hTr2 HR.out.2.2.2.2.2);clear hk2 hcl hrow hk3 hTr2;go_wp2_with fail;refine hst.mono ?_;rintro e w3 ⟨hd',rfl,hk3,hTr3⟩;have HK3:=Hid.mk hk3;have HTR3:=Hid.mk hTr3;clear hst hk3 hTr3;go_wp2;go_ret;exact Or.inl ⟨rfl,_,HK3.out.up (by omega),HR.out.1,HR.out.2.1,Nat.le_trans HR.out.2.2.1 (Nat.mul_le_mul_right _ (Nat.le_succ s)),HR.out.2.2.2.1,HR.out.2.2.2.2.1,HTR3.out⟩
end Go.Proofs.YtpapdkhjdelfcabGreat
namespace Go.Proofs.YtpapdkhjdelfcabGreat
open Go.RowKit
theorem crc_low (y:BitVec 32):bits .and .u32 (y.toNat:Int) 1=((y.toNat % 2:Nat):Int):=by
 have hy:=y.isLt;rw [show (1:Int)=((1:Nat):Int) from rfl,u32_and_nat _ _ (by omega) (by omega),Nat.and_one_is_mod]
theorem cStep_nat (y:BitVec 32):(cStep y).toNat=y.toNat / 2 ^^^ (3988292384 * (y.toNat % 2)):=by
 have hy:=y.isLt;unfold cStep;rw [BitVec.toNat_xor,BitVec.toNat_ushiftRight,Nat.shiftRight_eq_div_pow]
 have h0:y.getLsbD 0=(y.toNat % 2==1):=by
  rw [BitVec.getLsbD,Nat.testBit_zero];rcases Nat.mod_two_eq_zero_or_one y.toNat with h|h <;>simp [h]
 rw [h0];rcases Nat.mod_two_eq_zero_or_one y.toNat with h|h <;>simp [h]
theorem crc_one {y:BitVec 32} (h:y.toNat % 2=1):bits .xor .u32 ((y.toNat:Int) / 2) 3988292384=((cStep y).toNat:Int):=by
 have hy:=y.isLt;have e1:((y.toNat:Int) / 2)=((y.toNat / 2:Nat):Int):=by omega
 rw [e1,show (3988292384:Int)=((3988292384:Nat):Int) from rfl,u32_xor_nat _ _ (by omega) (by omega),cStep_nat,h]
theorem crc_nil {y:BitVec 32} (h:y.toNat % 2=0):((y.toNat:Int) / 2)=((cStep y).toNat:Int):=by
 rw [cStep_nat,h];simp
theorem kcrc_is (t:ByteArray) (w:World) (ht:t.size≤1099511627776):
  Calls Tryz.prog 180 #[.string t] w (RCrc w (crcB t.data.toList)):=by
 have hz:Hid (t.data.toList.length=t.size):=by show _=_;rw [Array.length_toList];rfl
 go_enter Tryz.func180,Tryz.ntmps180;go_wp2;go_loopg [3,4] t.size (fun r x d wr=>w=wr∧∃k:Nat,r=t.size - k∧k≤t.size∧x= .int .u32 (((t.data.toList.take k).foldl cByte 0xFFFFFFFF#32).toNat:Int)∧d= .int .i64 (k:Int))
 case atStart=>exact ⟨rfl,0,rfl,by omega,rfl,rfl⟩
 case round=>
  obtain ⟨rfl,k,hr,hk,rfl,rfl⟩:=hrel;by_cases hlt:k<t.size
  ·have hft:Hid ((t.data.toList.take (k+1)).foldl cByte 0xFFFFFFFF#32=cByte ((t.data.toList.take k).foldl cByte 0xFFFFFFFF#32) (t[k]'hlt)):=fold_take t.data.toList k (by rw [hz.out];exact hlt) _;generalize (t.data.toList.take k).foldl cByte 0xFFFFFFFF#32=c at *;go_wp2;go_loopg [3,5] 8 (fun r x d wr=>w=wr∧∃j:Nat,r=8 - j∧j≤8∧x= .int .u32 ((stepN (c ^^^ BitVec.ofNat 32 (t[k]'hlt).toNat) j).toNat:Int)∧d= .int .i64 (j:Int))
   case atStart=>exact ⟨rfl,0,rfl,by omega,by rw [crc_xor];rfl,rfl⟩
   case round=>
    obtain ⟨rfl,j,hr2,hj,rfl,rfl⟩:=hrel;by_cases hj8:j<8
    ·have hst:Hid (stepN (c ^^^ BitVec.ofNat 32 (t[k]'hlt).toNat) (j+1)=cStep (stepN (c ^^^ BitVec.ofNat 32 (t[k]'hlt).toNat) j)):=rfl;generalize stepN (c ^^^ BitVec.ofNat 32 (t[k]'hlt).toNat) j=y at *;rcases Nat.mod_two_eq_zero_or_one y.toNat with h2|h2
     ·have hlow:(bits .and .u32 (y.toNat:Int) 1==1)=false:=by rw [crc_low,h2];rfl
      have HS:=Hid.mk (crc_nil h2);go_wp2;go_roundg (8 - (j+1))
      case measure=>omega
      case rel=>exact ⟨rfl,j+1,rfl,by omega,by rw [hst.out,←HS.out],by go_num⟩
     ·have hlow:(bits .and .u32 (y.toNat:Int) 1==1)=true:=by rw [crc_low,h2];rfl
      have HS:=Hid.mk (crc_one h2);go_wp2;go_roundg (8 - (j+1))
      case measure=>omega
      case rel=>exact ⟨rfl,j+1,rfl,by omega,by rw [hst.out,←HS.out],by go_num⟩
    ·obtain rfl:j=8:=by omega
     rw [←cByte_step,←hft.out];go_wp2;go_roundg (t.size - (k+1))
     case measure=>omega
     case rel=>exact ⟨rfl,k+1,rfl,by omega,rfl,by go_num⟩
  ·have he:Hid (t.data.toList.take k=t.data.toList):=List.take_of_length_le (by rw [hz.out];omega);go_wp2;go_ret;refine ⟨?_,rfl⟩;show Ending.returned (.int .u32 (bits .xor .u32 _ 4294967295))=_;have:=crc_xor ((t.data.toList.take k).foldl cByte 0xFFFFFFFF#32) 4294967295;rw [show (((4294967295:Nat):Int) % 4294967296)=4294967295 from rfl] at this;rw [this,he.out];rfl
theorem decF_len4 {l:List UInt8} (h:(decF l).2.2.2=0):4<l.length:=by
 unfold decF at h;split at h
 ·rename_i hi;unfold imageP openB at hi;by_cases hl:l.length≤4
  ·rw [if_pos hl] at hi;simp at hi
  ·omega
 ·simp at h
def AnI (w:World) (q2:Nat) (on:Cfg) (i:Nat) (wr:World):Prop:=∃(Bx:List BK) (gx:Nat),SvcAt (.slice none 0 0) [q2] q2 on Bx (gx:Int) wr∧Good Bx∧Bel w wr∧gx≤i
def RAny (w:World) (e:Ending) (w':World):Prop:=∃b,e= .returned (.bool b)∧Bel w w'
end Go.Proofs.YtpapdkhjdelfcabGreat
namespace Go.Proofs.YtpapdkhjdelfcabGreat
open Go.RowKit
def anB:Nat→List BK
 |0=>[]
 |j+1=>[(tt,1+((j % 2:Nat):Int))]
theorem tt_at (x:Int):atName tt [(tt,x)]=0:=by
 unfold atName;rw [List.findIdx_cons];simp
theorem an_add:addE [] tt 1=0∧addB [] tt 1=anB 1:=⟨by decide+kernel,rfl⟩
theorem an_set (j:Nat) (x:Int):setE [(tt,x)] tt (1+((j % 2:Nat):Int))=0∧setB [(tt,x)] tt (1+((j % 2:Nat):Int))=anB (j+1):=by
 have h:setE [(tt,x)] tt (1+((j % 2:Nat):Int))=0:=by
  unfold setE;rw [if_neg (by omega),tt_at,if_pos (by simp)]
 refine ⟨h,?_⟩;unfold setB;rw [if_pos h,tt_at];rfl
theorem anB_good (j:Nat):Good (anB j):=by
 cases j with
 |zero=>exact Good.nil
 |succ j=>
  refine ⟨⟨by simp [anB],fun b hb=>?_⟩,List.pairwise_singleton _ _⟩;rw [List.mem_singleton.1 hb];exact ⟨by show 1≤tt.size;decide,by show tt.size≤8;decide,by show (0:Int)≤1+((j % 2:Nat):Int);omega,by show 1+((j % 2:Nat):Int)≤6;omega⟩
def AnJ (w:World) (q2:Nat) (on:Cfg) (j:Nat) (wr:World):Prop:=SvcAt (.slice none 0 0) [q2] q2 on (anB j) (j:Int) wr∧Bel w wr
theorem kanother_is {W0:World} {p s:Nat} {k:KI} {w:World} (h:KInv W0 p s k w) {g1 g2:Nat} {B1 B2:List BK} (h1:GenOK k.on g1 B1) (h2:GenOK k.on g2 B2):
  Calls Tryz.prog 134 #[.pointer (some ⟨p,0,none⟩),.string (txt (patS k.on g1 B1 g2 B2)),.string (txt (imgS 1 g1 k.on B1))] w fun e w'=>e= .returned (.bool true)∧Bel w w':=by
 have hPs:(txt (patS k.on g1 B1 g2 B2)).size≤16777216:=by rw [txt_size];exact patchB_len h2.2.1.1 (by have:=mkF_short h2.1 h2.2.1;rw [List.length_take,List.length_drop];omega)
 have hOs:(txt (imgS 1 g1 k.on B1)).size≤16777216:=by rw [txt_size];exact imageB_len ((Cfg.ok_iff k.on).1 h1.1).1 h1.2.1.1 (by have:=mkF_short h1.1 h1.2.1;omega)
 have hO5:5≤(txt (imgS 1 g1 k.on B1)).size:=by rw [txt_size];exact imgS_len _ _ _ _
 have hdc:=fun wx=>decode_is (txt (imgS 1 g1 k.on B1)) wx (by omega)
 rw [show (txt (imgS 1 g1 k.on B1)).data.toList=imgS 1 g1 k.on B1 from rfl,dec_img ⟨by omega,by omega⟩ h1] at hdc;have honOK:=h.onok;have hnw:=fun wx=>new_is k.on wx honOK
 have c8:=h.at_.1 8 _ rfl;have c9:=h.at_.1 9 _ rfl;have c10:=h.at_.1 10 _ rfl;have c11:=h.at_.1 11 _ rfl;have c12:=h.at_.1 12 _ rfl;have c13:=h.at_.1 13 _ rfl;have hcr:=fun (t:ByteArray) wx (ht:t.size≤1099511627776)=>kcrc_is t wx ht
 have hap:=fun (z:ByteArray) wx (hz:z.size≤1099511627776)=>sapply_is (txt (patS k.on g1 B1 g2 B2)) z wx (by omega) hz
 have hg1:=h1.2.2.1
 have HZ:Hid (∀j,1≤j→j=g1→(applyF (patS k.on g1 B1 g2 B2) (imgS 1 j k.on (anB j))).2=10∨crcB ((txt (imgS 1 j k.on (anB j))).extract 0 ((txt (imgS 1 j k.on (anB j))).size - 4)).data.toList=crcB ((txt (imgS 1 g1 k.on B1)).extract 0 ((txt (imgS 1 g1 k.on B1)).size - 4)).data.toList):=fun j hj e=>by
  rcases apply_other h1 h2 (g:=j) (B:=anB j) ⟨honOK,anB_good j,hj,by have:=h1.2.2.2;omega⟩ with k1|⟨k1,k2⟩
  ·exact Or.inl k1
  ·refine Or.inr ?_;have c1:=imgS_cut j k.on (anB j);have c2:=imgS_cut g1 k.on B1;rw [ext_list,ext_list,txt_size,txt_size];show crcB (((imgS 1 j k.on (anB j)).drop 0).take ((imgS 1 j k.on (anB j)).length - 4 - 0))=crcB (((imgS 1 g1 k.on B1).drop 0).take ((imgS 1 g1 k.on B1).length - 4 - 0));rw [List.drop_zero,List.drop_zero,Nat.sub_zero,Nat.sub_zero,c1,c2,k2]
 have HS:Hid (∀j,(txt (imgS 1 j k.on (anB j))).size≤16777216∧5≤(txt (imgS 1 j k.on (anB j))).size):=fun j=>by
  rw [txt_size];exact ⟨imageB_len ((Cfg.ok_iff k.on).1 honOK).1 (anB_good j).1 (by have:=mkF_short honOK (anB_good j);omega),imgS_len _ _ _ _⟩
 clear h;obtain ⟨P,hP⟩:∃P,P=txt (patS k.on g1 B1 g2 B2):=⟨_,rfl⟩;obtain ⟨old,hold⟩:∃old,old=txt (imgS 1 g1 k.on B1):=⟨_,rfl⟩;have hPd:P.data.toList=patS k.on g1 B1 g2 B2:=by rw [hP];rfl
 rw [←hP] at hap hPs;rw [←hold] at hdc hOs hO5 HZ;rw [←hP,←hold];rw [hPd] at hap;have HPD:=Hid.mk hPd;clear hP hold hPd;generalize imgS 1 g1 k.on B1=I1 at *;generalize imgS 2 g1 k.on B1=I2 at *;generalize patS k.on g1 B1 g2 B2=PL at *;clear h1 h2;obtain ⟨M0,q0,c0,on,B,g0,vb0,vw0,vs0,vh0,vf0,img0,part0,L0,pp0,vr0,sp0,hd0,fr0,fb0,ds0,dh0,bs0⟩:=k;simp only [Cfg.cells] at *;have HON:=Hid.mk honOK;clear honOK;go_enter Tryz.func134,Tryz.ntmps134;go_wp2_with fail;refine (hdc _).mono ?_;rintro e w1 ⟨rfl,hb1⟩;have e8:=hb1.cell c8;have e9:=hb1.cell c9;have e10:=hb1.cell c10;have e11:=hb1.cell c11;have e12:=hb1.cell c12;have e13:=hb1.cell c13;clear hdc c8 c9 c10 c11 c12 c13;go_wp2_with fail;refine (hnw _).mono ?_;rintro e w2 ⟨q2,rfl,hb2,hq2a,hq2b,hS2⟩;have hS2:=hS2 [q2] (by simp);have hb02:=hb1.trans hb2;clear hnw e8 e9 e10 e11 e12 e13;by_cases hG:40<g1
 ·have hgt:decide ((g1:Int)>40)=true:=decide_eq_true (by omega);have HB:=Hid.mk hb02;clear hb1 hb2;go_wp2;go_ret;exact ⟨rfl,HB.out⟩
 have hgt:decide ((g1:Int)>40)=false:=decide_eq_false (by omega);have H0:Hid (AnJ w q2 on 0 w2):=⟨hS2,hb02⟩;have hqw:w.heap.size≤q2:=Nat.le_trans hb1.size hq2a;clear hS2 hb1 hb2 hq2a;go_wp2;go_loopg [12,13] g1 (fun r vf nk wr=>∃j:Nat,nk= .int .i64 (j:Int)∧vf= .int .i64 0∧j≤g1∧r=g1 - j∧AnJ w q2 on j wr)
 case atStart=>exact ⟨0,rfl,rfl,by omega,rfl,H0.out⟩
 case round=>
  obtain ⟨j,rfl,rfl,hj,rfl,hS,hbr⟩:=hrel;have hlt:=hS.lt;by_cases hjG:j<g1
  ·have hjb:decide ((j:Int)<(g1:Int))=true:=decide_eq_true (by omega);by_cases hj0:j=0
   ·subst hj0;have had:=add_is [q2] q2 on (anB 0) ((0:Nat):Int) tt 1 wr hS (by simpa using hlt) HON.out (anB_good 0) (by omega) (by omega);have e0:addE (anB 0) tt 1=0:=an_add.1;have e1:addB (anB 0) tt 1=anB 1:=an_add.2;rw [e0,e1] at had;simp only [if_true,tt] at had;clear hS;go_wp2_with fail;refine had.mono ?_;rintro e w3 ⟨rfl,hbt,hS3⟩;have hbw:Bel w w3:=But.belTo hbr hbt (by intro k hk;simp at hk;subst hk;exact hqw);have HN:Hid (AnJ w q2 on 1 w3):=⟨hS3,hbw⟩;clear had hS3;go_wp2;go_roundg (g1 - 1)
    case measure=>omega
    case rel=>exact ⟨1,rfl,rfl,by omega,rfl,HN.out⟩
   ·have hjz:((j:Int)==0)=false:=by rw [beq_eq_false_iff_ne];omega
    obtain ⟨i,rfl⟩:∃i,j=i+1:=⟨j - 1,by omega⟩;have had:=set_is [q2] q2 on (anB (i+1)) ((i+1:Nat):Int) tt (1+(((i+1) % 2:Nat):Int)) wr hS (by simpa using hlt) HON.out (anB_good _) (by omega) (by omega);have e0:setE (anB (i+1)) tt (1+(((i+1) % 2:Nat):Int))=0:=(an_set (i+1) _).1;have e1:setB (anB (i+1)) tt (1+(((i+1) % 2:Nat):Int))=anB (i+1+1):=(an_set (i+1) _).2;rw [e0,e1] at had;have e2:(1+(((i+1) % 2:Nat):Int))=1+((i:Int)+1) % 2:=by omega
    rw [e2] at had;simp only [if_true,tt] at had;clear hS e0 e1 e2;go_wp2_with fail;refine had.mono ?_;rintro e w3 ⟨rfl,hbt,hS3⟩;have hbw:Bel w w3:=But.belTo hbr hbt (by intro k hk;simp at hk;subst hk;exact hqw)
    have HN : Hid (AnJ w q2 on (i + 1 + 1) w3) := ⟨by have e3 : ((i + 1 + 1 : Nat) : Int) = ((i + 1 : Nat) : Int) + 1 := by omega
                                                      rw [e3]; exact hS3, hbw⟩
    clear had hS3;go_wp2;go_roundg (g1 - (i+1+1))
    case measure=>omega
    case rel=>exact ⟨i+1+1,by go_num,rfl,by omega,rfl,HN.out⟩
  ·obtain rfl:j=g1:=by omega
   have him:=image_v [q2] q2 on (anB j) j 1 wr hS.svp (mkF_len _ _ HON.out (anB_good j).1) HON.out (anB_good j).1 (by omega)
   have hsg:simgF 1 j on (anB j) (mkF on (anB j))=(imgS 1 j on (anB j),0):=by
    unfold simgF;rw [if_pos ⟨by omega,by omega⟩,if_neg (by omega)];rfl
   rw [hsg] at him;obtain ⟨hz1,hz5⟩:=HS.out j;have hZ:=HZ.out j hg1 rfl;have hapz:=fun wx=>hap (txt (imgS 1 j on (anB j))) wx (by omega)
   rw [show (txt (imgS 1 j on (anB j))).data.toList=imgS 1 j on (anB j) from rfl] at hapz;generalize applyF PL (imgS 1 j on (anB j))=AZ at *;obtain ⟨AZ1,AZE⟩:=AZ;unfold RTxE at him hapz;dsimp only at him hapz hZ;generalize txt (imgS 1 j on (anB j))=z at *;have hzb:decide ((z.size:Int)<5)=false:=decide_eq_false (by omega);have hcz:=fun wx=>hcr (z.extract 0 (z.size - 4)) wx (by simp;omega)
   have hco:=fun wx=>hcr (old.extract 0 (old.size - 4)) wx (by simp;omega)
   unfold RCrc at hcz hco;generalize crcB (z.extract 0 (z.size - 4)).data.toList=ca at *;generalize crcB (old.extract 0 (old.size - 4)).data.toList=cb at *;have HZZ:=Hid.mk hZ;clear hS hsg hcr hap hZ;go_wp2_with fail;refine him.mono ?_;rintro e w3 ⟨rfl,hb3⟩;have hbw:Bel w w3:=hbr.trans hb3;clear him hb3;go_wp2_with fail;refine (hcz _).mono ?_;rintro e w4 ⟨rfl,rfl⟩;go_wp2_with fail;refine (hco _).mono ?_;rintro e w4 ⟨rfl,rfl⟩;go_wp2_with fail;refine (hapz _).mono ?_;rintro e w4 ⟨rfl,hb4⟩;have hbx:Bel w w4:=hbw.trans hb4;clear hapz hcz hco;by_cases hE:AZE=10
   ·have hEb:(AZE==10)=true:=by rw [beq_iff_eq];exact hE
    go_wp2;go_ret;exact ⟨rfl,hbx⟩
   ·have hEb:(AZE==10)=false:=by rw [beq_eq_false_iff_ne];exact hE
    have hab:ca=cb:=HZZ.out.resolve_left hE;subst hab;go_wp2;go_ret;exact ⟨rfl,hbx⟩
end Go.Proofs.YtpapdkhjdelfcabGreat
