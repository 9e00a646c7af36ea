import Derived.Test.YtpapdkhjdelfcabGreatHAG
import Derived.Test.YtpapdkhjdelfcabGreatHAA
set_option maxRecDepth 100000
set_option maxHeartbeats 4000000
namespace Go.Proofs.YtpapdkhjdelfcabGreat
open Go.RowKit
theorem fold_val (B:List Bool):∀a:Nat,B.foldl (fun a b=>2 * a+b.toNat) a=a * 2 ^ B.length+valB B:=by
 induction B with
 |nil=>intro a;simp [valB]
 |cons b B ih=>
  intro a
  have h2:valB (b::B)=b.toNat * 2 ^ B.length+valB B:=by
   have:=ih (2 * 0+b.toNat);simpa [valB] using this
  rw [List.foldl_cons,ih,h2,List.length_cons,Nat.pow_succ];rw [Nat.add_mul,Nat.mul_comm 2 a,Nat.mul_assoc,Nat.mul_comm 2 (2 ^ B.length)];omega
theorem valB_app (A B:List Bool):valB (A++B)=valB A * 2 ^ B.length+valB B:=by
 rw [valB,List.foldl_append,fold_val];rfl
theorem valB_drop (b:UInt8) (n:Nat):valB ((byteBits b).drop n)=b.toNat % 2 ^ (8 - n):=by
 have h1:valB (byteBits b)=b.toNat:=by rw [byteBits,valB_num];exact Nat.mod_eq_of_lt b.toNat_lt
 have h2:byteBits b=(byteBits b).take n++(byteBits b).drop n:=(List.take_append_drop _ _).symm;have hl:((byteBits b).drop n).length=8 - n:=by rw [List.length_drop,byteBits_len]
 have h3:=valB_lt ((byteBits b).drop n);have h4:=valB_app ((byteBits b).take n) ((byteBits b).drop n);rw [←h2,h1,hl] at h4;rw [hl] at h3;rw [h4,Nat.add_comm,Nat.add_mul_mod_self_right,Nat.mod_eq_of_lt h3]
def overB (X:List Bool) (s:Bool):Bool:=!s && decide (X.length<8) && decide (valB X=0)
theorem shl_zero (b:UInt8) (n:Nat) (hn:n≤8):(((b.toNat:Int) * 2 ^ n % 256)==0)=decide (b.toNat % 2 ^ (8 - n)=0):=by
 have e:((b.toNat:Int) * 2 ^ n % 256)=((b.toNat * 2 ^ n % 256:Nat):Int):=by simp
 have h256:(256:Nat)=2 ^ (8 - n) * 2 ^ n:=by rw [←Nat.pow_add,show 8 - n+n=8 by omega]
 rw [e,h256,Nat.mul_mod_mul_right];have hp:0<2 ^ n:=Nat.two_pow_pos n;by_cases h:b.toNat % 2 ^ (8 - n)=0
 ·simp [h]
 ·have:b.toNat % 2 ^ (8 - n) * 2 ^ n≠0:=Nat.mul_ne_zero h (by omega);simp only [h,decide_false,beq_eq_false_iff_ne];exact_mod_cast this
theorem rover_is (p:Nat) (X:List Bool) (s:Bool) (w:World) (h:Rd p X s w):
  Calls Tryz.prog 120 #[.pointer (some ⟨p,0,none⟩)] w (RShort w (overB X s)):=by
 obtain ⟨t,n,hX,hn8,ht0,⟨c0,c1,c2⟩, -⟩:=h;have HX:=Hid.mk hX;have HZ:=Hid.mk ht0;have hXl:Hid (X.length=8 * t.size - n):=by show X.length=_;rw [HX.out,List.length_drop,bytesBits_len,Array.length_toList];rfl
 clear hX ht0;cases s
 rotate_left
 ·go_enter Tryz.func120,Tryz.ntmps120;go_wp2;go_ret;exact ⟨rfl,by (repeat (first|exact Bel.refl _|assumption|refine Bel.step_alloc ?_ _|refine Bel.step_drew ?_|refine Bel.step_drewN ?_ _|refine Bel.step_set ?_ (by simp <;>omega) _|refine Bel.trans ?_ (by assumption)))⟩
 by_cases hn0:n=0
 ·subst hn0;replace c1:w.cell? ⟨p,1,none⟩=some (.int .u64 0):=c1
  have hov:Hid (overB X false=((t.size:Int)==0)):=by
   show overB X false=_;have hl:=hXl.out;unfold overB;by_cases hz:t.size=0
   ·have:X=[]:=List.eq_nil_of_length_eq_zero (by omega);rw [this];simp [hz,valB]
   ·have h1:¬X.length<8:=by omega
    have h2:¬((t.size:Int)=0):=by omega
    have h3:((t.size:Int)==0)=false:=by rw [beq_eq_false_iff_ne];exact h2
    rw [h3];simp [h1]
  go_enter Tryz.func120,Tryz.ntmps120;go_wp2;go_ret;exact ⟨by rw [hov.out];rfl,by (repeat (first|exact Bel.refl _|assumption|refine Bel.step_alloc ?_ _|refine Bel.step_drew ?_|refine Bel.step_drewN ?_ _|refine Bel.step_set ?_ (by simp <;>omega) _|refine Bel.trans ?_ (by assumption)))⟩
 ·have hnz:(((n:Int))==0)=false:=by simp [hn0]
  by_cases h1:t.size=1
  ·have hpos:0<t.size:=by omega
   have hov:Hid (overB X false=(((t[0].toNat:Int) * 2 ^ n % 256)==0)):=by
    show overB X false=_;have hl:=hXl.out;obtain ⟨rest,hr1, -⟩:=rd_bit t n hn8 hpos
    have hrest:rest=[]:=by
     have:=congrArg List.length hr1;rw [Array.length_toList] at this;have h3:t.data.size=1:=h1;rw [h3] at this;exact List.eq_nil_of_length_eq_zero (by simpa using this)
    have hXd:X=(byteBits t[0]).drop n:=by rw [HX.out,hr1,hrest];simp [bytesBits]
    have hlt:X.length<8:=by omega
    unfold overB;rw [shl_zero _ _ (by omega),hXd,valB_drop _ _,←hXd];simp [hlt]
   have hs1:((t.size:Int)==1)=true:=by simp [h1]
   go_enter Tryz.func120,Tryz.ntmps120;go_wp2_with fail;go_quiet (fail);go_wp2;go_ret;exact ⟨by rw [hov.out];rfl,by (repeat (first|exact Bel.refl _|assumption|refine Bel.step_alloc ?_ _|refine Bel.step_drew ?_|refine Bel.step_drewN ?_ _|refine Bel.step_set ?_ (by simp <;>omega) _|refine Bel.trans ?_ (by assumption)))⟩
  ·have hov:Hid (overB X false=false):=by
    show overB X false=false;have hl:=hXl.out;have hz:=HZ.out;have:¬X.length<8:=by omega
    unfold overB;simp [this]
   have hs1:((t.size:Int)==1)=false:=by simp;omega
   go_enter Tryz.func120,Tryz.ntmps120
   go_wp2_with fail
   go_quiet (fail)
   go_wp2
   go_ret
   exact ⟨by rw [hov.out];rfl,by (repeat (first|exact Bel.refl _|assumption|refine Bel.step_alloc ?_ _|refine Bel.step_drew ?_|refine Bel.step_drewN ?_ _|refine Bel.step_set ?_ (by simp <;>omega) _|refine Bel.trans ?_ (by assumption)))⟩
def RRead (t:ByteArray) (w:World) (e:Ending) (w':World):Prop:=e= .returned (.agg #[.string t,.int .u64 0,.bool false])∧Bel w w'
theorem read_is (t:ByteArray) (w:World):Calls Tryz.prog 117 #[.string t] w (RRead t w):=by
 go_enter Tryz.func117,Tryz.ntmps117;go_wp2;refine bodyPost_ret (v:= .agg #[.string t,.int .u64 0,.bool false]) (by simp [results,Tryz.results117,go_sem]) rfl ⟨rfl,by (repeat (first|exact Bel.refl _|assumption|refine Bel.step_alloc ?_ _|refine Bel.step_drew ?_|refine Bel.step_drewN ?_ _|refine Bel.step_set ?_ (by simp <;>omega) _|refine Bel.trans ?_ (by assumption)))⟩
theorem Rd.new {p:Nat} {t:ByteArray} {w:World} (c0:w.cell? ⟨p,0,none⟩=some (.string t)) (c1:w.cell? ⟨p,1,none⟩=some (.int .u64 0)) (c2:w.cell? ⟨p,2,none⟩=some (.bool false)) (hf:∀j,w.frozen? ⟨p,j,none⟩=false):Rd p (bytesBits t.data.toList) false w:=
 ⟨t,0,by simp,by omega,fun _=>rfl,⟨c0,c1,c2⟩,hf⟩
end Go.Proofs.YtpapdkhjdelfcabGreat
namespace Go.Proofs.YtpapdkhjdelfcabGreat
open Go.RowKit
def stepN (c:BitVec 32):Nat→BitVec 32
 |0=>c
 |j+1=>cStep (stepN c j)
theorem cByte_step (c:BitVec 32) (b:UInt8):cByte c b=stepN (c ^^^ BitVec.ofNat 32 b.toNat) 8:=rfl
theorem crc_xor (c:BitVec 32) (b:Nat):bits .xor .u32 (c.toNat:Int) ((b:Int) % 4294967296)=((c ^^^ BitVec.ofNat 32 b).toNat:Int):=by
 have e:((b:Int) % 4294967296)=((b % 4294967296:Nat):Int):=by omega
 have hc:=c.isLt;rw [e,u32_xor_nat _ _ (by omega) (by omega),BitVec.toNat_xor,BitVec.toNat_ofNat]
theorem crc_step (y:BitVec 32):bits .xor .u32 ((y.toNat:Int) / 2) (3988292384 * bits .and .u32 (y.toNat:Int) 1 % 4294967296)=((cStep y).toNat:Int):=by
 have hy:=y.isLt;have e1:((y.toNat:Int) / 2)=((y.toNat / 2:Nat):Int):=by omega
 rw [show (1:Int)=((1:Nat):Int) from rfl,u32_and_nat _ _ (by omega) (by omega),Nat.and_one_is_mod,e1];have e2:(3988292384 * ((y.toNat % 2:Nat):Int) % 4294967296)=((3988292384 * (y.toNat % 2):Nat):Int):=by omega
 rw [e2,u32_xor_nat _ _ (by omega) (by omega)];unfold cStep;rw [BitVec.toNat_xor,BitVec.toNat_ushiftRight,Nat.shiftRight_eq_div_pow]
 have e3:(if y.getLsbD 0 then 0xEDB88320#32 else 0#32).toNat=3988292384 * (y.toNat % 2):=by
  have h0:y.getLsbD 0=(y.toNat % 2==1):=by
   rw [BitVec.getLsbD,Nat.testBit_zero];rcases Nat.mod_two_eq_zero_or_one y.toNat with h|h <;>simp [h]
  rw [h0];rcases Nat.mod_two_eq_zero_or_one y.toNat with h|h <;>simp [h]
 rw [e3]
theorem fold_take (l:List UInt8) (k:Nat) (hk:k<l.length) (c:BitVec 32):(l.take (k+1)).foldl cByte c=cByte ((l.take k).foldl cByte c) l[k]:=by
 rw [List.take_succ_eq_append_getElem hk,List.foldl_append];rfl
def crcB (l:List UInt8):BitVec 32:=l.foldl cByte 0xFFFFFFFF#32 ^^^ 0xFFFFFFFF#32
def RCrc (w:World) (x:BitVec 32) (e:Ending) (w':World):Prop:=e= .returned (.int .u32 (x.toNat:Int))∧w=w'
theorem crc_is (t:ByteArray) (w:World) (ht:t.size≤1099511627776):
  Calls Tryz.prog 211 #[.string t] w (RCrc w (crcB t.data.toList)):=by
 have hz:Hid (t.data.toList.length=t.size):=by show _=_;rw [Array.length_toList];rfl
 go_enter Tryz.func211,Tryz.ntmps211;go_wp2;go_loopg [3,4] t.size (fun r x d wr=>w=wr∧∃k:Nat,r=t.size - k∧k≤t.size∧x= .int .u32 (((t.data.toList.take k).foldl cByte 0xFFFFFFFF#32).toNat:Int)∧d= .int .i64 (k:Int))
 case atStart=>exact ⟨rfl,0,rfl,by omega,rfl,rfl⟩
 case round=>
  obtain ⟨rfl,k,hr,hk,rfl,rfl⟩:=hrel;by_cases hlt:k<t.size
  ·have hft:Hid ((t.data.toList.take (k+1)).foldl cByte 0xFFFFFFFF#32=cByte ((t.data.toList.take k).foldl cByte 0xFFFFFFFF#32) (t[k]'hlt)):=fold_take t.data.toList k (by rw [hz.out];exact hlt) _;generalize (t.data.toList.take k).foldl cByte 0xFFFFFFFF#32=c at *;go_wp2;go_loopg [3,5] 8 (fun r x d wr=>w=wr∧∃j:Nat,r=8 - j∧j≤8∧x= .int .u32 ((stepN (c ^^^ BitVec.ofNat 32 (t[k]'hlt).toNat) j).toNat:Int)∧d= .int .i64 (j:Int))
   case atStart=>exact ⟨rfl,0,rfl,by omega,by rw [crc_xor];rfl,rfl⟩
   case round=>
    obtain ⟨rfl,j,hr2,hj,rfl,rfl⟩:=hrel;by_cases hj8:j<8
    ·have hst:Hid (stepN (c ^^^ BitVec.ofNat 32 (t[k]'hlt).toNat) (j+1)=cStep (stepN (c ^^^ BitVec.ofNat 32 (t[k]'hlt).toNat) j)):=rfl;generalize stepN (c ^^^ BitVec.ofNat 32 (t[k]'hlt).toNat) j=y at *;go_wp2;go_roundg (8 - (j+1))
     case measure=>omega
     case rel=>exact ⟨rfl,j+1,rfl,by omega,by rw [crc_step,hst.out],by go_num⟩
    ·obtain rfl:j=8:=by omega
     rw [←cByte_step,←hft.out];go_wp2;go_roundg (t.size - (k+1))
     case measure=>omega
     case rel=>exact ⟨rfl,k+1,rfl,by omega,rfl,by go_num⟩
  ·have he:Hid (t.data.toList.take k=t.data.toList):=List.take_of_length_le (by rw [hz.out];omega);go_wp2;go_ret;refine ⟨?_,rfl⟩;show Ending.returned (.int .u32 (bits .xor .u32 _ 4294967295))=_;have:=crc_xor ((t.data.toList.take k).foldl cByte 0xFFFFFFFF#32) 4294967295;rw [show (((4294967295:Nat):Int) % 4294967296)=4294967295 from rfl] at this;rw [this,he.out];rfl
end Go.Proofs.YtpapdkhjdelfcabGreat
namespace Go.Proofs.YtpapdkhjdelfcabGreat
open Go.RowKit
def txt4 (a b c d:Int):ByteArray:=⟨#[UInt8.ofNat a.toNat,UInt8.ofNat b.toNat,UInt8.ofNat c.toNat,UInt8.ofNat d.toNat]⟩
theorem conv_four (w:World) (a b c d:Int):(convert 105 9 (.slice (some ⟨w.heap.size,0,none⟩) 4 4)).run Tryz.prog (w.alloc (.cells #[.int .u8 a,.int .u8 b,.int .u8 c,.int .u8 d] 5))= .ok (.string (txt4 a b c d)) (w.alloc (.cells #[.int .u8 a,.int .u8 b,.int .u8 c,.int .u8 d] 5)):=by
 rw [run_convert_bytes_string _ 105 9 5 _ 4 4 Tryz.underlying105 Tryz.underlying5 Tryz.underlying9];rw [run_bytesToString _ _ 4 4 [a,b,c,d] (by simp [loadCells,loadCellsFrom,go_sem])];rfl
def sumB (x:BitVec 32):List UInt8:=[UInt8.ofNat x.toNat,UInt8.ofNat (x.toNat / 256),UInt8.ofNat (x.toNat / 65536),UInt8.ofNat (x.toNat / 16777216)]
theorem ofNat_mod (n:Nat):UInt8.ofNat ((n:Int) % 256).toNat=UInt8.ofNat n:=by
 have:((n:Int) % 256).toNat=n % 256:=by omega
 rw [this];apply UInt8.toNat_inj.1;simp
theorem sum_txt (x:BitVec 32):txt4 ((x.toNat:Int) % 256) ((x.toNat:Int) / 256 % 256) ((x.toNat:Int) / 65536 % 256) ((x.toNat:Int) / 16777216)=txt (sumB x):=by
 have e1:=ofNat_mod x.toNat;have e2:=ofNat_mod (x.toNat / 256);have e3:=ofNat_mod (x.toNat / 65536);rw [show ((x.toNat / 256:Nat):Int)=(x.toNat:Int) / 256 by omega] at e2;rw [show ((x.toNat / 65536:Nat):Int)=(x.toNat:Int) / 65536 by omega] at e3;have e4:((x.toNat:Int) / 16777216).toNat=x.toNat / 16777216:=by omega
 unfold txt4 txt sumB;rw [e1,e2,e3,e4]
def RTx (w:World) (l:List UInt8) (e:Ending) (w':World):Prop:=e= .returned (.string (txt l))∧Bel w w'
theorem behind_is (t:ByteArray) (w:World) (ht:t.size≤1099511627776):
  Calls Tryz.prog 171 #[.string t] w (RTx w (sumB (crcB t.data.toList))):=by
 have hcl:=crc_is t w ht;have hcv:=conv_four w;generalize crcB t.data.toList=x at *;go_enter Tryz.func171,Tryz.ntmps171;go_wp2_with fail;refine hcl.mono ?_;rintro e w2 ⟨rfl,rfl⟩;have hx:=x.isLt;clear hcl;go_wp2;go_ret;refine ⟨?_,by (repeat (first|exact Bel.refl _|assumption|refine Bel.step_alloc ?_ _|refine Bel.step_drew ?_|refine Bel.step_drewN ?_ _|refine Bel.step_set ?_ (by simp <;>omega) _|refine Bel.trans ?_ (by assumption)))⟩;show Ending.returned (.string (txt4 _ _ _ _))=_;rw [sum_txt]
theorem sealed_is (t:ByteArray) (w:World) (ht:t.size≤1099511627776):
  Calls Tryz.prog 115 #[.string t] w (RTx w (t.data.toList++sumB (crcB t.data.toList))):=by
 have hcl:=behind_is t w ht;have hsz:(txt (sumB (crcB t.data.toList))).size=4:=rfl
 have he:Hid (t++txt (sumB (crcB t.data.toList))=txt (t.data.toList++sumB (crcB t.data.toList))):=by
  show _=_;apply ByteArray.ext;simp [txt]
 unfold RTx at hcl;generalize txt (sumB (crcB t.data.toList))=y at *;go_enter Tryz.func115,Tryz.ntmps115;go_wp2_with fail;refine hcl.mono ?_;rintro e w2 ⟨rfl,hb⟩;clear hcl;go_wp2;go_ret;exact ⟨by rw [←he.out];rfl,hb⟩
end Go.Proofs.YtpapdkhjdelfcabGreat
namespace Go.Proofs.YtpapdkhjdelfcabGreat
open Go.RowKit
def openB (l:List UInt8):Option (List UInt8):=if l.length≤4 then none else if l.drop (l.length - 4)=sumB (crcB (l.take (l.length - 4))) then some (l.take (l.length - 4)) else none
def openV:Option (List UInt8)→Value
 |some b=> .tuple #[.string (txt b),.bool true]
 |none=> .tuple #[.string ByteArray.empty,.bool false]
def ROpen (w:World) (o:Option (List UInt8)) (e:Ending) (w':World):Prop:=e= .returned (openV o)∧Bel w w'
theorem ext_list (t:ByteArray) (i j:Nat):(t.extract i j).data.toList=(t.data.toList.drop i).take (j - i):=by
 rw [ByteArray.data_extract,Array.toList_extract,List.extract_eq_take_drop]
theorem opened_is (t:ByteArray) (w:World) (ht:t.size≤1099511627776):
  Calls Tryz.prog 116 #[.string t] w (ROpen w (openB t.data.toList)):=by
 have hz:Hid (t.data.toList.length=t.size):=by show _=_;rw [Array.length_toList];rfl
 by_cases h4:t.size≤4
 ·go_enter Tryz.func116,Tryz.ntmps116;go_wp2;go_ret2;refine ⟨?_,by (repeat (first|exact Bel.refl _|assumption|refine Bel.step_alloc ?_ _|refine Bel.step_drew ?_|refine Bel.step_drewN ?_ _|refine Bel.step_set ?_ (by simp <;>omega) _|refine Bel.trans ?_ (by assumption)))⟩;unfold openB;rw [hz.out,if_pos h4];rfl
 ·have hcl:=fun wx=>behind_is (t.extract 0 (t.size - 4)) wx (by simp;omega)
  have hbody:Hid ((t.extract 0 (t.size - 4)).data.toList=t.data.toList.take (t.size - 4)):=by show _=_;rw [ext_list];simp
  have htail:Hid ((t.extract (t.size - 4) t.size).data.toList=t.data.toList.drop (t.size - 4)):=by
   show _=_;rw [ext_list];exact List.take_of_length_le (by rw [List.length_drop,hz.out];omega)
  rw [hbody.out] at hcl;unfold RTx at hcl;obtain ⟨y,hy⟩:∃y,y=txt (sumB (crcB (t.data.toList.take (t.size - 4)))):=⟨_,rfl⟩;rw [←hy] at hcl;have HY:=Hid.mk hy;clear hy;go_enter Tryz.func116,Tryz.ntmps116;go_wp2_with fail;have hw4:IntKind.i64.wrap ((t.size:Int) - 4)=(t.size:Int) - 4:=by rw [IntKind.wrap_i64];omega
  have hl0:(0:Int)≤(t.size:Int) - 4:=by omega
  have hl1:(t.size:Int) - 4≤(t.size:Int):=by omega
  have hl2:((t.size:Int) - 4).toNat=t.size - 4:=by omega
  obtain ⟨g,hg⟩:∃g:Bool,((t.extract (t.size - 4) t.size).toList==y.toList)=g:=⟨_,rfl⟩
  have HG:Hid ((g=true)↔t.data.toList.drop (t.size - 4)=sumB (crcB (t.data.toList.take (t.size - 4)))):=by
   show _↔_;rw [←hg];refine str_eq.trans ⟨fun e=>?_,fun e=>?_⟩
   ·have:=congrArg (fun z=>z.data.toList) e;rw [htail.out,HY.out] at this;exact this
   ·apply ByteArray.ext;apply Array.toList_inj.1;rw [htail.out,HY.out];exact e
  go_region_with (go_at_call 171;refine (hcl _).mono ?_;rintro e w2 ⟨rfl,hb2⟩)
  all_goals
   cases g
   ·go_wp2;go_ret2;refine ⟨?_,by (repeat (first|exact Bel.refl _|assumption|refine Bel.step_alloc ?_ _|refine Bel.step_drew ?_|refine Bel.step_drewN ?_ _|refine Bel.step_set ?_ (by simp <;>omega) _|refine Bel.trans ?_ (by assumption)))⟩;unfold openB;rw [hz.out,if_neg h4,if_neg (fun e=>by have:=HG.out.2 e;cases this)];rfl
   ·go_wp2;go_ret2;refine ⟨?_,by (repeat (first|exact Bel.refl _|assumption|refine Bel.step_alloc ?_ _|refine Bel.step_drew ?_|refine Bel.step_drewN ?_ _|refine Bel.step_set ?_ (by simp <;>omega) _|refine Bel.trans ?_ (by assumption)))⟩;unfold openB;rw [hz.out,if_neg h4,if_pos (by first|exact HG.out.1 rfl|exact HG.out.1 trivial),←hbody.out];rfl
end Go.Proofs.YtpapdkhjdelfcabGreat
namespace Go.Proofs.YtpapdkhjdelfcabGreat
open Go.RowKit
def countP (n:Nat):Nat:=(n+48 - 1) / 48
def RCnt (n:Nat) (w:World) (e:Ending) (w':World):Prop:=e= .returned (.int .i64 (n:Int))∧w=w'
theorem count_is (t:ByteArray) (w:World) (ht:t.size≤1099511627776):Calls Tryz.prog 123 #[.string t] w (RCnt (countP t.size) w):=by
 have he:Hid ((countP t.size:Int)=((t.size:Int)+48 - 1) / 48):=by
  show _=_;unfold countP;omega
 go_enter Tryz.func123,Tryz.ntmps123;go_wp2;go_ret;exact ⟨by rw [he.out];rfl,rfl⟩
theorem txt_of (t:ByteArray):t=txt t.data.toList:=by apply ByteArray.ext;simp [txt]
def cutP (l:List UInt8) (n:Int):List UInt8:=if n<0 then [] else (l.drop (48 * n.toNat)).take 48
def RCut (l:List UInt8) (w:World) (e:Ending) (w':World):Prop:=e= .returned (.string (txt l))∧Bel w w'
theorem cut_is (t:ByteArray) (n:Int) (w:World) (ht:t.size≤1099511627776):Calls Tryz.prog 124 #[.string t,.int .i64 n] w (RCut (cutP t.data.toList n) w):=by
 have hz:Hid (t.data.toList.length=t.size):=by show _=_;rw [Array.length_toList];rfl
 have hcl:=count_is t w ht;by_cases hn:n<0
 ·go_enter Tryz.func124,Tryz.ntmps124;go_wp2;go_ret;exact ⟨by rw [cutP,if_pos hn];rfl,by (repeat (first|exact Bel.refl _|assumption|refine Bel.step_alloc ?_ _|refine Bel.step_drew ?_|refine Bel.step_drewN ?_ _|refine Bel.step_set ?_ (by simp <;>omega) _|refine Bel.trans ?_ (by assumption)))⟩
 ·obtain ⟨k,rfl⟩:∃k:Nat,n=(k:Int):=⟨n.toNat,by omega⟩;have hcut:Hid (cutP t.data.toList (k:Int)=(t.data.toList.drop (48 * k)).take 48):=by show _=_;rw [cutP,if_neg hn];rfl
  have hdef:countP t.size=(t.size+48 - 1) / 48:=rfl;have HD:=Hid.mk hdef;generalize countP t.size=c at *;clear hdef;by_cases hk:c≤k
  ·have hnil:Hid ((t.data.toList.drop (48 * k)).take 48=[]):=by
    show _=_;have:=HD.out;rw [List.drop_of_length_le (by rw [hz.out];omega)];rfl
   go_enter Tryz.func124,Tryz.ntmps124
   go_wp2_with fail
   refine hcl.mono ?_
   rintro e w2 ⟨rfl,rfl⟩
   clear hcl
   go_wp2
   go_ret
   exact ⟨by rw [hcut.out,hnil.out];rfl,by (repeat (first|exact Bel.refl _|assumption|refine Bel.step_alloc ?_ _|refine Bel.step_drew ?_|refine Bel.step_drewN ?_ _|refine Bel.step_set ?_ (by simp <;>omega) _|refine Bel.trans ?_ (by assumption)))⟩
  ·have hlt:48 * k<t.size:=by have:=HD.out;omega
   have hb:k≤1099511627776:=by omega
   by_cases he:48 * k+48>t.size
   ·go_enter Tryz.func124,Tryz.ntmps124;go_wp2_with fail;refine hcl.mono ?_;rintro e w2 ⟨rfl,rfl⟩;clear hcl;go_wp2;go_ret;refine ⟨?_,by (repeat (first|exact Bel.refl _|assumption|refine Bel.step_alloc ?_ _|refine Bel.step_drew ?_|refine Bel.step_drewN ?_ _|refine Bel.step_set ?_ (by simp <;>omega) _|refine Bel.trans ?_ (by assumption)))⟩;rw [hcut.out];show Ending.returned (.string (t.extract (k * 48) t.size))=_;rw [txt_of (t.extract (k * 48) t.size),ext_list,Nat.mul_comm k 48,List.take_of_length_le (by rw [List.length_drop,hz.out];omega),List.take_of_length_le (by rw [List.length_drop,hz.out];omega)]
   ·go_enter Tryz.func124,Tryz.ntmps124;go_wp2_with fail;refine hcl.mono ?_;rintro e w2 ⟨rfl,rfl⟩;clear hcl;go_wp2;go_ret;refine ⟨?_,by (repeat (first|exact Bel.refl _|assumption|refine Bel.step_alloc ?_ _|refine Bel.step_drew ?_|refine Bel.step_drewN ?_ _|refine Bel.step_set ?_ (by simp <;>omega) _|refine Bel.trans ?_ (by assumption)))⟩;rw [hcut.out];show Ending.returned (.string (t.extract (k * 48) (k * 48+48)))=_;rw [txt_of (t.extract (k * 48) (k * 48+48)),ext_list,Nat.mul_comm k 48,show 48 * k+48 - 48 * k=48 by omega]
end Go.Proofs.YtpapdkhjdelfcabGreat
namespace Go.Proofs.YtpapdkhjdelfcabGreat
open Go.RowKit
theorem WrI.new (W0:World) (ty:TypeId):WrI (fun _=>none) W0 W0.heap.size [] (W0.alloc (.cells #[.slice none 0 0,.int .u8 0,.int .u64 0] ty)):=
 ⟨(Bel.refl W0).step_alloc _,Nat.le_refl _,.slice none 0 0,[],[],rfl,by simp,⟨by simp,by simp [valB],by simp⟩,fun j=>by simp,World.ownsRow_nil _ _ _ _,by simp [Value.ownBlock],fun k o h=>by cases h⟩
theorem txt_list (l:List UInt8):(txt l).data.toList=l:=by simp [txt]
theorem packB_len_le:∀(n:Nat) (L:List Bool),L.length≤n→(packB L).length≤L.length:=by
 intro n
 induction n with
 |zero=>intro L h;rw [List.eq_nil_of_length_eq_zero (by omega:L.length=0)];simp [packB]
 |succ n ih=>
  intro L h;by_cases h8:L.length<8
  ·by_cases h0:0<L.length
   ·rw [packB_rest L h0 h8];simp;omega
   ·rw [List.eq_nil_of_length_eq_zero (by omega:L.length=0)];simp [packB]
  ·have hl:(L.take 8).length=8:=by rw [List.length_take];omega
   have e:L=byteBits (UInt8.ofNat (valB (L.take 8)))++L.drop 8:=by rw [byteBits_val _ hl,List.take_append_drop]
   have hd:(L.drop 8).length=L.length - 8:=List.length_drop;have:=ih (L.drop 8) (by omega);rw [e,packB_byte,List.length_cons,←e];omega
def questB (h f c m n:Nat):List Bool:=((((([]++bytesBits [81])++numBits h (8 * 4))++numBits f (8 * 1))++numBits c (8 * 4))++numBits m (8 * 1))++numBits n (8 * 2)
theorem questB_len (h f c m n:Nat):(questB h f c m n).length=104:=by simp [questB,numBits_len,bytesBits_len]
theorem writeq_is (h f c m n:Nat) (w:World) (b1:h≤4611686018427387904) (b2:f≤4611686018427387904) (b3:c≤4611686018427387904) (b4:m≤4611686018427387904) (b5:n≤4611686018427387904):
  Calls Tryz.prog 61 #[.agg #[.int .i64 (h:Int),.int .i64 (f:Int),.int .i64 (c:Int),.int .i64 (m:Int),.int .i64 (n:Int)]] w (RTx w (packB (questB h f c m n)++sumB (crcB (packB (questB h f c m n))))):=by
 obtain ⟨W0,hW0⟩:∃W0,W0=w.alloc (.cells #[.int .i64 (h:Int),.int .i64 (f:Int),.int .i64 (c:Int),.int .i64 (m:Int),.int .i64 (n:Int)] 91):=⟨_,rfl⟩;have hsz:W0.heap.size=w.heap.size+1:=by rw [hW0];simp
 have hb0:Bel w W0:=by rw [hW0];exact (Bel.refl w).step_alloc _
 have q0:W0.cell? ⟨w.heap.size,0,none⟩=some (.int .i64 (h:Int)):=by rw [hW0];simp
 have q1:W0.cell? ⟨w.heap.size,1,none⟩=some (.int .i64 (f:Int)):=by rw [hW0];simp
 have q2:W0.cell? ⟨w.heap.size,2,none⟩=some (.int .i64 (c:Int)):=by rw [hW0];simp
 have q3:W0.cell? ⟨w.heap.size,3,none⟩=some (.int .i64 (m:Int)):=by rw [hW0];simp
 have q4:W0.cell? ⟨w.heap.size,4,none⟩=some (.int .i64 (n:Int)):=by rw [hW0];simp
 have hI0:=WrI.new W0 149;rw [hsz] at hI0;have H0:=Hid.mk (wtext_is W0 (w.heap.size+1) [] ⟨#[81]⟩ _ hI0 (by simp [ByteArray.size]));clear hI0;go_enter Tryz.func61,Tryz.ntmps61;go_wp2_with fail;rw [←hW0];refine H0.out.mono ?_;rintro e w1 ⟨rfl,hI1⟩;clear H0;have hB1:=hI1.1;have H1:=Hid.mk (wint_is W0 (w.heap.size+1) _ h 4 _ hI1 (by simp [bytesBits_len]) (by omega) b1);have a0:=hB1.cell q0;clear hI1;go_wp2_with fail;refine H1.out.mono ?_;rintro e w2 ⟨rfl,hI2⟩;clear H1 a0 hB1;have hB2:=hI2.1;have H2:=Hid.mk (wint_is W0 (w.heap.size+1) _ f 1 _ hI2 (by simp [bytesBits_len,numBits_len]) (by omega) b2);have a1:=hB2.cell q1;clear hI2;go_wp2_with fail;refine H2.out.mono ?_;rintro e w3 ⟨rfl,hI3⟩;clear H2 a1 hB2;have hB3:=hI3.1;have H3:=Hid.mk (wint_is W0 (w.heap.size+1) _ c 4 _ hI3 (by simp [bytesBits_len,numBits_len]) (by omega) b3);have a2:=hB3.cell q2;clear hI3;go_wp2_with fail;refine H3.out.mono ?_;rintro e w4 ⟨rfl,hI4⟩;clear H3 a2 hB3;have hB4:=hI4.1;have H4:=Hid.mk (wint_is W0 (w.heap.size+1) _ m 1 _ hI4 (by simp [bytesBits_len,numBits_len]) (by omega) b4);have a3:=hB4.cell q3;clear hI4;go_wp2_with fail;refine H4.out.mono ?_;rintro e w5 ⟨rfl,hI5⟩;clear H4 a3 hB4;have hB5:=hI5.1;have H5:=Hid.mk (wint_is W0 (w.heap.size+1) _ n 2 _ hI5 (by simp [bytesBits_len,numBits_len]) (by omega) b5);have a4:=hB5.cell q4;clear hI5;go_wp2_with fail;refine H5.out.mono ?_;rintro e w6 ⟨rfl,hI6⟩;clear H5 a4 hB5;have hI6':WrI (fun _=>none) W0 (w.heap.size+1) (questB h f c m n) w6:=hI6;have H6:=Hid.mk (wdone_is W0 (w.heap.size+1) _ _ hI6' (by rw [questB_len];omega));clear hI6 hI6';go_wp2_with fail;refine H6.out.mono ?_;rintro e w7 ⟨rfl,hI7⟩;clear H6;have hB7:=Hid.mk (hb0.trans hI7.1);have hlen:(packB (questB h f c m n)).length≤104:=by have:=packB_len_le _ (questB h f c m n) (Nat.le_refl _);rw [questB_len] at this;exact this
 have H7:=sealed_is (txt (packB (questB h f c m n))) w7 (by simp [txt,ByteArray.size];omega);rw [txt_list] at H7;generalize packB (questB h f c m n)=B at *;have H8:=Hid.mk H7;clear H7 hI7 q0 q1 q2 q3 q4;go_wp2_with fail;refine H8.out.mono ?_;rintro e w8 ⟨rfl,hb8⟩;have hB8:=Hid.mk (hB7.out.trans hb8);clear H8 hb8;go_wp2;go_ret;exact ⟨rfl,hB8.out⟩
end Go.Proofs.YtpapdkhjdelfcabGreat
