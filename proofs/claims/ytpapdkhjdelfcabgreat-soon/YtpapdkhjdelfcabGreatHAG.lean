import Derived.Test.YtpapdkhjdelfcabGreatHAF
import Derived.Deep.LoopGhost
import Derived.Laws.BytesString
import Derived.Deep.QuietTactic
import Derived.BigQuiet
set_option maxRecDepth 100000
set_option maxHeartbeats 4000000
namespace Go.Proofs.YtpapdkhjdelfcabGreat
open Go.RowKit
variable {K:Nat→Option Obj}
theorem numBits_up (n W k:Nat) (hk:k<W):numBits (n / 2 ^ k) (W - k)=numBits (n / 2 ^ (k+1)) (W - (k+1))++[n / 2 ^ k % 2==1]:=by
 obtain ⟨d,rfl⟩:∃d,W=k+1+d:=⟨W - (k+1),by omega⟩;rw [show k+1+d - k=d+1 by omega,show k+1+d - (k+1)=d by omega,numBits,Nat.div_div_eq_div_mul,←Nat.pow_succ]
theorem and_bit (n k:Nat) (hn:n<2 ^ 64):bits .and .u64 ((n:Int) / 2 ^ k) 1 % 256=((n / 2 ^ k % 2==1).toNat:Int):=by
 have e:((n:Int) / 2 ^ k)=((n / 2 ^ k:Nat):Int):=by simp
 have hlt:n / 2 ^ k<18446744073709551616:=Nat.lt_of_le_of_lt (Nat.div_le_self _ _) (by simpa using hn);rw [e,show (1:Int)=((1:Nat):Int) from rfl,u64_and_nat _ _ hlt (by omega),Nat.and_one_is_mod];generalize n / 2 ^ k=m;rcases Nat.mod_two_eq_zero_or_one m with h|h <;>simp [h]
theorem wnum_is (W0:World) (p:Nat) (L:List Bool) (n:Nat) (W:Nat) (w:World) (h:WrI K W0 p L w) (hL:L.length+W≤1099511627776) (hW:W≤64) (hn:n<2 ^ 64):
  Calls Tryz.prog 170 #[.pointer (some ⟨p,0,none⟩),.int .u64 (n:Int),.int .i64 (W:Int)] w (RWr K W0 p (L++numBits n W)):=by
 have HH:=Hid.mk h;have HN:=Hid.mk hn;clear h hn;go_enter Tryz.func170,Tryz.ntmps170;go_wp2;go_loopg [6] W (fun r d wr=>∃k:Nat,r=k∧k≤W∧d= .int .i64 ((k:Int) - 1)∧WrI K W0 p (L++numBits (n / 2 ^ k) (W - k)) wr)
 case atStart=>exact ⟨W,rfl,by omega,by go_num,by simpa [numBits] using HH.out⟩
 case round=>
  obtain ⟨k,hr,hkW,rfl,hI⟩:=hrel;have HI:=Hid.mk hI;clear hI;cases k with
  |zero=>
   go_wp2;go_end0;exact ⟨rfl,by simpa using HI.out⟩
  |succ k=>
   have hcl:=wbit_is W0 p (L++numBits (n / 2 ^ (k+1)) (W - (k+1))) (n / 2 ^ k % 2==1) wr HI.out (by rw [List.length_append,numBits_len];omega);rw [←and_bit n k HN.out,List.append_assoc,←numBits_up n W k (by omega)] at hcl;go_wp2_with fail;refine hcl.mono ?_;rintro e w2 ⟨rfl,hI2⟩;have HI2:=Hid.mk hI2;clear hI2 hcl HI;go_wp2_with fail;go_roundg k
   case measure=>omega
   case rel=>exact ⟨k,rfl,by omega,by go_num,HI2.out⟩
theorem wint_is (W0:World) (p:Nat) (L:List Bool) (n:Nat) (W:Nat) (w:World) (h:WrI K W0 p L w) (hL:L.length+8 * W≤1099511627776) (hW:W≤8) (hn:n≤4611686018427387904):
  Calls Tryz.prog 113 #[.pointer (some ⟨p,0,none⟩),.int .i64 (n:Int),.int .i64 (W:Int)] w (RWr K W0 p (L++numBits n (8 * W))):=by
 have hcl:=wnum_is W0 p L n (8 * W) w h hL (by omega) (by omega);rw [show ((8 * W:Nat):Int)=8 * (W:Int) by omega] at hcl;clear h;go_enter Tryz.func113,Tryz.ntmps113;go_wp2_with fail;refine hcl.mono ?_;rintro e w2 ⟨rfl,hI2⟩;have HI2:=Hid.mk hI2;clear hI2 hcl;go_wp2;go_end0;exact ⟨rfl,HI2.out⟩
theorem bytesBits_take (l:List UInt8) (k:Nat) (hk:k<l.length):bytesBits (l.take (k+1))=bytesBits (l.take k)++numBits l[k].toNat 8:=by
 rw [List.take_succ_eq_append_getElem hk,bytesBits_snoc];rfl
theorem wtext_is (W0:World) (p:Nat) (L:List Bool) (t:ByteArray) (w:World) (h:WrI K W0 p L w) (hL:L.length+8 * t.size≤1099511627776):
  Calls Tryz.prog 112 #[.pointer (some ⟨p,0,none⟩),.string t] w (RWr K W0 p (L++bytesBits t.data.toList)):=by
 have HH:=Hid.mk h;have hz:t.data.toList.length=t.size:=by rw [Array.length_toList];rfl
 have HZ:=Hid.mk hz;clear h hz;go_enter Tryz.func112,Tryz.ntmps112;go_wp2;go_loopg [4] t.size (fun r d wr=>∃k:Nat,r=t.size - k∧k≤t.size∧d= .int .i64 (k:Int)∧WrI K W0 p (L++bytesBits (t.data.toList.take k)) wr)
 case atStart=>exact ⟨0,rfl,by omega,rfl,by simpa [bytesBits] using HH.out⟩
 case round=>
  obtain ⟨k,hr,hkW,rfl,hI⟩:=hrel;have HI:=Hid.mk hI;clear hI;by_cases hlt:k<t.size
  ·have hstep:bytesBits (t.data.toList.take (k+1))=bytesBits (t.data.toList.take k)++numBits (t[k]'hlt).toNat 8:=bytesBits_take t.data.toList k (by rw [HZ.out];exact hlt);have hcl:=wnum_is W0 p (L++bytesBits (t.data.toList.take k)) (t[k]'hlt).toNat 8 wr HI.out (by rw [List.length_append,bytesBits_len,List.length_take];omega) (by omega) (by have:=(t[k]'hlt).toNat_lt;omega)
   have hw:IntKind.u64.wrap ((t[k]'hlt).toNat:Int)=((t[k]'hlt).toNat:Int):=by
    have:=(t[k]'hlt).toNat_lt;rw [IntKind.wrap_u64];omega
   rw [List.append_assoc,←hstep,show ((8:Nat):Int)=8 from rfl] at hcl;rw [←hw] at hcl;clear hw hstep;go_wp2_with fail;refine hcl.mono ?_;rintro e w2 ⟨rfl,hI2⟩;have HI2:=Hid.mk hI2;clear hI2 hcl HI;go_wp2_with fail;go_roundg (t.size - (k+1))
   case measure=>omega
   case rel=>exact ⟨k+1,rfl,by omega,by go_num,HI2.out⟩
  ·go_wp2;go_end0;have e:t.data.toList.take k=t.data.toList:=List.take_of_length_le (by rw [HZ.out];omega);have:=HI.out;rw [e] at this;exact ⟨rfl,this⟩
end Go.Proofs.YtpapdkhjdelfcabGreat
namespace Go.Proofs.YtpapdkhjdelfcabGreat
open Go.RowKit
variable {K:Nat→Option Obj}
theorem fold_push (Bs:List UInt8):∀s:ByteArray,(Bs.map (fun b=>(b.toNat:Int))).foldl (fun r n=>r.push (UInt8.ofNat n.toNat)) s=⟨s.data++Bs.toArray⟩:=by
 induction Bs with
 |nil=>intro s;simp
 |cons b Bs ih=>
  intro s;rw [List.map_cons,List.foldl_cons,ih];have e:UInt8.ofNat ((b.toNat:Int).toNat)=b:=by simp
  rw [e];simp [ByteArray.push]
theorem conv_row {w:World} {base:Nat} {v:Value} {Bs:List UInt8} (h:w.ownsRow base 5 1 v Bs.length (Bs.map byteU)):
  (convert 105 9 v).run Tryz.prog w= .ok (.string ⟨Bs.toArray⟩) w:=by
 have hc:=fun g hg=>h.cells (g:=g) hg
 rcases h.2 with ⟨h1,h2⟩|⟨g,cap,cur,h1,_⟩
 ·have hB:Bs=[]:=List.eq_nil_of_length_eq_zero (by omega);subst hB;rw [h1,run_convert_bytes_string _ 105 9 5 _ _ _ Tryz.underlying105 Tryz.underlying5 Tryz.underlying9];rfl
 ·subst h1;rw [run_convert_bytes_string _ 105 9 5 _ _ _ Tryz.underlying105 Tryz.underlying5 Tryz.underlying9];have hl:=run_loadCells_list (P:=Tryz.prog) (w:=w) ⟨g,0,none⟩ (Bs.map byteU) (fun j u hu=>hc g rfl j u hu);rw [List.length_map] at hl;rw [run_bytesToString _ _ _ _ (Bs.map (fun b=>(b.toNat:Int))) (by rw [hl,List.map_map];rfl),fold_push];simp
def oneW (n:Int):ByteArray:=⟨#[UInt8.ofNat n.toNat]⟩
theorem conv_oneW (w:World) (n:Int):(convert 105 9 (.slice (some ⟨w.heap.size,0,none⟩) 1 1)).run Tryz.prog (w.alloc (.cells #[.int .u8 n] 5))= .ok (.string (oneW n)) (w.alloc (.cells #[.int .u8 n] 5)):=by
 rw [run_convert_bytes_string _ 105 9 5 _ 1 1 Tryz.underlying105 Tryz.underlying5 Tryz.underlying9];rw [run_bytesToString _ _ 1 1 [n] (by simp [loadCells,loadCellsFrom,go_sem])];rfl
theorem conv_oneD (w:World) (n:Int):(convert 105 9 (.slice (some ⟨w.heap.size,0,none⟩) 1 1)).run Tryz.prog (w.alloc (.cells #[.int .u8 n] 5)).drew= .ok (.string (oneW n)) (w.alloc (.cells #[.int .u8 n] 5)).drew:=by
 rw [run_convert_bytes_string _ 105 9 5 _ 1 1 Tryz.underlying105 Tryz.underlying5 Tryz.underlying9];rw [run_bytesToString _ _ 1 1 [n] (by simp [loadCells,loadCellsFrom,go_sem])];rfl
def txt (l:List UInt8):ByteArray:=⟨l.toArray⟩
def RTxt (K:Nat→Option Obj) (W0:World) (p:Nat) (L:List Bool) (e:Ending) (w':World):Prop:=e= .returned (.string (txt (packB L)))∧WrI K W0 p L w'
theorem done_eq (Bs:List UInt8) (R:List Bool) (h0:0<R.length) (h8:R.length<8):(⟨Bs.toArray⟩:ByteArray)++oneW (((valB R:Nat):Int) * 2 ^ (8 - R.length) % 256)=txt (packB (bytesBits Bs++R)):=by
 rw [packB_bytes,packB_rest R h0 h8]
 have hlt:valB R * 2 ^ (8 - R.length)<256:=by
  have h1:valB R * 2 ^ (8 - R.length)<2 ^ R.length * 2 ^ (8 - R.length):=Nat.mul_lt_mul_of_pos_right (valB_lt R) (Nat.two_pow_pos _);rw [←Nat.pow_add,show R.length+(8 - R.length)=8 by omega] at h1;exact h1
 have e:(((valB R:Nat):Int) * 2 ^ (8 - R.length) % 256).toNat=valB R * 2 ^ (8 - R.length):=by
  have:(((valB R:Nat):Int) * 2 ^ (8 - R.length))=((valB R * 2 ^ (8 - R.length):Nat):Int):=by simp
  rw [this];omega
 unfold oneW txt;rw [e];apply ByteArray.ext;simp
theorem wdone_is (W0:World) (p:Nat) (L:List Bool) (w:World) (h:WrI K W0 p L w) (hL:L.length≤1099511627776):
  Calls Tryz.prog 114 #[.pointer (some ⟨p,0,none⟩)] w (RTxt K W0 p L):=by
 have HH:=Hid.mk h;obtain ⟨h1,h2,v,Bs,R,r1,r2,⟨c0,c1,c2⟩,hf,ho,hn, -⟩:=h;obtain ⟨T,hT⟩:∃T:ByteArray,T=⟨Bs.toArray⟩:=⟨_,rfl⟩;have hcr:=conv_row ho;rw [←hT] at hcr;have HT:=Hid.mk hT;have HL:=Hid.mk r1;have hv:=valB_lt R;obtain ⟨n,hn0⟩:∃n:Nat,n=R.length:=⟨_,rfl⟩;obtain ⟨x,hx⟩:∃x:Nat,x=valB R:=⟨_,rfl⟩;rw [←hn0,←hx] at hv;rw [←hx] at c1;rw [←hn0] at c2 r2;have HN:=Hid.mk hn0;have HX:=Hid.mk hx;clear hx hn0 r1 hT ho hn hf h1 h2;by_cases hz:n=0
 ·subst hz;replace c2:w.cell? ⟨p,2,none⟩=some (.int .u64 0):=c2;clear hv;go_enter Tryz.func114,Tryz.ntmps114;go_wp2;go_ret;refine ⟨?_,HH.out⟩;have:R=[]:=List.eq_nil_of_length_eq_zero HN.out.symm;rw [HL.out,this,packB_bytes,HT.out];simp [packB,txt]
 ·have hpos:0<n:=by omega
  have hcv:=conv_oneW;have hcd:=conv_oneD;have hos:∀n,(oneW n).size=1:=fun _=>rfl
  have hTs:T.size≤1099511627776:=by
   have:=congrArg List.length HL.out;rw [List.length_append,bytesBits_len] at this;rw [HT.out];show Bs.toArray.size≤_;rw [List.size_toArray];omega
  go_enter Tryz.func114,Tryz.ntmps114;go_wp2_with fail;go_region;go_wp2;go_ret;refine ⟨?_,HH.out.later (by (repeat (first|exact Bel.refl _|assumption|refine Bel.step_alloc ?_ _|refine Bel.step_drew ?_|refine Bel.step_drewN ?_ _|refine Bel.step_set ?_ (by simp <;>omega) _|refine Bel.trans ?_ (by assumption))))⟩;rw [HL.out,←done_eq Bs R (by have:=HN.out;omega) (by have:=HN.out;omega),←HT.out,←HN.out,←HX.out];rfl
end Go.Proofs.YtpapdkhjdelfcabGreat
namespace Go.Proofs.YtpapdkhjdelfcabGreat
open Go.RowKit
theorem numBits_get (v W n:Nat) (h:n<W):(numBits v W)[n]?=some (v / 2 ^ (W - 1 - n) % 2==1):=by
 induction W generalizing v n with
 |zero=>omega
 |succ W ih=>
  rw [numBits];by_cases hn:n<W
  ·rw [List.getElem?_append_left (by rw [numBits_len];exact hn),ih _ _ hn,show W+1 - 1 - n=(W - 1 - n)+1 by omega,Nat.pow_succ,Nat.mul_comm,Nat.div_div_eq_div_mul]
  ·obtain rfl:n=W:=by omega
   rw [List.getElem?_append_right (by rw [numBits_len];omega),numBits_len];simp
def Rd (p:Nat) (X:List Bool) (s:Bool) (w:World):Prop:=∃(t:ByteArray) (n:Nat),X=(bytesBits t.data.toList).drop n∧n<8∧(t.size=0→n=0)∧
 (w.cell? ⟨p,0,none⟩=some (.string t)∧w.cell? ⟨p,1,none⟩=some (.int .u64 (n:Int))∧w.cell? ⟨p,2,none⟩=some (.bool s))∧∀j,w.frozen? ⟨p,j,none⟩=false
def RBit (p:Nat) (b:Bool) (X:List Bool) (s:Bool) (w:World) (e:Ending) (w':World):Prop:=e= .returned (.int .u8 (b.toNat:Int))∧But [p] w w'∧Rd p X s w'
theorem rd_bit (t:ByteArray) (n:Nat) (hn:n<8) (h:0<t.size):∃rest,t.data.toList=t[0]::rest∧(bytesBits t.data.toList).drop n=(t[0].toNat / 2 ^ (7 - n) % 2==1)::((byteBits t[0]).drop (n+1)++bytesBits rest):=by
 have hl:0<t.data.toList.length:=by rw [Array.length_toList];exact h
 obtain ⟨b,rest,hbr⟩:∃b rest,t.data.toList=b::rest:=by
  cases hd:t.data.toList with
  |nil=>rw [hd] at hl;simp at hl
  |cons b rest=>exact ⟨b,rest,rfl⟩
 have hb:t[0]=b:=by
  have h0:t.data.toList[0]'hl=b:=by simp [hbr]
  rw [←h0];simp only [Array.getElem_toList];rfl
 refine ⟨rest,by rw [hb];exact hbr,?_⟩;rw [hbr,hb];have e:bytesBits (b::rest)=byteBits b++bytesBits rest:=by simp [bytesBits]
 have hg:=numBits_get b.toNat 8 n hn;have hlt:n<(byteBits b).length:=by rw [byteBits_len];exact hn
 rw [e,List.drop_append_of_le_length (by rw [byteBits_len];omega),List.drop_eq_getElem_cons hlt]
 have h1:(byteBits b)[n]'hlt=(b.toNat / 2 ^ (7 - n) % 2==1):=by
  have:=List.getElem?_eq_getElem hlt;unfold byteBits at this ⊢;rw [this] at hg;simpa using hg
 rw [h1];rfl
theorem and_bit8 (x m:Nat) (hx:x<256):bits .and .u8 ((x:Int) / 2 ^ m) 1=((x / 2 ^ m % 2==1).toNat:Int):=by
 have e:((x:Int) / 2 ^ m)=((x / 2 ^ m:Nat):Int):=by simp
 have hlt:x / 2 ^ m<256:=Nat.lt_of_le_of_lt (Nat.div_le_self _ _) hx;rw [e,show (1:Int)=((1:Nat):Int) from rfl,u8_and_nat _ _ hlt (by omega),Nat.and_one_is_mod];generalize x / 2 ^ m=k;rcases Nat.mod_two_eq_zero_or_one k with h|h <;>simp [h]
theorem rbit_is (p:Nat) (X:List Bool) (s:Bool) (w:World) (h:Rd p X s w):
  Calls Tryz.prog 212 #[.pointer (some ⟨p,0,none⟩)] w (RBit p (X.head?.getD false) X.tail (s||X.isEmpty) w):=by
 obtain ⟨t,n,hX,hn8,ht0,⟨c0,c1,c2⟩,hf⟩:=h;have HX:=Hid.mk hX;have HF:=Hid.mk hf;have HZ:=Hid.mk ht0;have f0:=hf 0;have f1:=hf 1;have f2:=hf 2;clear hX hf ht0;by_cases hz:t.size=0
 ·have hXn:X=[]:=by
   have hd:t.data.toList=[]:=List.eq_nil_of_length_eq_zero (by rw [Array.length_toList];exact hz);rw [HX.out,hd];simp [bytesBits]
  have HN:=Hid.mk hXn
  clear hXn
  go_enter Tryz.func212,Tryz.ntmps212
  go_wp2
  go_ret
  refine ⟨by rw [HN.out];rfl,(But.refl _ _).set (by simp) _,t,n,?_,hn8,HZ.out,⟨?_,?_,?_⟩,fun j=>?_⟩
  ·rw [←HX.out,HN.out];rfl
  ·rw [set_other (by simp)];exact c0
  ·rw [set_other (by simp)];exact c1
  ·rw [HN.out];simpa using set_same (u:= .bool true) c2
  ·rw [frozen_set];exact HF.out j
 ·have hpos:0<t.size:=by omega
  obtain ⟨rest,hr1,hr2⟩:=rd_bit t n hn8 hpos;have hb256:t[0].toNat<256:=t[0].toNat_lt;have hab:=and_bit8 t[0].toNat (7 - n) hb256;have H1:=Hid.mk hr1;have H2:=Hid.mk hr2;clear hr1 hr2;generalize hbb:(t[0].toNat / 2 ^ (7 - n) % 2==1)=b at *;have he:Hid (X=b::((byteBits t[0]).drop (n+1)++bytesBits rest)):=HX.out.trans H2.out;by_cases h7:n<7
  ·go_enter Tryz.func212,Tryz.ntmps212;go_wp2_with fail;go_quiet (fail);go_wp2;go_ret;refine ⟨by rw [he.out];rfl,((But.refl _ _).drewN _).set (by simp) _,t,n+1,?_,by omega,fun h=>absurd h hz,⟨?_,?_,?_⟩,fun j=>?_⟩
   ·rw [HX.out,List.tail_drop]
   ·rw [set_other (by simp)];simpa using c0
   ·simpa using set_same (u:= .int .u64 ((n:Int)+1)) (show (w.drewN nq).cell? ⟨p,1,none⟩=_ by simpa using c1)
   ·rw [set_other (by simp),he.out];simpa using c2
   ·rw [frozen_set];simpa using HF.out j
  ·obtain rfl:n=7:=by omega
   replace c1:w.cell? ⟨p,1,none⟩=some (.int .u64 7):=c1;have hab7:bits .and .u8 (t[0].toNat:Int) 1=(b.toNat:Int):=by simpa using hab
   clear hab;go_enter Tryz.func212,Tryz.ntmps212;go_wp2_with fail;go_quiet (fail);go_wp2;go_ret;refine ⟨by rw [he.out];rfl,((((But.refl _ _).drewN _).set (by simp) _).set (by simp) _).set (by simp) _,t.extract 1 t.size,0,?_,by omega,fun _=>rfl,⟨?_,?_,?_⟩,fun j=>?_⟩
   ·have e2:(t.extract 1 t.size).data.toList=rest:=by
     have hz2:t.data.toList.length=t.size:=by rw [Array.length_toList];rfl
     rw [ByteArray.data_extract,Array.toList_extract,List.extract_eq_take_drop,H1.out,List.drop_one,List.tail_cons];rw [H1.out,List.length_cons] at hz2;exact List.take_of_length_le (by omega)
    rw [he.out,e2,List.drop_of_length_le (by rw [byteBits_len];omega)]
    simp
   ·rw [set_other (by simp)];exact set_same (v:= .string t) (by rw [set_other (by simp)];simpa using c0)
   ·simpa using set_same (u:= .int .u64 0) (v:= .int .u64 8) (show (((w.drewN nq).setCell ⟨p,1,none⟩ (.int .u64 8)).setCell ⟨p,0,none⟩ (.string (t.extract 1 t.size))).cell? ⟨p,1,none⟩=_ by rw [set_other (by simp)];exact set_same (v:= .int .u64 7) (by simpa using c1))
   ·rw [set_other (by simp),set_other (by simp),set_other (by simp),he.out];simpa using c2
   ·rw [frozen_set,frozen_set,frozen_set];simpa using HF.out j
end Go.Proofs.YtpapdkhjdelfcabGreat
namespace Go.Proofs.YtpapdkhjdelfcabGreat
open Go.RowKit
def padB (X:List Bool) (W:Nat):List Bool:=(List.range W).map (fun i=>X.getD i false)
theorem padB_len (X:List Bool) (W:Nat):(padB X W).length=W:=by simp [padB]
theorem padB_snoc (X:List Bool) (k:Nat):padB X (k+1)=padB X k++[(X.drop k).head?.getD false]:=by
 simp [padB,List.range_succ,List.getD]
theorem short_snoc (X:List Bool) (s:Bool) (k:Nat):((s||decide (X.length<k))||(X.drop k).isEmpty)=(s||decide (X.length<k+1)):=by
 have:(X.drop k).isEmpty=decide (X.length≤k):=by
  by_cases h:X.length≤k
  ·rw [List.drop_of_length_le h];simp [h]
  ·have:X.drop k≠[]:=fun e=>by have:=congrArg List.length e;simp at this;omega
   simp [h]
 rw [this];cases s
 ·by_cases h:X.length≤k
  ·have:X.length<k+1:=by omega
   simp [h,this]
  ·have h2:¬X.length<k+1:=by omega
   have h3:¬X.length<k:=by omega
   simp [h,h2,h3]
 ·simp
theorem or_bit64 (v b:Nat) (hv:v<9223372036854775808) (hb:b<2):bits .or .u64 ((v:Int) * 2) (b:Int)=((2 * v+b:Nat):Int):=by
 have e:((v:Int) * 2)=((v * 2 ^ 1:Nat):Int):=by omega
 rw [e,u64_or_nat _ _ (by omega) (by omega)]
 have:(v * 2 ^ 1)|||b=v * 2 ^ 1+b:=by
  rw [Nat.mul_comm];exact (Nat.two_pow_add_eq_or_of_lt (by omega) v).symm
 rw [this];omega
def RNum (p:Nat) (x:Nat) (X:List Bool) (s:Bool) (w:World) (e:Ending) (w':World):Prop:=e= .returned (.int .u64 (x:Int))∧But [p] w w'∧Rd p X s w'
theorem rnum_is (p:Nat) (X:List Bool) (s:Bool) (W:Nat) (w:World) (h:Rd p X s w) (hW:W≤64):
  Calls Tryz.prog 172 #[.pointer (some ⟨p,0,none⟩),.int .i64 (W:Int)] w (RNum p (valB (padB X W)) (X.drop W) (s||decide (X.length<W)) w):=by
 have HH:=Hid.mk h;clear h;go_enter Tryz.func172,Tryz.ntmps172;go_wp2;go_loopg [5,6] W (fun r x d wr=>∃k:Nat,r=W - k∧k≤W∧x= .int .u64 (valB (padB X k):Int)∧d= .int .i64 (k:Int)∧But [p] w wr∧Rd p (X.drop k) (s||decide (X.length<k)) wr)
 case atStart=>exact ⟨0,rfl,by omega,rfl,rfl,But.refl _ _,by simpa using HH.out⟩
 case round=>
  obtain ⟨k,hr,hkW,rfl,rfl,hB,hR⟩:=hrel;have HB:=Hid.mk hB;have HR:=Hid.mk hR;clear hB hR;by_cases hlt:k<W
  ·have hcl:=rbit_is p _ _ wr HR.out;rw [short_snoc,List.tail_drop] at hcl;have hvl:=valB_lt (padB X k);rw [padB_len] at hvl
   have hv : valB (padB X k) < 9223372036854775808 := Nat.lt_of_lt_of_le hvl (by
     have : (2 : Nat) ^ k ≤ 2 ^ 63 := Nat.pow_le_pow_right (by decide) (by omega)
     simpa using this)
   have hb2:((X.drop k).head?.getD false).toNat<2:=by have:=Bool.toNat_le ((X.drop k).head?.getD false);omega
   have hor:=or_bit64 _ _ hv hb2;have hsn:=padB_snoc X k;have hvs:Hid (valB (padB X (k+1))=2 * valB (padB X k)+((X.drop k).head?.getD false).toNat):=by show _=_;rw [hsn,valB_snoc]
   clear hsn hvl;generalize (X.drop k).head?.getD false=b at *;generalize valB (padB X k)=x at *;go_wp2_with fail;refine hcl.mono ?_;rintro e w2 ⟨rfl,hB2,hR2⟩;have HB2:=Hid.mk (HB.out.trans hB2);have HR2:=Hid.mk hR2;clear hB2 hR2 hcl HB HR;go_wp2_with fail;go_roundg (W - (k+1))
   case measure=>omega
   case rel=>exact ⟨k+1,rfl,by omega,by rw [hvs.out];simp,by go_num,HB2.out,HR2.out⟩
  ·go_wp2;go_ret;obtain rfl:k=W:=by omega
   exact ⟨rfl,HB.out,HR.out⟩
def RIntR (p:Nat) (x:Nat) (X:List Bool) (s:Bool) (w:World) (e:Ending) (w':World):Prop:=e= .returned (.int .i64 (x:Int))∧But [p] w w'∧Rd p X s w'
theorem rint_is (p:Nat) (X:List Bool) (s:Bool) (W:Nat) (w:World) (h:Rd p X s w) (hW:W≤7):
  Calls Tryz.prog 119 #[.pointer (some ⟨p,0,none⟩),.int .i64 (W:Int)] w (RIntR p (valB (padB X (8 * W))) (X.drop (8 * W)) (s||decide (X.length<8 * W)) w):=by
 have hcl:=rnum_is p X s (8 * W) w h (by omega);rw [show ((8 * W:Nat):Int)=8 * (W:Int) by omega] at hcl;have hvl:=valB_lt (padB X (8 * W));rw [padB_len] at hvl
 have hv : valB (padB X (8 * W)) < 72057594037927936 := Nat.lt_of_lt_of_le hvl (by
   have : (2 : Nat) ^ (8 * W) ≤ 2 ^ 56 := Nat.pow_le_pow_right (by decide) (by omega)
   simpa using this)
 clear h hvl;generalize valB (padB X (8 * W))=x at *;go_enter Tryz.func119,Tryz.ntmps119;go_wp2_with fail;refine hcl.mono ?_;rintro e w2 ⟨rfl,hB2,hR2⟩;have HB2:=Hid.mk hB2;have HR2:=Hid.mk hR2;clear hB2 hR2 hcl;go_wp2;go_ret;exact ⟨rfl,HB2.out,HR2.out⟩
def RShort (w:World) (s:Bool) (e:Ending) (w':World):Prop:=e= .returned (.bool s)∧Bel w w'
theorem rshort_is (p:Nat) (X:List Bool) (s:Bool) (w:World) (h:Rd p X s w):
  Calls Tryz.prog 222 #[.pointer (some ⟨p,0,none⟩)] w (RShort w s):=by
 obtain ⟨t,n, -, -, -,⟨c0,c1,c2⟩, -⟩:=h;go_enter Tryz.func222,Tryz.ntmps222;go_wp2;go_ret;exact ⟨rfl,by (repeat (first|exact Bel.refl _|assumption|refine Bel.step_alloc ?_ _|refine Bel.step_drew ?_|refine Bel.step_drewN ?_ _|refine Bel.step_set ?_ (by simp <;>omega) _|refine Bel.trans ?_ (by assumption)))⟩
end Go.Proofs.YtpapdkhjdelfcabGreat
namespace Go.Proofs.YtpapdkhjdelfcabGreat
open Go.RowKit
theorem padB_take (X:List Bool) (W:Nat) (h:W≤X.length):padB X W=X.take W:=by
 apply List.ext_getElem?;intro i;by_cases hi:i<W
 ·rw [List.getElem?_take_of_lt hi];have hx:i<X.length:=by omega
  simp [padB,hi,List.getD,List.getElem?_eq_getElem hx]
 ·rw [List.getElem?_eq_none (by rw [padB_len];omega),List.getElem?_eq_none (by rw [List.length_take];omega)]
theorem Rd.kept {p:Nat} {X:List Bool} {s:Bool} {w w':World} (h:Rd p X s w) (hb:w'.heap[p]?=w.heap[p]?):Rd p X s w':=by
 obtain ⟨t,n,h1,h2,h3,⟨c0,c1,c2⟩,hf⟩:=h;exact ⟨t,n,h1,h2,h3,⟨(World.cell?_of_block (a:=⟨p,0,none⟩) hb).trans c0,(World.cell?_of_block (a:=⟨p,1,none⟩) hb).trans c1,(World.cell?_of_block (a:=⟨p,2,none⟩) hb).trans c2⟩,fun j=>(World.frozen?_of_block (a:=⟨p,j,none⟩) hb).trans (hf j)⟩
theorem Rd.lt {p:Nat} {X:List Bool} {s:Bool} {w:World} (h:Rd p X s w):p<w.heap.size:=by
 obtain ⟨t,n,h1,h2,h3,⟨c0,c1,c2⟩,hf⟩:=h;exact World.block_lt_of_cell? w _ c0
theorem own_but {p base:Nat} {e:TypeId} {s:Nat} {w w':World} {v:Value} {n:Nat} {xs:List Value} (h:w.ownsRow base e s v n xs) (k:But [p] w w') (hp:p<base):w'.ownsRow base e s v n xs:=
 World.ownsRow.kept h (row := some p) ⟨k.os, k.tape, k.output, k.size, fun j hj hne => k.block j hj (by simpa using fun e => hne (by rw [e]))⟩ (by
   cases hv : v.ownBlock with
   | none => exact Or.inl rfl
   | some g => exact Or.inr (fun e => by have := (h.lt g hv).1; cases e; omega))
theorem but_grown {p:Nat} {w X w5:World} {v:Value} (hb:But [p] w X) (hg:X.grownBy w5 v.ownBlock) (hv:∀g,v.ownBlock=some g→w.heap.size≤g):But [p] w w5:=
 But.mk (hg.os.trans hb.os) (hg.tape.trans hb.tape) (hg.output.trans hb.output) (Nat.le_trans hb.size hg.size) (fun k hk hm=>(hg.block k (Nat.lt_of_lt_of_le hk hb.size) (fun e=>by have:=hv k e.symm;omega)).trans (hb.block k hk hm))
def TxtI (X:List Bool) (s:Bool) (W:Nat) (Ls:List UInt8) (X':List Bool) (s':Bool):Prop:=Ls.length≤W∧X'.length≤X.length∧(s=false→8 * W≤X.length→bytesBits Ls=X.take (8 * W)∧X'=X.drop (8 * W)∧s'=false)∧(s=true∨X.length<8 * W→s'=true)
theorem TxtI.step {X:List Bool} {s:Bool} {k:Nat} {Ls:List UInt8} {X':List Bool} (h:TxtI X s k Ls X' false):TxtI X s (k+1) (Ls++[UInt8.ofNat (valB (padB X' 8))]) (X'.drop 8) (false||decide (X'.length<8)):=by
 obtain ⟨h1,h2,h3,h4⟩:=h;refine ⟨by simp;omega,by rw [List.length_drop];omega,fun hs hl=>?_,fun hor=>?_⟩
 ·obtain ⟨g1,g2,g3⟩:=h3 hs (by omega);have hl2:8≤X'.length:=by rw [g2,List.length_drop];omega
  refine ⟨?_,by rw [g2,List.drop_drop];congr 1,by simp;omega⟩;rw [bytesBits_snoc,byteBits_val _ (padB_len _ _),padB_take _ _ hl2,g1,g2,show 8 * (k+1)=8 * k+8 by omega,List.take_add]
 ·by_cases hz:s=true∨X.length<8 * k
  ·exact absurd (h4 hz) (by simp)
  ·have hs:s=false:=by cases s <;>simp_all
   have hk:8 * k≤X.length:=by simp [hs] at hz;omega
   obtain ⟨g1,g2,g3⟩:=h3 hs hk;rcases hor with h|h
   ·simp [hs] at h
   ·have:X'.length<8:=by rw [g2,List.length_drop];omega
    simp [this]
theorem TxtI.stop {X:List Bool} {s:Bool} {k W:Nat} {Ls:List UInt8} {X':List Bool} (h:TxtI X s k Ls X' true) (hk:k≤W):TxtI X s W Ls X' true:=by
 obtain ⟨h1,h2,h3,h4⟩:=h;refine ⟨by omega,h2,fun hs hl=>?_,fun _=>rfl⟩;obtain ⟨_,_,g3⟩:=h3 hs (by omega);cases g3
def RTextR (p:Nat) (X:List Bool) (s:Bool) (W:Nat) (w:World) (e:Ending) (w':World):Prop:=∃Ls X' s',e= .returned (.string (txt Ls))∧But [p] w w'∧Rd p X' s' w'∧TxtI X s W Ls X' s'
theorem rtext_is (p:Nat) (X:List Bool) (s:Bool) (W:Nat) (w:World) (h:Rd p X s w) (hW:W≤1099511627776):
  Calls Tryz.prog 118 #[.pointer (some ⟨p,0,none⟩),.int .i64 (W:Int)] w (RTextR p X s W w):=by
 obtain ⟨i0,hi,hz0,hz1,hz2⟩:=info_parts Tryz.infoU8;have hp:=h.lt;have HH:=Hid.mk h;clear h;go_enter Tryz.func118,Tryz.ntmps118;go_wp2;go_loopg [5,6] W (fun r v d wr=>∃(k:Nat) (Ls:List UInt8) (X':List Bool) (s':Bool),r=W - k∧k≤W∧d= .int .i64 (k:Int)∧But [p] w wr∧Rd p X' s' wr∧Ls.length=k∧TxtI X s k Ls X' s'∧wr.ownsRow w.heap.size 5 1 v Ls.length (Ls.map byteU))
 case atStart=>exact ⟨0,[],X,s,rfl,by omega,rfl,But.refl _ _,HH.out,rfl,⟨by simp,by omega,fun h _=>by simp [bytesBits,h],fun h=>by simpa using h⟩,World.ownsRow_nil _ _ _ _⟩
 case round=>
  obtain ⟨k,Ls,X',s',hr,hkW,rfl,hB,hR,hlen,hT,hO⟩:=hrel;have HB:=Hid.mk hB;have HR:=Hid.mk hR;have HT:=Hid.mk hT;have HO:=Hid.mk hO;have HN:=Hid.mk hlen;have hcr:=conv_row hO;obtain ⟨t,n, -, -, -,⟨c0,c1,c2⟩, -⟩:=hR;clear hB hT hO hlen c0 c1;by_cases hlt:k<W
  ·cases s'
   ·clear hcr;have hcl:=rnum_is p _ _ 8 wr HR.out (by omega)
    have hx256:valB (padB X' 8)<256:=by
     have:=valB_lt (padB X' 8);rw [padB_len] at this;exact this
    have HS:=Hid.mk HT.out.step;have hbU:Hid (byteU (UInt8.ofNat (valB (padB X' 8)))= .int .u8 (valB (padB X' 8):Int)):=byte_of _ (padB_len _ _);generalize valB (padB X' 8)=x at *;go_wp2_with fail;refine hcl.mono ?_;rintro e w2 ⟨rfl,hB2,hR2⟩;have HO2:=Hid.mk (own_but HO.out hB2 hp);have HB2:=Hid.mk (HB.out.trans hB2);have HR2:=Hid.mk hR2;have hs2:=HB2.out.size;have hn2:Ls.length≤W:=by have:=HN.out;omega
    clear hB2 hR2 hcl HB HR HO c2;go_wp2_with (first|(at_builtin;refine wpList_append_own _ rfl _ _ 105 rfl w.heap.size 5 i0 (.int .u8 0) 1 1 Tryz.underlying105 hi hz0 hz1 hz2 rfl (by decide) _ Ls.length (Ls.map byteU) rfl ?p1 ⟨w2.heap.size,0,none⟩ 1 1 [.int .u8 (x:Int)] rfl rfl ?d1 ?d2 ?d3 ?d4 ?d5 ?_))
    case p1=>exact World.ownsRow.alloc HO2.out _
    try (case d1=>exact one_new _ _ _ _ (by simp))
    case d2=>first|exact ⟨rfl,rfl⟩|(intro u hu;simp at hu;subst hu;rfl)
    case d3=>unfold maxLen;omega
    case d4=>omega
    case d5=>first|omega|(simp;omega)
    intro v5 w5 hown5 hgrow5 _;have HB5:=Hid.mk (but_grown (HB2.out.alloc _) hgrow5 (fun g hg=>(World.ownsRow.lt HO2.out g hg).1));have hp2:=HR2.out.lt;have HR5:Hid (Rd p _ _ w5):=(HR2.out.kept (w':=w2.alloc _) (Bel.block (Bel.step_alloc (Bel.refl w2) _) p hp2)).kept (hgrow5.block p (by simp;omega) (fun e=>by have:=(World.ownsRow.lt HO2.out p e.symm).1;omega))
    have HO5:Hid (w5.ownsRow w.heap.size 5 1 v5 (Ls++[UInt8.ofNat x]).length ((Ls++[UInt8.ofNat x]).map byteU)):=by
     show w5.ownsRow _ _ _ _ _ _;rw [List.map_append,List.length_append];simp only [List.map_cons,List.map_nil,hbU.out];exact hown5
    clear hown5 hgrow5 hn2;go_wp2;go_roundg (W - (k+1))
    case measure=>omega
    case rel=>exact ⟨k+1,_,_,_,rfl,by omega,by go_num,HB5.out,HR5.out,by simpa using HN.out,HS.out,HO5.out⟩
   ·go_wp2;go_ret;exact ⟨Ls,X',true,rfl,HB.out,HR.out,HT.out.stop (by omega)⟩
  ·go_wp2;go_ret;obtain rfl:k=W:=by omega
   exact ⟨Ls,X',s',rfl,HB.out,HR.out,HT.out⟩
end Go.Proofs.YtpapdkhjdelfcabGreat
