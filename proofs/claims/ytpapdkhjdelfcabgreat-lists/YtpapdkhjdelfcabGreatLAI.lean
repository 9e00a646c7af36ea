import Derived.Test.YtpapdkhjdelfcabGreatLAH
import Derived.Deep.LoopGhost
namespace Go.Proofs.YtpapdkhjdelfcabGreat
open Go.RowKit
set_option maxRecDepth 100000
set_option maxHeartbeats 4000000
theorem O9 (X:List Bool) (W:Nat) (h:W≤X.length):BZ X W=X.take W:=by
 apply List.ext_getElem?;intro i;by_cases hi:i<W
 ·rw [List.getElem?_take_of_lt hi];have hx:i<X.length:=by omega
  simp [BZ,hi,List.getD,List.getElem?_eq_getElem hx]
 ·rw [List.getElem?_eq_none (by rw [GV];omega),List.getElem?_eq_none (by rw [jk];omega)]
theorem Rd.kept {p:Nat} {X:List Bool} {s:Bool} {w w':World} (h:Rd p X s w) (hb:w'.heap[p]?=w.heap[p]?):Rd p X s w':=by
 obtain ⟨t,n,h1,h2,h3,⟨c0,c1,c2⟩,hf⟩:=h;exact ⟨t,n,h1,h2,h3,⟨(World.cell?_of_block (a:=⟨p,0,none⟩) hb).trans c0,(World.cell?_of_block (a:=⟨p,1,none⟩) hb).trans c1,(World.cell?_of_block (a:=⟨p,2,none⟩) hb).trans c2⟩,fun j=>(World.frozen?_of_block (a:=⟨p,j,none⟩) hb).trans (hf j)⟩
theorem Rd.lt {p:Nat} {X:List Bool} {s:Bool} {w:World} (h:Rd p X s w):p<w.heap.size:=by
 obtain ⟨t,n,h1,h2,h3,⟨c0,c1,c2⟩,hf⟩:=h;exact jF c0
theorem EP {p base:Nat} {e:TypeId} {s:Nat} {w w':World} {v:Value} {n:Nat} {xs:List Value} (h:w.ownsRow base e s v n xs) (k:Ab [p] w w') (hp:p<base):w'.ownsRow base e s v n xs:=
 World.ownsRow.kept h (row := some p) ⟨k.os, k.tape, k.output, k.size, fun j hj hne => k.block j hj (by simpa using fun e => hne (by rw [e]))⟩ (by
   cases hv : v.ownBlock with
   | none => exact Or.inl rfl
   | some g => exact Or.inr (fun e => by have := (h.lt g hv).1; cases e; omega))
theorem Mt {p:Nat} {w X w5:World} {v:Value} (hb:Ab [p] w X) (hg:X.grownBy w5 v.ownBlock) (hv:∀g,v.ownBlock=some g→w.heap.size≤g):Ab [p] w w5:=
 Ab.mk (hg.os.trans hb.os) (hg.tape.trans hb.tape) (hg.output.trans hb.output) (jX hb.size hg.size) (fun k hk hm=>(hg.block k (jN hk hb.size) (fun e=>by have:=hv k e.symm;omega)).trans (hb.block k hk hm))
def Gb (X:List Bool) (s:Bool) (W:Nat) (Ls:List UInt8) (X':List Bool) (s':Bool):Prop:=Ls.length≤W∧X'.length≤X.length∧(s=false→8 * W≤X.length→Az Ls=X.take (8 * W)∧X'=X.drop (8 * W)∧s'=false)∧(s=true∨X.length<8 * W→s'=true)
theorem Gb.step {X:List Bool} {s:Bool} {k:Nat} {Ls:List UInt8} {X':List Bool} (h:Gb X s k Ls X' false):Gb X s (k+1) (Ls++[UInt8.ofNat (AD (BZ X' 8))]) (X'.drop 8) (false||decide (X'.length<8)):=by
 obtain ⟨h1,h2,h3,h4⟩:=h;refine ⟨by simp;omega,by rw [jh];omega,fun hs hl=>?_,fun hor=>?_⟩
 ·obtain ⟨g1,g2,g3⟩:=h3 hs (by omega);have hl2:8≤X'.length:=by rw [g2,jh];omega
  refine ⟨?_,by rw [g2,List.drop_drop];congr 1,by simp;omega⟩;rw [Ly,Lw _ (GV _ _),O9 _ _ hl2,g1,g2,show 8 * (k+1)=8 * k+8 by omega,List.take_add]
 ·by_cases hz:s=true∨X.length<8 * k
  ·exact absurd (h4 hz) (by simp)
  ·have hs:s=false:=by cases s <;>simp_all
   have hk:8 * k≤X.length:=by simp [hs] at hz;omega
   obtain ⟨g1,g2,g3⟩:=h3 hs hk;rcases hor with h|h
   ·simp [hs] at h
   ·have:X'.length<8:=by rw [g2,jh];omega
    simp [this]
theorem Gb.stop {X:List Bool} {s:Bool} {k W:Nat} {Ls:List UInt8} {X':List Bool} (h:Gb X s k Ls X' true) (hk:k≤W):Gb X s W Ls X' true:=by
 obtain ⟨h1,h2,h3,h4⟩:=h;refine ⟨by omega,h2,fun hs hl=>?_,fun _=>rfl⟩;obtain ⟨_,_,g3⟩:=h3 hs (by omega);cases g3
def Vx (p:Nat) (X:List Bool) (s:Bool) (W:Nat) (w:World) (e:Ending) (w':World):Prop:=∃Ls X' s',e= .returned (.string (Ai Ls))∧Ab [p] w w'∧Rd p X' s' w'∧Gb X s W Ls X' s'
theorem Rl (p:Nat) (X:List Bool) (s:Bool) (W:Nat) (w:World) (h:Rd p X s w) (hW:W≤1099511627776):
  Calls Tryz.prog 118 #[.pointer (some ⟨p,0,none⟩),.int .i64 (W:Int)] w (Vx p X s W w):=by
 obtain ⟨i0,hi,hz0,hz1,hz2⟩:=info_parts Tryz.infoU8;have hp:=h.lt;have HH:=jp h;clear h;go_enter Tryz.func118,Tryz.ntmps118;go_wp2;go_loopg [5,6] W (fun r v d wr=>∃(k:Nat) (Ls:List UInt8) (X':List Bool) (s':Bool),r=W - k∧k≤W∧d= .int .i64 (k:Int)∧Ab [p] w wr∧Rd p X' s' wr∧Ls.length=k∧Gb X s k Ls X' s'∧wr.ownsRow w.heap.size 5 1 v Ls.length (Ls.map D6))
 case atStart=>exact ⟨0,[],X,s,rfl,by omega,rfl,Ab.refl _ _,HH.out,rfl,⟨by simp,by omega,fun h _=>by simp [Az,h],fun h=>by simpa using h⟩,World.ownsRow_nil _ _ _ _⟩
 case round=>
  obtain ⟨k,Ls,X',s',hr,hkW,rfl,hB,hR,hlen,hT,hO⟩:=hrel;have HB:=jp hB;have HR:=jp hR;have HT:=jp hT;have HO:=jp hO;have HN:=jp hlen;have hcr:=LV hO;obtain ⟨t,n, -, -, -,⟨c0,c1,c2⟩, -⟩:=hR;clear hB hT hO hlen c0 c1;by_cases hlt:k<W
  ·cases s'
   ·clear hcr;have hcl:=LN p _ _ 8 wr HR.out (by omega)
    have hx256:AD (BZ X' 8)<256:=by
     have:=FG (BZ X' 8);rw [GV] at this;exact this
    have HS:=jp HT.out.step;have hbU:Hid (D6 (UInt8.ofNat (AD (BZ X' 8)))= .int .u8 (AD (BZ X' 8):Int)):=PO _ (GV _ _);generalize AD (BZ X' 8)=x at *;go_wp2_with fail;refine hcl.mono ?_;rintro e w2 ⟨rfl,hB2,hR2⟩;have HO2:=jp (EP HO.out hB2 hp);have HB2:=jp (HB.out.trans hB2);have HR2:=jp hR2;have hs2:=HB2.out.size;have hn2:Ls.length≤W:=by have:=HN.out;omega
    clear hB2 hR2 hcl HB HR HO c2;go_wp2_with (first|(at_builtin;refine wpList_append_own _ rfl _ _ 105 rfl w.heap.size 5 i0 (.int .u8 0) 1 1 Tryz.underlying105 hi hz0 hz1 hz2 rfl (by decide) _ Ls.length (Ls.map D6) rfl ?p1 ⟨w2.heap.size,0,none⟩ 1 1 [.int .u8 (x:Int)] rfl rfl ?d1 ?d2 ?d3 ?d4 ?d5 ?_))
    case p1=>exact World.ownsRow.alloc HO2.out _
    try (case d1=>exact Fz _ _ _ _ (by simp))
    case d2=>first|exact ⟨rfl,rfl⟩|(intro u hu;simp at hu;subst hu;rfl)
    case d3=>unfold maxLen;omega
    case d4=>omega
    case d5=>first|omega|(simp;omega)
    intro v5 w5 hown5 hgrow5 _;have HB5:=jp (Mt (HB2.out.alloc _) hgrow5 (fun g hg=>(World.ownsRow.lt HO2.out g hg).1));have hp2:=HR2.out.lt;have HR5:Hid (Rd p _ _ w5):=(HR2.out.kept (w':=w2.alloc _) (Aa.block (Aa.step_alloc (jD w2) _) p hp2)).kept (hgrow5.block p (by simp;omega) (fun e=>by have:=(World.ownsRow.lt HO2.out p e.symm).1;omega))
    have HO5:Hid (w5.ownsRow w.heap.size 5 1 v5 (Ls++[UInt8.ofNat x]).length ((Ls++[UInt8.ofNat x]).map D6)):=by
     show w5.ownsRow _ _ _ _ _ _;rw [List.map_append,jO];simp only [List.map_cons,List.map_nil,hbU.out];exact hown5
    clear hown5 hgrow5 hn2;go_wp2;go_roundg (W - (k+1))
    case measure=>omega
    case rel=>exact ⟨k+1,_,_,_,rfl,by omega,by go_num,HB5.out,HR5.out,by simpa using HN.out,HS.out,HO5.out⟩
   ·go_wp2;go_ret;exact ⟨Ls,X',true,rfl,HB.out,HR.out,HT.out.stop (by omega)⟩
  ·go_wp2;go_ret;obtain rfl:k=W:=by omega
   exact ⟨Ls,X',s',rfl,HB.out,HR.out,HT.out⟩
theorem Uz (B:List Bool):∀a:Nat,B.foldl (fun a b=>2 * a+b.toNat) a=a * 2 ^ B.length+AD B:=by
 induction B with
 |nil=>intro a;simp [AD]
 |cons b B ih=>
  intro a
  have h2:AD (b::B)=b.toNat * 2 ^ B.length+AD B:=by
   have:=ih (2 * 0+b.toNat);simpa [AD] using this
  rw [List.foldl_cons,ih,h2,List.length_cons,Nat.pow_succ];rw [Nat.add_mul,Nat.mul_comm 2 a,Nat.mul_assoc,Nat.mul_comm 2 (2 ^ B.length)];omega
theorem Wq (A B:List Bool):AD (A++B)=AD A * 2 ^ B.length+AD B:=by
 rw [AD,List.foldl_append,Uz];rfl
theorem QT (b:UInt8) (n:Nat):AD ((BT b).drop n)=b.toNat % 2 ^ (8 - n):=by
 have h1:AD (BT b)=b.toNat:=by rw [BT,M5];exact Nat.mod_eq_of_lt b.toNat_lt
 have h2:BT b=(BT b).take n++(BT b).drop n:=(List.take_append_drop _ _).symm;have hl:((BT b).drop n).length=8 - n:=by rw [jh,In]
 have h3:=FG ((BT b).drop n);have h4:=Wq ((BT b).take n) ((BT b).drop n);rw [←h2,h1,hl] at h4;rw [hl] at h3;rw [h4,Nat.add_comm,Nat.add_mul_mod_self_right,Nat.mod_eq_of_lt h3]
def EL (X:List Bool) (s:Bool):Bool:=!s && decide (X.length<8) && decide (AD X=0)
theorem U9 (b:UInt8) (n:Nat) (hn:n≤8):(((b.toNat:Int) * 2 ^ n % 256)==0)=decide (b.toNat % 2 ^ (8 - n)=0):=by
 have e:((b.toNat:Int) * 2 ^ n % 256)=((b.toNat * 2 ^ n % 256:Nat):Int):=by simp
 have h256:(256:Nat)=2 ^ (8 - n) * 2 ^ n:=by rw [←Nat.pow_add,show 8 - n+n=8 by omega]
 rw [e,h256,Nat.mul_mod_mul_right];have hp:0<2 ^ n:=Nat.two_pow_pos n;by_cases h:b.toNat % 2 ^ (8 - n)=0
 ·simp [h]
 ·have:b.toNat % 2 ^ (8 - n) * 2 ^ n≠0:=Nat.mul_ne_zero h (by omega);simp only [h,decide_false,jI];exact_mod_cast this
theorem S8 (p:Nat) (X:List Bool) (s:Bool) (w:World) (h:Rd p X s w):
  Calls Tryz.prog 120 #[.pointer (some ⟨p,0,none⟩)] w (GX w (EL X s)):=by
 obtain ⟨t,n,hX,hn8,ht0,⟨c0,c1,c2⟩, -⟩:=h;have HX:=jp hX;have HZ:=jp ht0;have hXl:Hid (X.length=8 * t.size - n):=by show X.length=_;rw [HX.out,jh,Bk,Array.length_toList];rfl
 clear hX ht0;cases s
 rotate_left
 ·go_enter Tryz.func120,Tryz.ntmps120;go_wp2;go_ret;exact ⟨rfl,by solve_by_elim [jA,jB,jC,jD,jE]⟩
 by_cases hn0:n=0
 ·subst hn0;replace c1:w.cell? ⟨p,1,none⟩=some (.int .u64 0):=c1
  have hov:Hid (EL X false=((t.size:Int)==0)):=by
   show EL X false=_;have hl:=hXl.out;unfold EL;by_cases hz:t.size=0
   ·have:X=[]:=jS (by omega);rw [this];simp [hz,AD]
   ·have h1:¬X.length<8:=by omega
    have h2:¬((t.size:Int)=0):=by omega
    have h3:((t.size:Int)==0)=false:=by rw [jI];exact h2
    rw [h3];simp [h1]
  go_enter Tryz.func120,Tryz.ntmps120;go_wp2;go_ret;exact ⟨by rw [hov.out];rfl,by solve_by_elim [jA,jB,jC,jD,jE]⟩
 ·have hnz:(((n:Int))==0)=false:=by simp [hn0]
  by_cases h1:t.size=1
  ·have hpos:0<t.size:=by omega
   have hov:Hid (EL X false=(((t[0].toNat:Int) * 2 ^ n % 256)==0)):=by
    show EL X false=_;have hl:=hXl.out;obtain ⟨rest,hr1, -⟩:=Oy t n hn8 hpos
    have hrest:rest=[]:=by
     have:=congrArg List.length hr1;rw [Array.length_toList] at this;have h3:t.data.size=1:=h1;rw [h3] at this;exact jS (by simpa using this)
    have hXd:X=(BT t[0]).drop n:=by rw [HX.out,hr1,hrest];simp [Az]
    have hlt:X.length<8:=by omega
    unfold EL;rw [U9 _ _ (by omega),hXd,QT _ _,←hXd];simp [hlt]
   have hs1:((t.size:Int)==1)=true:=by simp [h1]
   go_enter Tryz.func120,Tryz.ntmps120;go_wp2_with fail;go_quiet (fail);go_wp2;go_ret;exact ⟨by rw [hov.out];rfl,by solve_by_elim [jA,jB,jC,jD,jE]⟩
  ·have hov:Hid (EL X false=false):=by
    show EL X false=false;have hl:=hXl.out;have hz:=HZ.out;have:¬X.length<8:=by omega
    unfold EL;simp [this]
   have hs1:((t.size:Int)==1)=false:=by simp;omega
   go_enter Tryz.func120,Tryz.ntmps120
   go_wp2_with fail
   go_quiet (fail)
   go_wp2
   go_ret
   exact ⟨by rw [hov.out];rfl,by solve_by_elim [jA,jB,jC,jD,jE]⟩
def Wx (t:ByteArray) (w:World) (e:Ending) (w':World):Prop:=e= .returned (.agg #[.string t,.int .u64 0,.bool false])∧Aa w w'
theorem JQ (t:ByteArray) (w:World):Calls Tryz.prog 117 #[.string t] w (Wx t w):=by
 go_enter Tryz.func117,Tryz.ntmps117;go_wp2;refine bodyPost_ret (v:= .agg #[.string t,.int .u64 0,.bool false]) (by simp [results,Tryz.results117,go_sem]) rfl ⟨rfl,by solve_by_elim [jA,jB,jC,jD,jE]⟩
theorem Rd.new {p:Nat} {t:ByteArray} {w:World} (c0:w.cell? ⟨p,0,none⟩=some (.string t)) (c1:w.cell? ⟨p,1,none⟩=some (.int .u64 0)) (c2:w.cell? ⟨p,2,none⟩=some (.bool false)) (hf:∀j,w.frozen? ⟨p,j,none⟩=false):Rd p (Az t.data.toList) false w:=
 ⟨t,0,by simp,by omega,fun _=>rfl,⟨c0,c1,c2⟩,hf⟩
def Ic (c:BitVec 32):Nat→BitVec 32
 |0=>c
 |j+1=>EK (Ic c j)
theorem RF (c:BitVec 32) (b:UInt8):FD c b=Ic (c ^^^ BitVec.ofNat 32 b.toNat) 8:=rfl
theorem M8 (c:BitVec 32) (b:Nat):bits .xor .u32 (c.toNat:Int) ((b:Int) % 4294967296)=((c ^^^ BitVec.ofNat 32 b).toNat:Int):=by
 have e:((b:Int) % 4294967296)=((b % 4294967296:Nat):Int):=by omega
 have hc:=c.isLt;rw [e,u32_xor_nat _ _ (by omega) (by omega),BitVec.toNat_xor,BitVec.toNat_ofNat]
theorem WR (y:BitVec 32):bits .xor .u32 ((y.toNat:Int) / 2) (3988292384 * bits .and .u32 (y.toNat:Int) 1 % 4294967296)=((EK y).toNat:Int):=by
 have hy:=y.isLt;have e1:((y.toNat:Int) / 2)=((y.toNat / 2:Nat):Int):=by omega
 rw [show (1:Int)=((1:Nat):Int) from rfl,u32_and_nat _ _ (by omega) (by omega),Nat.and_one_is_mod,e1];have e2:(3988292384 * ((y.toNat % 2:Nat):Int) % 4294967296)=((3988292384 * (y.toNat % 2):Nat):Int):=by omega
 rw [e2,u32_xor_nat _ _ (by omega) (by omega)];unfold EK;rw [BitVec.toNat_xor,BitVec.toNat_ushiftRight,Nat.shiftRight_eq_div_pow]
 have e3:(if y.getLsbD 0 then 0xEDB88320#32 else 0#32).toNat=3988292384 * (y.toNat % 2):=by
  have h0:y.getLsbD 0=(y.toNat % 2==1):=by
   rw [BitVec.getLsbD,Nat.testBit_zero];rcases Nat.mod_two_eq_zero_or_one y.toNat with h|h <;>simp [h]
  rw [h0];rcases Nat.mod_two_eq_zero_or_one y.toNat with h|h <;>simp [h]
 rw [e3]
theorem Ql (l:List UInt8) (k:Nat) (hk:k<l.length) (c:BitVec 32):(l.take (k+1)).foldl FD c=FD ((l.take k).foldl FD c) l[k]:=by
 rw [jQ hk,List.foldl_append];rfl
def CB (l:List UInt8):BitVec 32:=l.foldl FD 0xFFFFFFFF#32 ^^^ 0xFFFFFFFF#32
def Sj (w:World) (x:BitVec 32) (e:Ending) (w':World):Prop:=e= .returned (.int .u32 (x.toNat:Int))∧w=w'
theorem PU (t:ByteArray) (w:World) (ht:t.size≤1099511627776):
  Calls Tryz.prog 211 #[.string t] w (Sj w (CB t.data.toList)):=by
 have hz:Hid (t.data.toList.length=t.size):=by show _=_;rw [Array.length_toList];rfl
 go_enter Tryz.func211,Tryz.ntmps211;go_wp2;go_loopg [3,4] t.size (fun r x d wr=>w=wr∧∃k:Nat,r=t.size - k∧k≤t.size∧x= .int .u32 (((t.data.toList.take k).foldl FD 0xFFFFFFFF#32).toNat:Int)∧d= .int .i64 (k:Int))
 case atStart=>exact ⟨rfl,0,rfl,by omega,rfl,rfl⟩
 case round=>
  obtain ⟨rfl,k,hr,hk,rfl,rfl⟩:=hrel;by_cases hlt:k<t.size
  ·have hft:Hid ((t.data.toList.take (k+1)).foldl FD 0xFFFFFFFF#32=FD ((t.data.toList.take k).foldl FD 0xFFFFFFFF#32) (t[k]'hlt)):=Ql t.data.toList k (by rw [hz.out];exact hlt) _;generalize (t.data.toList.take k).foldl FD 0xFFFFFFFF#32=c at *;go_wp2;go_loopg [3,5] 8 (fun r x d wr=>w=wr∧∃j:Nat,r=8 - j∧j≤8∧x= .int .u32 ((Ic (c ^^^ BitVec.ofNat 32 (t[k]'hlt).toNat) j).toNat:Int)∧d= .int .i64 (j:Int))
   case atStart=>exact ⟨rfl,0,rfl,by omega,by rw [M8];rfl,rfl⟩
   case round=>
    obtain ⟨rfl,j,hr2,hj,rfl,rfl⟩:=hrel;by_cases hj8:j<8
    ·have hst:Hid (Ic (c ^^^ BitVec.ofNat 32 (t[k]'hlt).toNat) (j+1)=EK (Ic (c ^^^ BitVec.ofNat 32 (t[k]'hlt).toNat) j)):=rfl;generalize Ic (c ^^^ BitVec.ofNat 32 (t[k]'hlt).toNat) j=y at *;go_wp2;go_roundg (8 - (j+1))
     case measure=>omega
     case rel=>exact ⟨rfl,j+1,rfl,by omega,by rw [WR,hst.out],by go_num⟩
    ·obtain rfl:j=8:=by omega
     rw [←RF,←hft.out];go_wp2;go_roundg (t.size - (k+1))
     case measure=>omega
     case rel=>exact ⟨rfl,k+1,rfl,by omega,rfl,by go_num⟩
  ·have he:Hid (t.data.toList.take k=t.data.toList):=jR (by rw [hz.out];omega);go_wp2;go_ret;refine ⟨?_,rfl⟩;show Ending.returned (.int .u32 (bits .xor .u32 _ 4294967295))=_;have:=M8 ((t.data.toList.take k).foldl FD 0xFFFFFFFF#32) 4294967295;rw [show (((4294967295:Nat):Int) % 4294967296)=4294967295 from rfl] at this;rw [this,he.out];rfl
def Kj (a b c d:Int):ByteArray:=⟨#[UInt8.ofNat a.toNat,UInt8.ofNat b.toNat,UInt8.ofNat c.toNat,UInt8.ofNat d.toNat]⟩
theorem SA (w:World) (a b c d:Int):(convert 105 9 (.slice (some ⟨w.heap.size,0,none⟩) 4 4)).run Tryz.prog (w.alloc (.cells #[.int .u8 a,.int .u8 b,.int .u8 c,.int .u8 d] 5))= .ok (.string (Kj a b c d)) (w.alloc (.cells #[.int .u8 a,.int .u8 b,.int .u8 c,.int .u8 d] 5)):=by
 rw [run_convert_bytes_string _ 105 9 5 _ 4 4 Tryz.underlying105 Tryz.underlying5 Tryz.underlying9];rw [run_bytesToString _ _ 4 4 [a,b,c,d] (by simp [loadCells,loadCellsFrom,go_sem])];rfl
def Cn (x:BitVec 32):List UInt8:=[UInt8.ofNat x.toNat,UInt8.ofNat (x.toNat / 256),UInt8.ofNat (x.toNat / 65536),UInt8.ofNat (x.toNat / 16777216)]
theorem MH (n:Nat):UInt8.ofNat ((n:Int) % 256).toNat=UInt8.ofNat n:=by
 have:((n:Int) % 256).toNat=n % 256:=by omega
 rw [this];apply UInt8.toNat_inj.1;simp
theorem Vi (x:BitVec 32):Kj ((x.toNat:Int) % 256) ((x.toNat:Int) / 256 % 256) ((x.toNat:Int) / 65536 % 256) ((x.toNat:Int) / 16777216)=Ai (Cn x):=by
 have e1:=MH x.toNat;have e2:=MH (x.toNat / 256);have e3:=MH (x.toNat / 65536);rw [show ((x.toNat / 256:Nat):Int)=(x.toNat:Int) / 256 by omega] at e2;rw [show ((x.toNat / 65536:Nat):Int)=(x.toNat:Int) / 65536 by omega] at e3;have e4:((x.toNat:Int) / 16777216).toNat=x.toNat / 16777216:=by omega
 unfold Kj Ai Cn;rw [e1,e2,e3,e4]
def DE (w:World) (l:List UInt8) (e:Ending) (w':World):Prop:=e= .returned (.string (Ai l))∧Aa w w'
theorem Nf (t:ByteArray) (w:World) (ht:t.size≤1099511627776):
  Calls Tryz.prog 171 #[.string t] w (DE w (Cn (CB t.data.toList))):=by
 have hcl:=PU t w ht;have hcv:=SA w;generalize CB t.data.toList=x at *;go_enter Tryz.func171,Tryz.ntmps171;go_wp2_with fail;refine hcl.mono ?_;rintro e w2 ⟨rfl,rfl⟩;have hx:=x.isLt;clear hcl;go_wp2;go_ret;refine ⟨?_,by solve_by_elim [jA,jB,jC,jD,jE]⟩;show Ending.returned (.string (Kj _ _ _ _))=_;rw [Vi]
theorem Jd (t:ByteArray) (w:World) (ht:t.size≤1099511627776):
  Calls Tryz.prog 115 #[.string t] w (DE w (t.data.toList++Cn (CB t.data.toList))):=by
 have hcl:=Nf t w ht;have hsz:(Ai (Cn (CB t.data.toList))).size=4:=rfl
 have he:Hid (t++Ai (Cn (CB t.data.toList))=Ai (t.data.toList++Cn (CB t.data.toList))):=by
  show _=_;apply ByteArray.ext;simp [Ai]
 unfold DE at hcl;generalize Ai (Cn (CB t.data.toList))=y at *;go_enter Tryz.func115,Tryz.ntmps115;go_wp2_with fail;refine hcl.mono ?_;rintro e w2 ⟨rfl,hb⟩;clear hcl;go_wp2;go_ret;exact ⟨by rw [←he.out];rfl,hb⟩
def CQ (l:List UInt8):Option (List UInt8):=if l.length≤4 then none else if l.drop (l.length - 4)=Cn (CB (l.take (l.length - 4))) then some (l.take (l.length - 4)) else none
def Gr:Option (List UInt8)→Value
 |some b=> .tuple #[.string (Ai b),.bool true]
 |none=> .tuple #[.string ByteArray.empty,.bool false]
def Ga (w:World) (o:Option (List UInt8)) (e:Ending) (w':World):Prop:=e= .returned (Gr o)∧Aa w w'
theorem Kr (t:ByteArray) (i j:Nat):(t.extract i j).data.toList=(t.data.toList.drop i).take (j - i):=by
 rw [ByteArray.data_extract,Array.toList_extract,List.extract_eq_take_drop]
theorem GT (t:ByteArray) (w:World) (ht:t.size≤1099511627776):
  Calls Tryz.prog 116 #[.string t] w (Ga w (CQ t.data.toList)):=by
 have hz:Hid (t.data.toList.length=t.size):=by show _=_;rw [Array.length_toList];rfl
 by_cases h4:t.size≤4
 ·go_enter Tryz.func116,Tryz.ntmps116;go_wp2;go_ret2;refine ⟨?_,by solve_by_elim [jA,jB,jC,jD,jE]⟩;unfold CQ;rw [hz.out,if_pos h4];rfl
 ·have hcl:=fun wx=>Nf (t.extract 0 (t.size - 4)) wx (by simp;omega)
  have hbody:Hid ((t.extract 0 (t.size - 4)).data.toList=t.data.toList.take (t.size - 4)):=by show _=_;rw [Kr];simp
  have htail:Hid ((t.extract (t.size - 4) t.size).data.toList=t.data.toList.drop (t.size - 4)):=by
   show _=_;rw [Kr];exact jR (by rw [jh,hz.out];omega)
  rw [hbody.out] at hcl;unfold DE at hcl;obtain ⟨y,hy⟩:∃y,y=Ai (Cn (CB (t.data.toList.take (t.size - 4)))):=⟨_,rfl⟩;rw [←hy] at hcl;have HY:=jp hy;clear hy;go_enter Tryz.func116,Tryz.ntmps116;go_wp2_with fail;have hw4:IntKind.i64.wrap ((t.size:Int) - 4)=(t.size:Int) - 4:=by rw [IntKind.wrap_i64];omega
  have hl0:(0:Int)≤(t.size:Int) - 4:=by omega
  have hl1:(t.size:Int) - 4≤(t.size:Int):=by omega
  have hl2:((t.size:Int) - 4).toNat=t.size - 4:=by omega
  obtain ⟨g,hg⟩:∃g:Bool,((t.extract (t.size - 4) t.size).toList==y.toList)=g:=⟨_,rfl⟩
  have HG:Hid ((g=true)↔t.data.toList.drop (t.size - 4)=Cn (CB (t.data.toList.take (t.size - 4)))):=by
   show _↔_;rw [←hg];refine FE.trans ⟨fun e=>?_,fun e=>?_⟩
   ·have:=congrArg (fun z=>z.data.toList) e;rw [htail.out,HY.out] at this;exact this
   ·apply ByteArray.ext;apply Array.toList_inj.1;rw [htail.out,HY.out];exact e
  go_region_with (go_at_call 171;refine (hcl _).mono ?_;rintro e w2 ⟨rfl,hb2⟩)
  all_goals
   cases g
   ·go_wp2;go_ret2;refine ⟨?_,by solve_by_elim [jA,jB,jC,jD,jE]⟩;unfold CQ;rw [hz.out,if_neg h4,if_neg (fun e=>by have:=HG.out.2 e;cases this)];rfl
   ·go_wp2;go_ret2;refine ⟨?_,by solve_by_elim [jA,jB,jC,jD,jE]⟩;unfold CQ;rw [hz.out,if_neg h4,if_pos (by first|exact HG.out.1 rfl|exact HG.out.1 trivial),←hbody.out];rfl
def countP (n:Nat):Nat:=(n+48 - 1) / 48
def YJ (n:Nat) (w:World) (e:Ending) (w':World):Prop:=e= .returned (.int .i64 (n:Int))∧w=w'
theorem O2 (t:ByteArray) (w:World) (ht:t.size≤1099511627776):Calls Tryz.prog 123 #[.string t] w (YJ (countP t.size) w):=by
 have he:Hid ((countP t.size:Int)=((t.size:Int)+48 - 1) / 48):=by
  show _=_;unfold countP;omega
 go_enter Tryz.func123,Tryz.ntmps123;go_wp2;go_ret;exact ⟨by rw [he.out];rfl,rfl⟩
theorem OG (t:ByteArray):t=Ai t.data.toList:=by apply ByteArray.ext;simp [Ai]
def Fm (l:List UInt8) (n:Int):List UInt8:=if n<0 then [] else (l.drop (48 * n.toNat)).take 48
def Qf (l:List UInt8) (w:World) (e:Ending) (w':World):Prop:=e= .returned (.string (Ai l))∧Aa w w'
theorem Sk (t:ByteArray) (n:Int) (w:World) (ht:t.size≤1099511627776):Calls Tryz.prog 124 #[.string t,.int .i64 n] w (Qf (Fm t.data.toList n) w):=by
 have hz:Hid (t.data.toList.length=t.size):=by show _=_;rw [Array.length_toList];rfl
 have hcl:=O2 t w ht;by_cases hn:n<0
 ·go_enter Tryz.func124,Tryz.ntmps124;go_wp2;go_ret;exact ⟨by rw [Fm,if_pos hn];rfl,by solve_by_elim [jA,jB,jC,jD,jE]⟩
 ·obtain ⟨k,rfl⟩:∃k:Nat,n=(k:Int):=⟨n.toNat,by omega⟩;have hcut:Hid (Fm t.data.toList (k:Int)=(t.data.toList.drop (48 * k)).take 48):=by show _=_;rw [Fm,if_neg hn];rfl
  have hdef:countP t.size=(t.size+48 - 1) / 48:=rfl;have HD:=jp hdef;generalize countP t.size=c at *;clear hdef;by_cases hk:c≤k
  ·have hnil:Hid ((t.data.toList.drop (48 * k)).take 48=[]):=by
    show _=_;have:=HD.out;rw [List.drop_of_length_le (by rw [hz.out];omega)];rfl
   go_enter Tryz.func124,Tryz.ntmps124
   go_wp2_with fail
   refine hcl.mono ?_
   rintro e w2 ⟨rfl,rfl⟩
   clear hcl
   go_wp2
   go_ret
   exact ⟨by rw [hcut.out,hnil.out];rfl,by solve_by_elim [jA,jB,jC,jD,jE]⟩
  ·have hlt:48 * k<t.size:=by have:=HD.out;omega
   have hb:k≤1099511627776:=by omega
   by_cases he:48 * k+48>t.size
   ·go_enter Tryz.func124,Tryz.ntmps124;go_wp2_with fail;refine hcl.mono ?_;rintro e w2 ⟨rfl,rfl⟩;clear hcl;go_wp2;go_ret;refine ⟨?_,by solve_by_elim [jA,jB,jC,jD,jE]⟩;rw [hcut.out];show Ending.returned (.string (t.extract (k * 48) t.size))=_;rw [OG (t.extract (k * 48) t.size),Kr,Nat.mul_comm k 48,jR (by rw [jh,hz.out];omega),jR (by rw [jh,hz.out];omega)]
   ·go_enter Tryz.func124,Tryz.ntmps124;go_wp2_with fail;refine hcl.mono ?_;rintro e w2 ⟨rfl,rfl⟩;clear hcl;go_wp2;go_ret;refine ⟨?_,by solve_by_elim [jA,jB,jC,jD,jE]⟩;rw [hcut.out];show Ending.returned (.string (t.extract (k * 48) (k * 48+48)))=_;rw [OG (t.extract (k * 48) (k * 48+48)),Kr,Nat.mul_comm k 48,show 48 * k+48 - 48 * k=48 by omega]
theorem Bb.new (W0:World) (ty:TypeId):Bb (fun _=>none) W0 W0.heap.size [] (W0.alloc (.cells #[.slice none 0 0,.int .u8 0,.int .u64 0] ty)):=
 ⟨(jD W0).step_alloc _,jH _,.slice none 0 0,[],[],rfl,by simp,⟨by simp,by simp [AD],by simp⟩,fun j=>by simp,World.ownsRow_nil _ _ _ _,by simp [Value.ownBlock],fun k o h=>by cases h⟩
theorem Fs (l:List UInt8):(Ai l).data.toList=l:=by simp [Ai]
theorem Gi:∀(n:Nat) (L:List Bool),L.length≤n→(AK L).length≤L.length:=by
 intro n
 induction n with
 |zero=>intro L h;rw [jS (by omega:L.length=0)];simp [AK]
 |succ n ih=>
  intro L h;by_cases h8:L.length<8
  ·by_cases h0:0<L.length
   ·rw [MX L h0 h8];simp;omega
   ·rw [jS (by omega:L.length=0)];simp [AK]
  ·have hl:(L.take 8).length=8:=by rw [jk];omega
   have e:L=BT (UInt8.ofNat (AD (L.take 8)))++L.drop 8:=by rw [Lw _ hl,List.take_append_drop]
   have hd:(L.drop 8).length=L.length - 8:=jh;have:=ih (L.drop 8) (by omega);rw [e,Nn,List.length_cons,←e];omega
def DL (h f c m n:Nat):List Bool:=((((([]++Az [81])++Ax h (8 * 4))++Ax f (8 * 1))++Ax c (8 * 4))++Ax m (8 * 1))++Ax n (8 * 2)
theorem NR (h f c m n:Nat):(DL h f c m n).length=104:=by simp [DL,Bd,Bk]
theorem SF (h f c m n:Nat) (w:World) (b1:h≤4611686018427387904) (b2:f≤4611686018427387904) (b3:c≤4611686018427387904) (b4:m≤4611686018427387904) (b5:n≤4611686018427387904):
  Calls Tryz.prog 61 #[.agg #[.int .i64 (h:Int),.int .i64 (f:Int),.int .i64 (c:Int),.int .i64 (m:Int),.int .i64 (n:Int)]] w (DE w (AK (DL h f c m n)++Cn (CB (AK (DL h f c m n))))):=by
 obtain ⟨W0,hW0⟩:∃W0,W0=w.alloc (.cells #[.int .i64 (h:Int),.int .i64 (f:Int),.int .i64 (c:Int),.int .i64 (m:Int),.int .i64 (n:Int)] 91):=⟨_,rfl⟩;have hsz:W0.heap.size=w.heap.size+1:=by rw [hW0];simp
 have hb0:Aa w W0:=by rw [hW0];exact (jD w).step_alloc _
 have q0:W0.cell? ⟨w.heap.size,0,none⟩=some (.int .i64 (h:Int)):=by rw [hW0];simp
 have q1:W0.cell? ⟨w.heap.size,1,none⟩=some (.int .i64 (f:Int)):=by rw [hW0];simp
 have q2:W0.cell? ⟨w.heap.size,2,none⟩=some (.int .i64 (c:Int)):=by rw [hW0];simp
 have q3:W0.cell? ⟨w.heap.size,3,none⟩=some (.int .i64 (m:Int)):=by rw [hW0];simp
 have q4:W0.cell? ⟨w.heap.size,4,none⟩=some (.int .i64 (n:Int)):=by rw [hW0];simp
 have hI0:=Bb.new W0 149;rw [hsz] at hI0;have H0:=jp (Gh W0 (w.heap.size+1) [] ⟨#[81]⟩ _ hI0 (by simp [ByteArray.size]));clear hI0;go_enter Tryz.func61,Tryz.ntmps61;go_wp2_with fail;rw [←hW0];refine H0.out.mono ?_;rintro e w1 ⟨rfl,hI1⟩;clear H0;have hB1:=hI1.1;have H1:=jp (Cb W0 (w.heap.size+1) _ h 4 _ hI1 (by simp [Bk]) (by omega) b1);have a0:=hB1.cell q0;clear hI1;go_wp2_with fail;refine H1.out.mono ?_;rintro e w2 ⟨rfl,hI2⟩;clear H1 a0 hB1;have hB2:=hI2.1;have H2:=jp (Cb W0 (w.heap.size+1) _ f 1 _ hI2 (by simp [Bk,Bd]) (by omega) b2);have a1:=hB2.cell q1;clear hI2;go_wp2_with fail;refine H2.out.mono ?_;rintro e w3 ⟨rfl,hI3⟩;clear H2 a1 hB2;have hB3:=hI3.1;have H3:=jp (Cb W0 (w.heap.size+1) _ c 4 _ hI3 (by simp [Bk,Bd]) (by omega) b3);have a2:=hB3.cell q2;clear hI3;go_wp2_with fail;refine H3.out.mono ?_;rintro e w4 ⟨rfl,hI4⟩;clear H3 a2 hB3;have hB4:=hI4.1;have H4:=jp (Cb W0 (w.heap.size+1) _ m 1 _ hI4 (by simp [Bk,Bd]) (by omega) b4);have a3:=hB4.cell q3;clear hI4;go_wp2_with fail;refine H4.out.mono ?_;rintro e w5 ⟨rfl,hI5⟩;clear H4 a3 hB4;have hB5:=hI5.1;have H5:=jp (Cb W0 (w.heap.size+1) _ n 2 _ hI5 (by simp [Bk,Bd]) (by omega) b5);have a4:=hB5.cell q4;clear hI5;go_wp2_with fail;refine H5.out.mono ?_;rintro e w6 ⟨rfl,hI6⟩;clear H5 a4 hB5;have hI6':Bb (fun _=>none) W0 (w.heap.size+1) (DL h f c m n) w6:=hI6;have H6:=jp (Ij W0 (w.heap.size+1) _ _ hI6' (by rw [NR];omega));clear hI6 hI6';go_wp2_with fail;refine H6.out.mono ?_;rintro e w7 ⟨rfl,hI7⟩;clear H6;have hB7:=jp (hb0.trans hI7.1);have hlen:(AK (DL h f c m n)).length≤104:=by have:=Gi _ (DL h f c m n) (jH _);rw [NR] at this;exact this
 have H7:=Jd (Ai (AK (DL h f c m n))) w7 (by simp [Ai,ByteArray.size];omega);rw [Fs] at H7;generalize AK (DL h f c m n)=B at *;have H8:=jp H7;clear H7 hI7 q0 q1 q2 q3 q4;go_wp2_with fail;refine H8.out.mono ?_;rintro e w8 ⟨rfl,hb8⟩;have hB8:=jp (hB7.out.trans hb8);clear H8 hb8;go_wp2;go_ret;exact ⟨rfl,hB8.out⟩
theorem De (n l m:Int) (w:World) (h1:l≤n) (h2:n≤m):
  Calls Tryz.prog 82 #[.int .i64 n,.int .i64 l,.int .i64 m] w fun e w'=>e= .returned (.bool true)∧w=w':=by
 go_enter Tryz.func82,Tryz.ntmps82;go_wp2;go_ret;exact ⟨rfl,rfl⟩
theorem G5 (n l m:Int) (w:World) (h:¬(l≤n∧n≤m)):
  Calls Tryz.prog 82 #[.int .i64 n,.int .i64 l,.int .i64 m] w fun e w'=>e= .returned (.bool false)∧w=w':=by
 by_cases h1:l≤n
 ·have h2:¬n≤m:=fun h2=>h ⟨h1,h2⟩
  clear h;go_enter Tryz.func82,Tryz.ntmps82;go_wp2;go_ret;exact ⟨rfl,rfl⟩
 ·clear h;go_enter Tryz.func82,Tryz.ntmps82;go_wp2;go_ret;exact ⟨rfl,rfl⟩
def SW (n:Int) (w:World) (e:Ending) (w':World):Prop:=∃x,e= .returned (.bool x)∧w=w'∧Co (∀d:Nat,2≤d→(d:Int)<n→n % d≠0) x
theorem Jo (n:Int) (w:World) (h1:3≤n) (h2:n≤211):
  Calls Tryz.prog 139 #[.int .i64 n] w (SW n w):=by
 go_enter Tryz.func139,Tryz.ntmps139;go_wp2;go_loopg [3] 209 (fun r d wr=>w=wr∧∃k:Nat,r=211 - k∧2≤k∧(k:Int)≤n∧d= .int .i64 k∧∀e:Nat,2≤e→e<k→n % e≠0)
 case atStart=>exact ⟨rfl,2,by omega,by omega,by omega,rfl,fun e h1 h2=>by omega⟩
 case round=>
  obtain ⟨rfl,k,hr,hk2,hkn,rfl,hall⟩:=hrel;have HA:Hid (∀e:Nat,2≤e→e<k→n % e≠0):=hall;clear hall;by_cases hlt:(k:Int)<n
  ·cases hd:(n % (k:Int)==0)
   ·go_wp2_with fail;go_roundg (211 - (k+1))
    case measure=>omega
    case rel => exact ⟨rfl, k + 1, rfl, by omega, by omega, by go_num, fun e h1 h2 => by
      by_cases he : e = k
      · subst he; simpa using hd
      · exact HA.out e h1 (by omega)⟩
   ·go_wp2;go_ret;exact ⟨_,rfl,rfl,⟨fun h=>(by cases h),fun h=>absurd (by simpa using hd) (h k hk2 hlt)⟩⟩
  ·go_wp2;go_ret;exact ⟨_,rfl,rfl,⟨fun _ d h1 h2=>HA.out d h1 (by omega),fun _=>rfl⟩⟩
def Ac.TOK (c:Ac):Prop:=1≤c.alg∧c.alg≤4∧3≤c.slots∧c.slots≤211∧(∀d:Nat,2≤d→(d:Int)<c.slots→c.slots % d≠0)∧1≤c.points∧c.points≤3∧1≤c.probes∧c.probes≤5∧c.key.size=16
theorem Ac.ok_iff (c:Ac):c.OK↔c.TOK∧1≤c.formats∧c.formats≤3:=
 ⟨fun ⟨h1,h2,h3,h4,h5,h6,h7,h8,h9,h10,h11,h12⟩=>⟨⟨h1,h2,h3,h4,h5,h6,h7,h8,h9,h10⟩,h11,h12⟩,fun ⟨⟨h1,h2,h3,h4,h5,h6,h7,h8,h9,h10⟩,h11,h12⟩=>⟨h1,h2,h3,h4,h5,h6,h7,h8,h9,h10,h11,h12⟩⟩
theorem OT (c:Ac) (w:World):
  Calls Tryz.prog 81 #[.agg c.cells] w (Ew w (Co c.TOK)):=by
 obtain ⟨alg,slots,points,probes,key,formats⟩:=c;simp only [Ac.cells];by_cases halg:1≤alg∧alg≤4
 rotate_left
 ·go_enter Tryz.func81,Tryz.ntmps81;go_wp2_with fail;refine (G5 _ _ _ _ halg).mono ?_;rintro e w' ⟨rfl,rfl⟩;go_wp2;go_ret;exact ⟨_,rfl,by solve_by_elim [jA,jB,jC,jD,jE],⟨fun h=>(by cases h),fun h=>absurd ⟨h.1,h.2.1⟩ halg⟩⟩
 obtain ⟨alg1,alg2⟩:=halg;by_cases hslots:3≤slots∧slots≤211
 rotate_left
 ·go_enter Tryz.func81,Tryz.ntmps81;go_wp2_with fail;refine (De _ _ _ _ (by omega) (by omega)).mono ?_;rintro e w' ⟨rfl,rfl⟩;go_wp2_with fail;refine (G5 _ _ _ _ hslots).mono ?_;rintro e w' ⟨rfl,rfl⟩;go_wp2;go_ret;exact ⟨_,rfl,by solve_by_elim [jA,jB,jC,jD,jE],⟨fun h=>(by cases h),fun h=>absurd ⟨h.2.2.1,h.2.2.2.1⟩ hslots⟩⟩
 obtain ⟨slots1,slots2⟩:=hslots;by_cases hprime:∀d:Nat,2≤d→(d:Int)<slots→slots % d≠0
 rotate_left
 ·go_enter Tryz.func81,Tryz.ntmps81;go_wp2_with fail;refine (De _ _ _ _ (by omega) (by omega)).mono ?_;rintro e w' ⟨rfl,rfl⟩;go_wp2_with fail;refine (De _ _ _ _ (by omega) (by omega)).mono ?_;rintro e w' ⟨rfl,rfl⟩;go_wp2_with fail;refine (Jo _ _ (by omega) (by omega)).mono ?_;rintro e w' ⟨x,rfl,rfl,hx⟩;have hxf:x=false:=by cases x;rfl;exact absurd (hx.1 rfl) hprime
  subst hxf;clear hx;go_wp2;go_ret;exact ⟨_,rfl,by solve_by_elim [jA,jB,jC,jD,jE],⟨fun h=>(by cases h),fun h=>absurd h.2.2.2.2.1 hprime⟩⟩
 replace hprime:Hid (∀d:Nat,2≤d→(d:Int)<slots→slots % d≠0):=hprime;by_cases hpoints:1≤points∧points≤3
 rotate_left
 ·go_enter Tryz.func81,Tryz.ntmps81;go_wp2_with fail;refine (De _ _ _ _ (by omega) (by omega)).mono ?_;rintro e w' ⟨rfl,rfl⟩;go_wp2_with fail;refine (De _ _ _ _ (by omega) (by omega)).mono ?_;rintro e w' ⟨rfl,rfl⟩;go_wp2_with fail;refine (Jo _ _ (by omega) (by omega)).mono ?_;rintro e w' ⟨x,rfl,rfl,hx⟩;have hxt:x=true:=hx.2 hprime.out;subst hxt;clear hx;go_wp2_with fail;refine (G5 _ _ _ _ hpoints).mono ?_;rintro e w' ⟨rfl,rfl⟩;go_wp2;go_ret;exact ⟨_,rfl,by solve_by_elim [jA,jB,jC,jD,jE],⟨fun h=>(by cases h),fun h=>absurd ⟨h.2.2.2.2.2.1,h.2.2.2.2.2.2.1⟩ hpoints⟩⟩
 obtain ⟨points1,points2⟩:=hpoints;by_cases hprobes:1≤probes∧probes≤5
 rotate_left
 ·go_enter Tryz.func81,Tryz.ntmps81;go_wp2_with fail;refine (De _ _ _ _ (by omega) (by omega)).mono ?_;rintro e w' ⟨rfl,rfl⟩;go_wp2_with fail;refine (De _ _ _ _ (by omega) (by omega)).mono ?_;rintro e w' ⟨rfl,rfl⟩;go_wp2_with fail;refine (Jo _ _ (by omega) (by omega)).mono ?_;rintro e w' ⟨x,rfl,rfl,hx⟩;have hxt:x=true:=hx.2 hprime.out;subst hxt;clear hx;go_wp2_with fail;refine (De _ _ _ _ (by omega) (by omega)).mono ?_;rintro e w' ⟨rfl,rfl⟩;go_wp2_with fail;refine (G5 _ _ _ _ hprobes).mono ?_;rintro e w' ⟨rfl,rfl⟩;go_wp2;go_ret;exact ⟨_,rfl,by solve_by_elim [jA,jB,jC,jD,jE],⟨fun h=>(by cases h),fun h=>absurd ⟨h.2.2.2.2.2.2.2.1,h.2.2.2.2.2.2.2.2.1⟩ hprobes⟩⟩
 obtain ⟨probes1,probes2⟩:=hprobes;by_cases hkey:key.size=16
 rotate_left
 ·have hkey':((key.size:Int)==16)=false:=by rw [jI];omega
  go_enter Tryz.func81,Tryz.ntmps81;go_wp2_with fail;refine (De _ _ _ _ (by omega) (by omega)).mono ?_;rintro e w' ⟨rfl,rfl⟩;go_wp2_with fail;refine (De _ _ _ _ (by omega) (by omega)).mono ?_;rintro e w' ⟨rfl,rfl⟩;go_wp2_with fail;refine (Jo _ _ (by omega) (by omega)).mono ?_;rintro e w' ⟨x,rfl,rfl,hx⟩;have hxt:x=true:=hx.2 hprime.out;subst hxt;clear hx;go_wp2_with fail;refine (De _ _ _ _ (by omega) (by omega)).mono ?_;rintro e w' ⟨rfl,rfl⟩;go_wp2_with fail;refine (De _ _ _ _ (by omega) (by omega)).mono ?_;rintro e w' ⟨rfl,rfl⟩;go_wp2;go_ret;exact ⟨_,rfl,by solve_by_elim [jA,jB,jC,jD,jE],⟨fun h=>(by cases h),fun h=>absurd h.2.2.2.2.2.2.2.2.2 hkey⟩⟩
 go_enter Tryz.func81,Tryz.ntmps81;go_wp2_with fail;refine (De _ _ _ _ (by omega) (by omega)).mono ?_;rintro e w' ⟨rfl,rfl⟩;go_wp2_with fail;refine (De _ _ _ _ (by omega) (by omega)).mono ?_;rintro e w' ⟨rfl,rfl⟩;go_wp2_with fail;refine (Jo _ _ (by omega) (by omega)).mono ?_;rintro e w' ⟨x,rfl,rfl,hx⟩;have hxt:x=true:=hx.2 hprime.out;subst hxt;clear hx;go_wp2_with fail;refine (De _ _ _ _ (by omega) (by omega)).mono ?_;rintro e w' ⟨rfl,rfl⟩;go_wp2_with fail;refine (De _ _ _ _ (by omega) (by omega)).mono ?_;rintro e w' ⟨rfl,rfl⟩;go_wp2;go_ret;exact ⟨_,rfl,by solve_by_elim [jA,jB,jC,jD,jE],⟨fun _=>⟨alg1,alg2,slots1,slots2,hprime.out,points1,points2,probes1,probes2,hkey⟩,fun _=>rfl⟩⟩
def Hd (n l m:Int):Prop:=l≤n∧n≤m
theorem L9 (n l m:Int) (w:World):Calls Tryz.prog 82 #[.int .i64 n,.int .i64 l,.int .i64 m] w fun e w'=>∃x:Bool,e= .returned (.bool x)∧w=w'∧Co (Hd n l m) x:=by
 by_cases h:l≤n∧n≤m
 ·refine (De n l m w h.1 h.2).mono ?_;rintro e w' ⟨rfl,rfl⟩;exact ⟨true,rfl,rfl,⟨fun _=>h,fun _=>rfl⟩⟩
 ·refine (G5 n l m w h).mono ?_;rintro e w' ⟨rfl,rfl⟩;exact ⟨false,rfl,rfl,⟨fun e=>(by cases e),fun e=>absurd e h⟩⟩
def Mc (n l m:Int) (w:World) (e:Ending) (w':World):Prop:=∃x:Bool,e= .returned (.bool x)∧w=w'∧Co (Hd n l m) x
theorem Kx (n:Int) (w:World):Calls Tryz.prog 57 #[.int .i64 n] w (Mc n 1 3 w):=by
 go_enter Tryz.func57,Tryz.ntmps57;go_wp2_with fail;refine (L9 n 1 3 _).mono ?_;rintro e w1 ⟨x,rfl,rfl,hx⟩;have HX:=jp hx;clear hx;go_wp2;go_ret;exact ⟨_,rfl,rfl,HX.out⟩
theorem Pb (n:Int) (w:World):Calls Tryz.prog 165 #[.int .i64 n] w (Mc n 1 2 w):=by
 go_enter Tryz.func165,Tryz.ntmps165;go_wp2_with fail;refine (L9 n 1 2 _).mono ?_;rintro e w1 ⟨x,rfl,rfl,hx⟩;have HX:=jp hx;clear hx;go_wp2;go_ret;exact ⟨_,rfl,rfl,HX.out⟩
theorem RP (n:Int) (w:World):Calls Tryz.prog 226 #[.int .i64 n] w (Mc n 1 1073741824 w):=by
 go_enter Tryz.func226,Tryz.ntmps226;go_wp2_with fail;refine (L9 n 1 1073741824 _).mono ?_;rintro e w1 ⟨x,rfl,rfl,hx⟩;have HX:=jp hx;clear hx;go_wp2;go_ret;exact ⟨_,rfl,rfl,HX.out⟩
theorem OI (c:Ac) (w:World):
  Calls Tryz.prog 37 #[.agg c.cells] w (Ew w (Co c.OK)):=by
 have htc:=fun wx=>OT c wx
 have HO:=jp c.ok_iff;have hfm:=fun wx=>Kx c.formats wx
 obtain ⟨TO,hTO⟩:∃P,P=c.TOK:=⟨_,rfl⟩;obtain ⟨OK,hOK⟩:∃P,P=c.OK:=⟨_,rfl⟩;rw [←hTO] at htc HO;rw [←hOK] at HO ⊢;clear hTO hOK;obtain ⟨alg,slots,points,probes,key,formats⟩:=c;simp only [Ac.cells] at *;go_enter Tryz.func37,Tryz.ntmps37;go_wp2_with fail;refine (htc _).mono ?_;rintro e w1 ⟨x,rfl,hb1,hx⟩;have d5:w1.cell? ⟨w.heap.size,5,none⟩=some (.int .i64 formats):=hb1.cell (by simp);have hbw:Aa w w1:=(Aa.step_alloc (jD w) _).trans hb1;clear htc hb1;cases x
 ·have hn:¬OK:=fun h=>by have:=hx.2 (HO.out.1 h).1;cases this
  have HN:=jp hn;clear hx hn HO;go_wp2;go_ret;exact ⟨_,rfl,hbw,⟨fun h=>(by cases h),fun h=>absurd h HN.out⟩⟩
 ·have HT:=jp (hx.1 rfl);clear hx;go_wp2_with fail;refine (hfm _).mono ?_;rintro e w2 ⟨y,rfl,rfl,hy⟩;have HY:Hid (Co OK y):=⟨fun h=>HO.out.2 ⟨HT.out,hy.1 h⟩,fun h=>hy.2 (HO.out.1 h).2⟩;clear hy hfm HO HT;go_wp2;go_ret;exact ⟨_,rfl,hbw,HY.out⟩
end Go.Proofs.YtpapdkhjdelfcabGreat
