import Derived.Test.YtpapdkhjdelfcabGreatProg
import Derived.WalkKit
import Derived.WalkSpells
import Derived.WalkLawsBesides
import Derived.BigQuiet
import Derived.Deep.QuietTactic
import Derived.Laws.BitsAllLaws
set_option maxRecDepth 100000
set_option maxHeartbeats 4000000
namespace Go.Proofs.YtpapdkhjdelfcabGreat
open Go.RowKit
def Bel (w w':World):Prop:=Below w.heap.size w w'
theorem Bel.refl (w:World):Bel w w:=Below.refl _ _
theorem Bel.below {a b:World} (h:Bel a b):Below a.heap.size a b:=h
theorem Bel.trans {a b c:World} (h:Bel a b) (k:Bel b c):Bel a c:=Below.trans h.below (k.below.mono h.below.size)
theorem Bel.step_alloc {a w:World} (h:Bel a w) (o:Obj):Bel a (w.alloc o):=h.below.alloc h.below.size o
theorem Bel.step_drew {a w:World} (h:Bel a w):Bel a w.drew:=h.below.drew
theorem Bel.step_drewN {a w:World} (h:Bel a w) (n:Nat):Bel a (w.drewN n):=below_drewN h.below n
theorem Bel.size {a w:World} (h:Bel a w):a.heap.size≤w.heap.size:=h.below.size
theorem Bel.block {a w:World} (h:Bel a w):∀k,k<a.heap.size→w.heap[k]?=a.heap[k]?:=h.below.block
theorem Bel.step_set {a w:World} (h:Bel a w) {p:Addr} (hp:a.heap.size≤p.block) (u:Value):Bel a (w.setCell p u):=h.below.setCell hp u
theorem Bel.grown {a w w':World} {row:Option Nat} (h:Bel a w) (hg:w.grownBy w' row) (hr:∀k,row=some k→a.heap.size≤k):Bel a w':=h.below.grown hg h.below.size hr
theorem Bel.of_below {B:Nat} {a w:World} (h:Below B a w) (hB:a.heap.size≤B):Bel a w:=h.mono hB
theorem Bel.cells {a w:World} (h:Bel a w):(∀b o,b<a.heap.size→w.cell? ⟨b,o,none⟩=a.cell? ⟨b,o,none⟩)∧(∀b o,b<a.heap.size→w.frozen? ⟨b,o,none⟩=a.frozen? ⟨b,o,none⟩):=
 ⟨fun b o hb=>h.below.cell (p:=⟨b,o,none⟩) hb,fun b o hb=>h.below.frozen (p:=⟨b,o,none⟩) hb⟩
theorem Bel.cellsTo {a w:World} (h:Bel a w) (N:Nat) (hN:N≤a.heap.size):(∀b o,b<N→w.cell? ⟨b,o,none⟩=a.cell? ⟨b,o,none⟩)∧(∀b o,b<N→w.frozen? ⟨b,o,none⟩=a.frozen? ⟨b,o,none⟩):=
 ⟨fun b o hb=>h.below.cell (p:=⟨b,o,none⟩) (Nat.lt_of_lt_of_le hb hN),fun b o hb=>h.below.frozen (p:=⟨b,o,none⟩) (Nat.lt_of_lt_of_le hb hN)⟩
theorem Bel.cell {a w:World} (h:Bel a w) {p:Addr} {v:Value} (hc:a.cell? p=some v):w.cell? p=some v:=cell_later h.below hc
theorem ret_int {k:IntKind} {a b:Int} (h:a=b):Ending.returned (.int k a)= .returned (.int k b):=by rw [h]
def I64 (x:Int):Prop:= -9223372036854775808≤x∧x≤9223372036854775807
def W32 (a:Int):Prop:=0≤a∧a<4294967296
theorem W32.lo {a:Int} (h:W32 a):0≤a:=h.1
theorem W32.hi {a:Int} (h:W32 a):a<4294967296:=h.2
def RInt (w:World) (f:Int→Prop) (e:Ending) (w':World):Prop:=∃x,e= .returned (.int .i64 x)∧Bel w w'∧f x
def RBool (w:World) (f:Bool→Prop) (e:Ending) (w':World):Prop:=∃x,e= .returned (.bool x)∧Bel w w'∧f x
def RStr (w:World) (f:ByteArray→Prop) (e:Ending) (w':World):Prop:=∃x,e= .returned (.string x)∧Bel w w'∧f x
def RWord (w:World) (f:Int→Int→Prop) (e:Ending) (w':World):Prop:=∃x y,e= .returned (.agg #[.int .i64 x,.int .i64 y])∧Bel w w'∧W32 x∧W32 y∧f x y
def RStrBool (w:World) (f:ByteArray→Bool→Prop) (e:Ending) (w':World):Prop:=∃x y,e= .returned (.tuple #[.string x,.bool y])∧Bel w w'∧f x y
def Any {α:Type} (_:α):Prop:=True
def Any2 {α β:Type} (_:α) (_:β):Prop:=True
def Upto (n:Int) (x:Int):Prop:=0≤x∧x<n
def BoxW (base:Nat) (w:World) (v:Value):Prop:=∃(p:Nat) (x y:Int),v= .pointer (some ⟨p,0,none⟩)∧base≤p∧w.cell? ⟨p,0,none⟩=some (.int .i64 x)∧w.cell? ⟨p,1,none⟩=some (.int .i64 y)∧w.frozen? ⟨p,0,none⟩=false∧w.frozen? ⟨p,1,none⟩=false∧W32 x∧W32 y
theorem Bel.frozen {a w:World} (h:Bel a w) {p:Addr} {v:Value} (hc:a.cell? p=some v) (hf:a.frozen? p=false):w.frozen? p=false:=by
 rw [h.below.frozen (World.block_lt_of_cell? a p hc)];exact hf
theorem BoxW.later {B:Nat} {a w:World} {v:Value} (k:BoxW B a v) (h:Bel a w):BoxW B w v:=by
 obtain ⟨p,x,y,rfl,hp,c0,c1,f0,f1,hx,hy⟩:=k;exact ⟨p,x,y,rfl,hp,h.cell c0,h.cell c1,h.frozen c0 f0,h.frozen c1 f1,hx,hy⟩
theorem cell_set {w:World} {a b:Addr} {v u:Value} (h:w.cell? a=some v):(w.setCell b u).cell? a=some v∨(w.setCell b u).cell? a=some u:=by
 obtain ⟨u',hu⟩:=cell?_setCell_some (w:=w) (p:=b) (x:=u) (q:=a) (v:=v) h;simp only [World.cell?,World.setCell] at h hu ⊢;rw [Array.getElem?_modify] at hu ⊢;by_cases hb:b.block=a.block
 ·rw [if_pos hb] at hu ⊢;cases hh:w.heap[a.block]? with
  |none=>rw [hh] at h;cases h
  |some o=>
   rw [hh] at h;cases o <;>simp at h ⊢;rename_i c e f;by_cases hs:b.spot.isSome
   ·simp [hs];exact Or.inl h
   ·simp [hs,Array.getElem?_setIfInBounds];by_cases ho:b.off=a.off
    ·have hlt:a.off<c.size:=(Array.getElem?_eq_some_iff.1 h.2).1;simp [ho,hlt,h.1]
    ·simp [ho];exact Or.inl h
 ·rw [if_neg hb];exact Or.inl h
theorem frozen_set (w:World) (a b:Addr) (u:Value):(w.setCell b u).frozen? a=w.frozen? a:=by simp
theorem set_same {w:World} {b o:Nat} {v u:Value} (h:w.cell? ⟨b,o,none⟩=some v):(w.setCell ⟨b,o,none⟩ u).cell? ⟨b,o,none⟩=some u:=by
 simp only [World.cell?,World.setCell] at h ⊢;rw [Array.getElem?_modify,if_pos rfl];cases hh:w.heap[b]? with
 |none=>rw [hh] at h;cases h
 |some x=>
  rw [hh] at h;cases x <;>simp at h ⊢;have hlt:=(Array.getElem?_eq_some_iff.1 h).1;simp [hlt]
theorem set_other {w:World} {a b:Addr} {u:Value} (h:b.block≠a.block∨b.off≠a.off):(w.setCell b u).cell? a=w.cell? a:=by
 simp only [World.cell?,World.setCell];rw [Array.getElem?_modify];by_cases hb:b.block=a.block
 ·rw [if_pos hb];cases hh:w.heap[a.block]? with
  |none=>rfl
  |some x=>
   cases x <;>simp;rename_i c e f;by_cases ha:a.spot.isSome
   ·simp [ha]
   ·by_cases hs:b.spot.isSome
    ·simp [hs]
    ·have hne:b.off≠a.off:=by
      rcases h with h|h
      ·exact absurd hb h
      ·exact h
     simp [ha,hs,hne]
 ·rw [if_neg hb]
theorem BoxW.stored {B:Nat} {w:World} {p:Nat} {u0 u1:Value} (hp:B≤p) (h0:w.cell? ⟨p,0,none⟩=some u0) (h1:w.cell? ⟨p,1,none⟩=some u1) (f0:w.frozen? ⟨p,0,none⟩=false) (f1:w.frozen? ⟨p,1,none⟩=false) {x y:Int} (hx:W32 x) (hy:W32 y):
  BoxW B ((w.setCell ⟨p,0,none⟩ (.int .i64 x)).setCell ⟨p,1,none⟩ (.int .i64 y)) (.pointer (some ⟨p,0,none⟩)):=by
 refine ⟨p,x,y,rfl,hp,?_,?_,by rw [frozen_set,frozen_set];exact f0,by rw [frozen_set,frozen_set];exact f1,hx,hy⟩
 ·rw [set_other (by simp)];exact set_same h0
 ·exact set_same (v:=u1) (by rw [set_other (by simp)];exact h1)
theorem BoxW.set {B:Nat} {w:World} {v:Value} (k:BoxW B w v) (a:Addr) {z:Int} (hz:W32 z):BoxW B (w.setCell a (.int .i64 z)) v:=by
 obtain ⟨p,x,y,rfl,hp,c0,c1,f0,f1,hx,hy⟩:=k;rcases cell_set (b:=a) (u:= .int .i64 z) c0 with d0|d0 <;>rcases cell_set (b:=a) (u:= .int .i64 z) c1 with d1|d1
 ·exact ⟨p,x,y,rfl,hp,d0,d1,by rw [frozen_set];exact f0,by rw [frozen_set];exact f1,hx,hy⟩
 ·exact ⟨p,x,z,rfl,hp,d0,d1,by rw [frozen_set];exact f0,by rw [frozen_set];exact f1,hx,hz⟩
 ·exact ⟨p,z,y,rfl,hp,d0,d1,by rw [frozen_set];exact f0,by rw [frozen_set];exact f1,hz,hy⟩
 ·exact ⟨p,z,z,rfl,hp,d0,d1,by rw [frozen_set];exact f0,by rw [frozen_set];exact f1,hz,hz⟩
theorem i64_xor_nat (a b:Nat) (ha:a<4294967296) (hb:b<4294967296):bits .xor .i64 (a:Int) (b:Int)=((a ^^^ b:Nat):Int):=by
 have hx:a ^^^ b<2 ^ 32:=Nat.xor_lt_two_pow (by omega) (by omega);show IntKind.i64.wrap ((BitVec.ofInt 64 (a:Int) ^^^ BitVec.ofInt 64 (b:Int)).toNat:Int)=_;rw [BitVec.toNat_xor,ofInt_u64 a (by omega),ofInt_u64 b (by omega),IntKind.wrap_i64];omega
theorem i64_xor (a b:Int) (h1:W32 a) (h2:W32 b):bits .xor .i64 a b=((a.toNat ^^^ b.toNat:Nat):Int):=by
 obtain ⟨A,rfl⟩:=Int.eq_ofNat_of_zero_le h1.1;obtain ⟨B,rfl⟩:=Int.eq_ofNat_of_zero_le h2.1;have:=h1.2;have:=h2.2;simpa using i64_xor_nat A B (by omega) (by omega)
theorem W32.xor {a b:Int} (h1:W32 a) (h2:W32 b):W32 (bits .xor .i64 a b):=by
 rw [i64_xor a b h1 h2];obtain ⟨A,rfl⟩:=Int.eq_ofNat_of_zero_le h1.1;obtain ⟨B,rfl⟩:=Int.eq_ofNat_of_zero_le h2.1;have h3:=h1.2;have h4:=h2.2;have hx:A ^^^ B<2 ^ 32:=Nat.xor_lt_two_pow (by omega) (by omega);simp only [Int.toNat_natCast];exact ⟨by omega,by omega⟩
theorem i64_and_nat (a b:Nat) (ha:a<9223372036854775808) (hb:b<9223372036854775808):bits .and .i64 (a:Int) (b:Int)=((a &&& b:Nat):Int):=by
 have hx:a &&& b<2 ^ 63:=Nat.and_lt_two_pow _ (by omega);show IntKind.i64.wrap ((BitVec.ofInt 64 (a:Int) &&& BitVec.ofInt 64 (b:Int)).toNat:Int)=_;rw [BitVec.toNat_and,ofInt_u64 a (by omega),ofInt_u64 b (by omega),IntKind.wrap_i64];omega
end Go.Proofs.YtpapdkhjdelfcabGreat
namespace Go.Proofs.YtpapdkhjdelfcabGreat
open Go.RowKit
def dStep (r:BitVec 32) (d:Bool):BitVec 32:=(r<<<1) ^^^ (if r.msb !=d then 0x04c11db7#32 else 0#32)
def cStep (c:BitVec 32):BitVec 32:=(c>>>1) ^^^ (if c.getLsbD 0 then 0xEDB88320#32 else 0#32)
theorem rev_xor (a b:BitVec 32):(a ^^^ b).reverse=a.reverse ^^^ b.reverse:=by
 apply BitVec.eq_of_getLsbD_eq;intro i hi;simp [BitVec.getLsbD_reverse]
theorem rev_shl (a:BitVec 32):(a<<<1).reverse=a.reverse>>>1:=by
 apply BitVec.eq_of_getLsbD_eq;intro i hi;rw [BitVec.getLsbD_reverse,BitVec.getLsbD_ushiftRight,BitVec.getLsbD_reverse,BitVec.getMsbD_shiftLeft,Nat.add_comm]
theorem rev_msb (a:BitVec 32):a.reverse.getLsbD 0=a.msb:=by
 rw [BitVec.getLsbD_reverse,BitVec.msb]
theorem step_both (r c t:BitVec 32) (h:r.reverse=c ^^^ t):(dStep r (t.getLsbD 0)).reverse=cStep c ^^^ (t>>>1):=by
 have hb:(r.msb !=t.getLsbD 0)=c.getLsbD 0:=by
  rw [←rev_msb,h,BitVec.getLsbD_xor];cases c.getLsbD 0 <;>cases t.getLsbD 0 <;>rfl
 have hp:(0x04c11db7#32).reverse=0xEDB88320#32:=by decide+kernel
 have hz:(0#32).reverse=0#32:=by decide+kernel
 unfold dStep cStep;rw [hb,rev_xor,rev_shl,h]
 have hsh:(c ^^^ t)>>>1=(c>>>1) ^^^ (t>>>1):=by
  apply BitVec.eq_of_getLsbD_eq;intro i hi;simp
 rw [hsh];cases c.getLsbD 0
 ·simp only [Bool.false_eq_true,if_false];rw [hz];simp
 ·simp only [if_true];rw [hp,BitVec.xor_assoc,BitVec.xor_comm (t>>>1),←BitVec.xor_assoc]
def cByte (c:BitVec 32) (b:UInt8):BitVec 32:=cStep (cStep (cStep (cStep (cStep (cStep (cStep (cStep (c ^^^ BitVec.ofNat 32 b.toNat))))))))
def dByte (r:BitVec 32) (b:UInt8):BitVec 32:=(List.range 8).foldl (fun r k=>dStep r ((BitVec.ofNat 32 b.toNat).getLsbD k)) r
theorem byte_both (r c:BitVec 32) (b:UInt8) (h:r.reverse=c):(dByte r b).reverse=cByte c b:=by
 unfold dByte cByte
 have z:BitVec.ofNat 32 b.toNat>>>8=0#32:=by
  apply BitVec.eq_of_toNat_eq;rw [BitVec.toNat_ushiftRight,BitVec.toNat_ofNat,Nat.shiftRight_eq_div_pow];have:=b.toNat_lt;simp;omega
 generalize BitVec.ofNat 32 b.toNat=T at *;have g:∀k,(T>>>k).getLsbD 0=T.getLsbD k:=fun k=>by rw [BitVec.getLsbD_ushiftRight,Nat.add_zero]
 have s:∀k:Nat,((T>>>k)>>>1:BitVec 32)=T>>>(k+1):=fun k=>by rw [←BitVec.shiftRight_add]
 have h0:r.reverse=(c ^^^ T) ^^^ (T>>>0):=by
  rw [h,BitVec.ushiftRight_zero,BitVec.xor_assoc,BitVec.xor_self,BitVec.xor_zero]
 have a1:=step_both _ _ _ h0;rw [s 0] at a1;have a2:=step_both _ _ _ a1;rw [s 1] at a2;have a3:=step_both _ _ _ a2;rw [s 2] at a3;have a4:=step_both _ _ _ a3;rw [s 3] at a4;have a5:=step_both _ _ _ a4;rw [s 4] at a5;have a6:=step_both _ _ _ a5;rw [s 5] at a6;have a7:=step_both _ _ _ a6;rw [s 6] at a7;have a8:=step_both _ _ _ a7;rw [s 7,z,BitVec.xor_zero] at a8;simp only [g] at a8;exact a8
theorem sum_both (l:List UInt8):(l.foldl dByte (0xFFFFFFFF#32)).reverse=l.foldl cByte (0xFFFFFFFF#32):=by
 have:∀(r c:BitVec 32),r.reverse=c→(l.foldl dByte r).reverse=l.foldl cByte c:=by
  induction l with
  |nil=>intro r c h;exact h
  |cons b l ih=>intro r c h;exact ih _ _ (byte_both r c b h)
 exact this _ _ (by decide+kernel)
end Go.Proofs.YtpapdkhjdelfcabGreat
namespace Go.Proofs.YtpapdkhjdelfcabGreat
open Go.RowKit
def valB (L:List Bool):Nat:=L.foldl (fun a b=>2 * a+b.toNat) 0
theorem valB_snoc (L:List Bool) (b:Bool):valB (L++[b])=2 * valB L+b.toNat:=by simp [valB]
theorem valB_lt (L:List Bool):valB L<2 ^ L.length:=by
 have h:∀n,∀L:List Bool,L.length=n→valB L<2 ^ n:=by
  intro n
  induction n with
  |zero=>
   intro L hL;rw [List.eq_nil_of_length_eq_zero hL];decide
  |succ n ih=>
   intro L hL;have hne:L≠[]:=fun e=>by rw [e] at hL;simp at hL
   rw [←List.dropLast_concat_getLast hne,valB_snoc];have h1:=ih L.dropLast (by rw [List.length_dropLast,hL];rfl);have h2:(L.getLast hne).toNat≤1:=Bool.toNat_le _;rw [Nat.pow_succ];omega
 exact h _ L rfl
def numBits (n:Nat):Nat→List Bool
 |0=>[]
 |w+1=>numBits (n / 2) w++[n % 2==1]
theorem numBits_len (n w:Nat):(numBits n w).length=w:=by
 induction w generalizing n with
 |zero=>rfl
 |succ w ih=>simp [numBits,ih]
theorem valB_num (n w:Nat):valB (numBits n w)=n % 2 ^ w:=by
 induction w generalizing n with
 |zero=>simp [numBits,valB,Nat.mod_one]
 |succ w ih=>
  rw [numBits,valB_snoc,ih,Nat.pow_succ,Nat.mul_comm (2 ^ w) 2,Nat.mod_mul]
  have:(n % 2==1).toNat=n % 2:=by
   rcases Nat.mod_two_eq_zero_or_one n with h|h <;>simp [h]
  rw [this];omega
theorem num_valB (L:List Bool):numBits (valB L) L.length=L:=by
 have h:∀n,∀L:List Bool,L.length=n→numBits (valB L) n=L:=by
  intro n
  induction n with
  |zero=>
   intro L hL;rw [List.eq_nil_of_length_eq_zero hL];rfl
  |succ n ih=>
   intro L hL;have hne:L≠[]:=fun e=>by rw [e] at hL;simp at hL
   have hd:=List.dropLast_concat_getLast hne;generalize L.getLast hne=b at hd;generalize hD:L.dropLast=D at hd;have hDl:D.length=n:=by rw [←hD,List.length_dropLast,hL];rfl
   rw [←hd,valB_snoc,numBits];have e1:(2 * valB D+b.toNat) / 2=valB D:=by have:=Bool.toNat_le b;omega
   have e2:((2 * valB D+b.toNat) % 2==1)=b:=by cases b <;>simp <;>omega
   rw [e1,e2,ih D hDl]
 exact h _ L rfl
def byteBits (b:UInt8):List Bool:=numBits b.toNat 8
def bytesBits (l:List UInt8):List Bool:=l.flatMap byteBits
theorem byteBits_len (b:UInt8):(byteBits b).length=8:=numBits_len _ _
theorem bytesBits_len (l:List UInt8):(bytesBits l).length=8 * l.length:=by
 induction l with
 |nil=>rfl
 |cons b l ih=>simp only [bytesBits,List.flatMap_cons,List.length_append,byteBits_len,List.length_cons] at ih ⊢;omega
theorem byteBits_val (L:List Bool) (h:L.length=8):byteBits (UInt8.ofNat (valB L))=L:=by
 have h1:=valB_lt L;rw [h] at h1;unfold byteBits;rw [UInt8.toNat_ofNat',Nat.mod_eq_of_lt h1,←h,num_valB]
theorem bytesBits_snoc (l:List UInt8) (b:UInt8):bytesBits (l++[b])=bytesBits l++byteBits b:=by simp [bytesBits]
theorem bytesBits_app (l m:List UInt8):bytesBits (l++m)=bytesBits l++bytesBits m:=by simp [bytesBits]
def packB:List Bool→List UInt8
 |a::b::c::d::e::f::g::h::l=>UInt8.ofNat (valB [a,b,c,d,e,f,g,h])::packB l
 |[]=>[]
 |l=>[UInt8.ofNat (valB l * 2 ^ (8 - l.length))]
theorem packB_byte (b:UInt8) (L:List Bool):packB (byteBits b++L)=b::packB L:=by
 have hl:=byteBits_len b
 have hv:UInt8.ofNat (valB (byteBits b))=b:=by
  unfold byteBits;rw [valB_num,Nat.mod_eq_of_lt b.toNat_lt];simp
 generalize byteBits b=B at *
 match B,hl with
 |[x0,x1,x2,x3,x4,x5,x6,x7],_=>
  show packB (x0::x1::x2::x3::x4::x5::x6::x7::L)=_;rw [packB,hv]
theorem packB_bytes (l:List UInt8) (L:List Bool):packB (bytesBits l++L)=l++packB L:=by
 induction l with
 |nil=>rfl
 |cons b l ih=>
  have:bytesBits (b::l)=byteBits b++bytesBits l:=by simp [bytesBits]
  rw [this,List.append_assoc,packB_byte,ih];rfl
theorem packB_rest (L:List Bool) (h0:0<L.length) (h:L.length<8):packB L=[UInt8.ofNat (valB L * 2 ^ (8 - L.length))]:=by
 match L,h0,h with
 |[_],_,_=>rfl
 |[_,_],_,_=>rfl
 |[_,_,_],_,_=>rfl
 |[_,_,_,_],_,_=>rfl
 |[_,_,_,_,_],_,_=>rfl
 |[_,_,_,_,_,_],_,_=>rfl
 |[_,_,_,_,_,_,_],_,_=>rfl
end Go.Proofs.YtpapdkhjdelfcabGreat
namespace Go.Proofs.YtpapdkhjdelfcabGreat
open Go.RowKit
def RowAt (w:World) (v:Value) (n:Nat) (cs:List Value):Prop:=
 (v= .slice none 0 0∧n=0∧cs=[])∨∃g cap,v= .slice (some ⟨g,0,none⟩) n cap∧n≤cap∧g<w.heap.size∧∀j u,cs[j]?=some u→w.cell? ⟨g,j,none⟩=some u
theorem RowAt.later {a w:World} {v:Value} {n:Nat} {cs:List Value} (h:RowAt a v n cs) (k:Bel a w):RowAt w v n cs:=by
 rcases h with h|⟨g,cap,hv,hn,hg,hc⟩
 ·exact Or.inl h
 ·exact Or.inr ⟨g,cap,hv,hn,Nat.lt_of_lt_of_le hg k.size,fun j u hu=>k.cell (hc j u hu)⟩
theorem RowAt.of_owns {w:World} {base:Nat} {e:TypeId} {size:Nat} {v:Value} {n:Nat} {xs:List Value} (h:w.ownsRow base e size v n xs):RowAt w v n xs:=by
 rcases h.2 with ⟨h1,h2⟩|⟨g,cap,cur,hv,hg,hh,r1,r2,r3,r4⟩
 ·exact Or.inl ⟨h1,h2,by have:=h.1;subst h2;simpa using this⟩
 ·refine Or.inr ⟨g,cap,hv,r1,(Array.getElem?_eq_some_iff.1 hh).1,fun j u hu=>?_⟩;have:=h.cells (g:=g) (by rw [hv];rfl) j u hu;have hadd:(⟨g,0,none⟩:Addr).add j=⟨g,j,none⟩:=by unfold Addr.add;split <;>simp_all
  rwa [hadd] at this
abbrev BK:=ByteArray×Int
def pcells (l:List BK):List Value:=l.flatMap fun b=>[.string b.1,.int .i64 b.2]
theorem pcells_len (l:List BK):(pcells l).length=l.length * 2:=by
 induction l with
 |nil=>rfl
 |cons b l ih=>simp only [pcells,List.flatMap_cons,List.length_append,List.length_cons,List.length_nil] at ih ⊢;omega
theorem pcells_get (l:List BK) (j:Nat) (h:j<l.length):(pcells l)[j * 2]?=some (.string l[j].1)∧(pcells l)[j * 2+1]?=some (.int .i64 l[j].2):=by
 induction l generalizing j with
 |nil=>simp at h
 |cons b l ih=>
  cases j with
  |zero=>simp [pcells]
  |succ j=>
   obtain ⟨h1,h2⟩:=ih j (by simpa using h);have e1:(j+1) * 2=j * 2+1+1:=by omega
   rw [e1];simp only [pcells,List.flatMap_cons,List.cons_append,List.nil_append,List.getElem?_cons_succ] at h1 h2 ⊢;exact ⟨h1,h2⟩
abbrev EN:=ByteArray×Int×Int
def ecells (l:List EN):List Value:=l.flatMap fun b=>[.string b.1,.int .i64 b.2.1,.int .i64 b.2.2]
theorem ecells_len (l:List EN):(ecells l).length=l.length * 3:=by
 induction l with
 |nil=>rfl
 |cons b l ih=>simp only [ecells,List.flatMap_cons,List.length_append,List.length_cons,List.length_nil] at ih ⊢;omega
theorem ecells_get (l:List EN) (j:Nat) (h:j<l.length):(ecells l)[j * 3]?=some (.string l[j].1)∧(ecells l)[j * 3+1]?=some (.int .i64 l[j].2.1)∧(ecells l)[j * 3+2]?=some (.int .i64 l[j].2.2):=by
 induction l generalizing j with
 |nil=>simp at h
 |cons b l ih=>
  cases j with
  |zero=>simp [ecells]
  |succ j=>
   obtain ⟨h1,h2,h3⟩:=ih j (by simpa using h);have e1:(j+1) * 3=j * 3+1+1+1:=by omega
   rw [e1];simp only [ecells,List.flatMap_cons,List.cons_append,List.nil_append,List.getElem?_cons_succ] at h1 h2 h3 ⊢;exact ⟨h1,h2,h3⟩
def PoolAt (w:World) (v:Value) (l:List BK):Prop:=RowAt w v l.length (pcells l)
def EntsAt (w:World) (v:Value) (l:List EN):Prop:=RowAt w v l.length (ecells l)
theorem PoolAt.later {a w:World} {v:Value} {l:List BK} (h:PoolAt a v l) (k:Bel a w):PoolAt w v l:=RowAt.later h k
theorem EntsAt.later {a w:World} {v:Value} {l:List EN} (h:EntsAt a v l) (k:Bel a w):EntsAt w v l:=RowAt.later h k
theorem PoolAt.form {w:World} {v:Value} {l:List BK} (h:PoolAt w v l):(v= .slice none 0 0∧l=[])∨∃g cap,v= .slice (some ⟨g,0,none⟩) l.length cap∧l.length≤cap∧g<w.heap.size∧
  ∀j (hj:j<l.length),w.cell? ⟨g,j * 2,none⟩=some (.string l[j].1)∧w.cell? ⟨g,j * 2+1,none⟩=some (.int .i64 l[j].2):=by
 rcases h with ⟨h1,h2,_⟩|⟨g,cap,hv,hn,hg,hc⟩
 ·exact Or.inl ⟨h1,List.eq_nil_of_length_eq_zero h2⟩
 ·exact Or.inr ⟨g,cap,hv,hn,hg,fun j hj=>⟨hc _ _ (pcells_get l j hj).1,hc _ _ (pcells_get l j hj).2⟩⟩
theorem EntsAt.form {w:World} {v:Value} {l:List EN} (h:EntsAt w v l):(v= .slice none 0 0∧l=[])∨∃g cap,v= .slice (some ⟨g,0,none⟩) l.length cap∧l.length≤cap∧g<w.heap.size∧
  ∀j (hj:j<l.length),w.cell? ⟨g,j * 3,none⟩=some (.string l[j].1)∧w.cell? ⟨g,j * 3+1,none⟩=some (.int .i64 l[j].2.1)∧w.cell? ⟨g,j * 3+2,none⟩=some (.int .i64 l[j].2.2):=by
 rcases h with ⟨h1,h2,_⟩|⟨g,cap,hv,hn,hg,hc⟩
 ·exact Or.inl ⟨h1,List.eq_nil_of_length_eq_zero h2⟩
 ·exact Or.inr ⟨g,cap,hv,hn,hg,fun j hj=>⟨hc _ _ (ecells_get l j hj).1,hc _ _ (ecells_get l j hj).2.1,hc _ _ (ecells_get l j hj).2.2⟩⟩
def EntsNew (base:Nat) (w:World) (v:Value) (l:List EN):Prop:=EntsAt w v l∧∀g,v.ownBlock=some g→base≤g
theorem EntsNew.later {base:Nat} {a w:World} {v:Value} {l:List EN} (h:EntsNew base a v l) (k:Bel a w):EntsNew base w v l:=⟨h.1.later k,h.2⟩
def PoolOK (l:List BK):Prop:=l.length≤8∧∀b∈l,1≤b.1.size∧b.1.size≤8∧0≤b.2∧b.2≤6
structure Cfg where
 alg:Int
 slots:Int
 points:Int
 probes:Int
 key:ByteArray
 formats:Int
def Cfg.cells (c:Cfg):Array Value:=#[.int .i64 c.alg,.int .i64 c.slots,.int .i64 c.points,.int .i64 c.probes,.string c.key,.int .i64 c.formats]
def Cfg.OK (c:Cfg):Prop:=1≤c.alg∧c.alg≤4∧3≤c.slots∧c.slots≤211∧(∀d:Nat,2≤d→(d:Int)<c.slots→c.slots % d≠0)∧1≤c.points∧c.points≤3∧1≤c.probes∧c.probes≤5∧c.key.size=16∧1≤c.formats∧c.formats≤3
def Cfg.Fit (c:Cfg):Prop:=I64 c.alg∧I64 c.slots∧I64 c.points∧I64 c.probes∧I64 c.formats∧c.key.size≤maxLen
def IsB (p:Prop) (x:Bool):Prop:=x=true↔p
theorem IsB.and {p q:Prop} {x y:Bool} (h:IsB p x) (k:IsB q y):IsB (p∧q) (x && y):=by
 unfold IsB at *;simp [h,k]
theorem str_eq {a b:ByteArray}:(a.toList==b.toList)=true↔a=b:=by
 rw [ByteArray.toList_eq,ByteArray.toList_eq];constructor
 ·intro h;exact ByteArray.ext (Array.toList_inj.mp (by simpa using h))
 ·intro h;subst h;simp
theorem str_ne {a b:ByteArray} (h:¬a=b):(a.toList==b.toList)=false:=by
 cases hh:a.toList==b.toList
 ·rfl
 ·exact absurd (str_eq.1 hh) h
def less (a b:ByteArray):Bool:=Op.bytesLess a.toList b.toList
theorem bless_eq:∀(x y:List UInt8),Op.bytesLess x y=decide (x<y)
 |[],[]=>by simp [Op.bytesLess]
 |_::_,[]=>by simp [Op.bytesLess]
 |[],_::_=>by simp [Op.bytesLess]
 |a::x,b::y=>by
  rw [Op.bytesLess,bless_eq x y];simp only [List.cons_lt_cons_iff];by_cases h1:a<b
  ·simp [h1]
  ·by_cases h2:a=b
   ·simp [h2]
   ·simp [h1,h2]
theorem less_iff {a b:ByteArray}:less a b=true↔a.toList<b.toList:=by rw [less,bless_eq];simp
theorem less_no {a b:ByteArray}:less a b=false↔¬a.toList<b.toList:=by rw [less,bless_eq];simp
theorem less_irrefl (a:ByteArray):less a a=false:=less_no.2 (List.lt_irrefl _)
theorem less_trans {a b c:ByteArray} (h:less a b=true) (k:less b c=true):less a c=true:=less_iff.2 (List.lt_trans (less_iff.1 h) (less_iff.1 k))
theorem less_asymm {a b:ByteArray} (h:less a b=true):less b a=false:=less_no.2 (fun k=>List.lt_irrefl _ (List.lt_trans (less_iff.1 h) k))
theorem toList_inj {a b:ByteArray} (h:a.toList=b.toList):a=b:=by
 rw [ByteArray.toList_eq,ByteArray.toList_eq] at h;exact ByteArray.ext (Array.toList_inj.mp h)
theorem less_total {a b:ByteArray} (h:less a b=false) (k:less b a=false):a=b:=
 toList_inj (List.le_antisymm (List.not_lt.1 (less_no.1 k)) (List.not_lt.1 (less_no.1 h)))
def Srt (B:List BK):Prop:=B.Pairwise fun a b=>less a.1 b.1=true
def ins (m:BK):List BK→List BK
 |[]=>[m]
 |b::B=>if less m.1 b.1 then m::b::B else b::ins m B
theorem ins_len (m:BK) (B:List BK):(ins m B).length=B.length+1:=by
 induction B with
 |nil=>rfl
 |cons b B ih=>simp only [ins];split <;>simp [ih]
theorem ins_mem {m x:BK} {B:List BK}:x∈ins m B↔x=m∨x∈B:=by
 induction B with
 |nil=>simp [ins]
 |cons b B ih=>
  simp only [ins];split
  ·simp
  ·simp only [List.mem_cons,ih];constructor
   ·rintro (h|h|h)
    ·exact Or.inr (Or.inl h)
    ·exact Or.inl h
    ·exact Or.inr (Or.inr h)
   ·rintro (h|h|h)
    ·exact Or.inr (Or.inl h)
    ·exact Or.inl h
    ·exact Or.inr (Or.inr h)
theorem ins_srt {m:BK} {B:List BK} (h:Srt B) (hn:∀b∈B,b.1≠m.1):Srt (ins m B):=by
 induction B with
 |nil=>exact List.pairwise_singleton _ _
 |cons b B ih=>
  obtain ⟨h1,h2⟩:=List.pairwise_cons.1 h;simp only [ins];cases hl:less m.1 b.1
  ·simp only [Bool.false_eq_true,if_false];refine List.pairwise_cons.2 ⟨fun x hx=>?_,ih h2 (fun y hy=>hn y (List.mem_cons_of_mem _ hy))⟩;rcases ins_mem.1 hx with rfl|hx
   ·cases hb:less b.1 x.1
    ·exact absurd (less_total hb hl) (hn b List.mem_cons_self)
    ·rfl
   ·exact h1 x hx
  ·simp only [if_true];refine List.pairwise_cons.2 ⟨fun x hx=>?_,h⟩;rcases List.mem_cons.1 hx with rfl|hx
   ·exact hl
   ·exact less_trans hl (h1 x hx)
def lawPool (id:ByteArray) (n:Int):Bool→List BK→List BK
 |put,[]=>if put then [] else [(id,n)]
 |put,b::B=>(if put=false∧less b.1 id=false then [(id,n)] else [])++(if b.1≠id then [b] else [])++lawPool id n (if less b.1 id=false then true else put) B
theorem lawPool_true_none {id:ByteArray} {n:Int} {B:List BK} (hn:∀b∈B,b.1≠id):lawPool id n true B=B:=by
 induction B with
 |nil=>rfl
 |cons b B ih=>
  simp only [lawPool];rw [if_neg (by simp),if_pos (hn b List.mem_cons_self)];simp [ih (fun y hy=>hn y (List.mem_cons_of_mem _ hy))]
theorem lawPool_ins {id:ByteArray} {n:Int} {B:List BK} (hn:∀b∈B,b.1≠id):lawPool id n false B=ins (id,n) B:=by
 induction B with
 |nil=>rfl
 |cons b B ih=>
  have hb:=hn b List.mem_cons_self;have hB:=fun y hy=>hn y (List.mem_cons_of_mem b hy)
  simp only [lawPool,ins];cases hl:less b.1 id
  ·have:less id b.1=true:=by
    cases hx:less id b.1
    ·exact absurd (less_total hl hx) hb
    ·rfl
   simp [this,hb,lawPool_true_none hB]
  ·have:less id b.1=false:=less_asymm hl;simp [this,hb,ih hB]
theorem Srt.ne {B:List BK} (h:Srt B) {i j:Nat} (hi:i<B.length) (hj:j<B.length) (hij:i≠j):B[i].1≠B[j].1:=by
 intro e;have hp:=List.pairwise_iff_getElem.1 h;rcases Nat.lt_or_gt_of_ne hij with hlt|hlt
 ·have:=hp i j hi hj hlt;rw [e,less_irrefl] at this;cases this
 ·have:=hp j i hj hi hlt;rw [e,less_irrefl] at this;cases this
theorem lawPool_set {id:ByteArray} {n:Int} {B:List BK} (h:Srt B) {p:Nat} (hp:p<B.length) (he:B[p].1=id):lawPool id n false B=B.set p (id,n):=by
 induction B generalizing p with
 |nil=>simp at hp
 |cons b B ih=>
  obtain ⟨h1,h2⟩:=List.pairwise_cons.1 h;cases p with
  |zero=>
   simp only [List.getElem_cons_zero] at he;subst he;have hB:∀y∈B,y.1≠b.1:=fun y hy e=>by have:=h1 y hy;rw [e,less_irrefl] at this;cases this
   simp [lawPool,less_irrefl,lawPool_true_none hB]
  |succ p=>
   simp only [List.getElem_cons_succ] at he;have hlt:less b.1 id=true:=he ▸ h1 _ (List.getElem_mem (by simpa using hp));have hne:b.1≠id:=fun e=>by rw [e,less_irrefl] at hlt;cases hlt
   simp [lawPool,hlt,hne,ih h2 (by simpa using hp) he]
theorem lawPool_erase {id:ByteArray} {n:Int} {B:List BK} (h:Srt B) {p:Nat} (hp:p<B.length) (he:B[p].1=id):lawPool id n true B=B.eraseIdx p:=by
 induction B generalizing p with
 |nil=>simp at hp
 |cons b B ih=>
  obtain ⟨h1,h2⟩:=List.pairwise_cons.1 h;cases p with
  |zero=>
   simp only [List.getElem_cons_zero] at he;subst he;have hB:∀y∈B,y.1≠b.1:=fun y hy e=>by have:=h1 y hy;rw [e,less_irrefl] at this;cases this
   simp [lawPool,less_irrefl,lawPool_true_none hB]
  |succ p=>
   simp only [List.getElem_cons_succ] at he;have hlt:less b.1 id=true:=he ▸ h1 _ (List.getElem_mem (by simpa using hp));have hne:b.1≠id:=fun e=>by rw [e,less_irrefl] at hlt;cases hlt
   simp [lawPool,hlt,hne,ih h2 (by simpa using hp) he]
theorem erase_srt {B:List BK} (h:Srt B) (p:Nat):Srt (B.eraseIdx p):=List.Pairwise.sublist (List.eraseIdx_sublist B p) h
theorem set_srt {B:List BK} (h:Srt B) {p:Nat} (hp:p<B.length) (n:Int):Srt (B.set p (B[p].1,n)):=by
 rw [Srt,List.pairwise_iff_getElem] at h ⊢;intro i j hi hj hij;simp only [List.length_set] at hi hj;have:=h i j hi hj hij;simp only [List.getElem_set];split <;>split <;>simp_all
theorem ins_place (m:BK) (B:List BK):∃p,p≤B.length∧(∃h:p<(ins m B).length,(ins m B)[p]=m)∧(ins m B).eraseIdx p=B:=by
 induction B with
 |nil=>exact ⟨0,Nat.le_refl _,⟨by simp [ins],rfl⟩,rfl⟩
 |cons b B ih=>
  cases hl:less m.1 b.1
  ·obtain ⟨p,hp,⟨h1,h2⟩,h3⟩:=ih;have e:ins m (b::B)=b::ins m B:=by simp [ins,hl]
   rw [e];exact ⟨p+1,by simpa using hp,⟨by simpa using h1,by simpa using h2⟩,by simp [h3]⟩
  ·have e:ins m (b::B)=m::b::B:=by simp [ins,hl]
   rw [e];exact ⟨0,by simp,⟨by simp,rfl⟩,rfl⟩
theorem ins_first {m:BK} {B:List BK} (h:∀b∈B,less m.1 b.1=true):ins m B=m::B:=by
 cases B with
 |nil=>rfl
 |cons b B=>simp [ins,h b List.mem_cons_self]
def atName (id:ByteArray) (B:List BK):Nat:=B.findIdx fun b=>b.1.toList==id.toList
end Go.Proofs.YtpapdkhjdelfcabGreat
