import Derived.Test.YtpapdkhjdelfcabGreatLAA
import Derived.Deep.RegionWith
import Derived.Deep.RegionHeld3
import Derived.Deep.DeepCutAuto
import Derived.Deep.LoopGhost
namespace Go.Proofs.YtpapdkhjdelfcabGreat
open Go.RowKit
set_option maxRecDepth 100000
set_option maxHeartbeats 4000000
theorem Nj (a b c d:Int) (w:World) (ha:Af a) (hb:Af b) (hc:Af c) (hd:Af d):
  Calls Tryz.prog 229 #[.agg #[.int .i64 a,.int .i64 b],.agg #[.int .i64 c,.int .i64 d]] w (Gx w Oa):=by
 obtain ⟨ha,ha2⟩:=ha;obtain ⟨hb,hb2⟩:=hb;obtain ⟨hc,hc2⟩:=hc;obtain ⟨hd,hd2⟩:=hd;go_enter Tryz.func229,Tryz.ntmps229;go_wp2;exact bodyPost_ret (v:= .agg #[.int .i64 ((a+c+(b+d) / 4294967296) % 4294967296),.int .i64 ((b+d) % 4294967296)]) (by simp [results,Tryz.results229,go_sem]) rfl ⟨_,_,rfl,by solve_by_elim [jA,jB,jC,jD,jE],⟨by omega,by omega⟩,⟨by omega,by omega⟩,trivial⟩
theorem LR (a b c d:Int) (w:World):
  Calls Tryz.prog 168 #[.agg #[.int .i64 a,.int .i64 b],.agg #[.int .i64 c,.int .i64 d]] w (Ew w Kz):=by
 by_cases h1:a<c
 ·go_enter Tryz.func168,Tryz.ntmps168;go_wp2;go_ret;exact ⟨_,rfl,by solve_by_elim [jA,jB,jC,jD,jE],trivial⟩
 ·by_cases h2:a=c
  ·subst h2;go_enter Tryz.func168,Tryz.ntmps168;go_wp2;go_ret;exact ⟨_,rfl,by solve_by_elim [jA,jB,jC,jD,jE],trivial⟩
  ·go_enter Tryz.func168,Tryz.ntmps168;go_wp2;go_ret;exact ⟨_,rfl,by solve_by_elim [jA,jB,jC,jD,jE],trivial⟩
theorem QS (a b n:Int) (w:World) (ha:Af a) (hb:Af b) (hn:1≤n) (hn2:n≤65536):
  Calls Tryz.prog 169 #[.agg #[.int .i64 a,.int .i64 b],.int .i64 n] w (KG w (LA n)):=by
 obtain ⟨ha,ha2⟩:=ha;obtain ⟨hb,hb2⟩:=hb;have h1:=Int.emod_nonneg a (show n≠0 by omega);have h2:=Int.emod_lt_of_pos a (show 0<n by omega);go_enter Tryz.func169,Tryz.ntmps169;go_wp2;go_quiet (fail);go_wp2;go_ret;exact ⟨_,rfl,by solve_by_elim [jA,jB,jC,jD,jE],Int.emod_nonneg _ (by omega),Int.emod_lt_of_pos _ (by omega)⟩
theorem Vz (a b c d:Int) (w:World) (ha:Af a) (hb:Af b) (hc:Af c) (hd:Af d):
  Calls Tryz.prog 209 #[.agg #[.int .i64 a,.int .i64 b],.agg #[.int .i64 c,.int .i64 d]] w (Gx w Oa):=by
 have hc1:=hc.1;have hc2:=hc.2;have hd1:=hd.1;have hd2:=hd.2;go_enter Tryz.func209,Tryz.ntmps209;go_wp2_with fail;refine (Nj _ _ _ _ _ ⟨by omega,by omega⟩ ⟨by omega,by omega⟩ ⟨by omega,by omega⟩ ⟨by omega,by omega⟩).mono ?_;rintro e w1 ⟨x,y,rfl,hb1,hx,hy, -⟩;have hz1:=hb1.size;simp only [World.size_alloc] at hz1;obtain ⟨hq,hf⟩:=hb1.cellsTo (w.heap.size+1+1+1+1) (by simp);go_wp2_with fail;refine (Nj _ _ _ _ _ ha hb hx hy).mono ?_;rintro e w2 ⟨x',y',rfl,hb2,hx',hy', -⟩;have hz2:=hb2.size;simp only [World.size_setCell] at hz2;obtain ⟨hq2,hf2⟩:=hb2.cellsTo (w.heap.size+1+1+1+1) (by simp;omega);go_wp2;exact bodyPost_ret (v:= .agg #[.int .i64 x',.int .i64 y']) (by simp [results,Tryz.results209,go_sem,hq2,hq]) rfl ⟨_,_,rfl,by (repeat (first|exact jD _|assumption|refine jA ?_|refine jB ?_|refine jC ?_|refine Aa.step_set ?_ (by simp <;>omega) _|refine jE ?_ (by assumption))),hx',hy',trivial⟩
def wv (hi lo:Int):Int:=hi * 4294967296+lo
theorem XY {a b c d:Int} (ha:Af a) (hb:Af b) (hc:Af c) (hd:Af d):wv ((a+c+(b+d) / 4294967296) % 4294967296) ((b+d) % 4294967296)=(wv a b+wv c d) % 18446744073709551616:=by
 obtain ⟨_,_⟩:=ha;obtain ⟨_,_⟩:=hb;obtain ⟨_,_⟩:=hc;obtain ⟨_,_⟩:=hd;unfold wv;omega
theorem Fy {a b:Int} (ha:Af a) (hb:Af b):0≤wv a b∧wv a b<18446744073709551616:=by
 obtain ⟨_,_⟩:=ha;obtain ⟨_,_⟩:=hb;unfold wv;omega
theorem VW (a b c d:Nat) (hb:b<4294967296) (hd:d<4294967296):(a * 4294967296+b) ^^^ (c * 4294967296+d)=(a ^^^ c) * 4294967296+(b ^^^ d):=by
 have e:(4294967296:Nat)=2 ^ 32:=by decide
 have hx:b ^^^ d<2 ^ 32:=Nat.xor_lt_two_pow (by omega) (by omega);apply Nat.eq_of_testBit_eq;intro i;rw [Nat.testBit_xor,e,Nat.mul_comm a,Nat.mul_comm c,Nat.mul_comm (a ^^^ c),Nat.testBit_two_pow_mul_add _ (by omega),Nat.testBit_two_pow_mul_add _ (by omega),Nat.testBit_two_pow_mul_add _ hx];split <;>rw [Nat.testBit_xor]
theorem Sv {a b c d:Int} (ha:Af a) (hb:Af b) (hc:Af c) (hd:Af d):wv ((a.toNat ^^^ c.toNat:Nat):Int) ((b.toNat ^^^ d.toNat:Nat):Int)=bits .xor .u64 (wv a b) (wv c d):=by
 obtain ⟨a1,a2⟩:=ha;obtain ⟨b1,b2⟩:=hb;obtain ⟨c1,c2⟩:=hc;obtain ⟨d1,d2⟩:=hd;obtain ⟨A,rfl⟩:=jM a1;obtain ⟨B,rfl⟩:=jM b1;obtain ⟨C,rfl⟩:=jM c1;obtain ⟨D,rfl⟩:=jM d1;have h:=u64_xor_nat (A * 4294967296+B) (C * 4294967296+D) (by omega) (by omega);have e1:wv (A:Int) (B:Int)=((A * 4294967296+B:Nat):Int):=by unfold wv;omega
 have e2:wv (C:Int) (D:Int)=((C * 4294967296+D:Nat):Int):=by unfold wv;omega
 rw [e1,e2,h,VW A B C D (by omega) (by omega)];simp only [Int.toNat_natCast];unfold wv;omega
theorem Mv (a b n:Nat) (hb:b<2 ^ n):(a * 2 ^ n)|||b=a * 2 ^ n+b:=by
 rw [Nat.mul_comm];exact (Nat.two_pow_add_eq_or_of_lt hb a).symm
theorem IV (x:Int) (n:Nat) (h0:0≤x) (h1:x<18446744073709551616) (hn:n≤64):Ca x n=x * 2 ^ n % 18446744073709551616+x / 2 ^ (64 - n):=by
 obtain ⟨X,rfl⟩:=jM h0;have e:(18446744073709551616:Nat)=2 ^ 64:=by decide
 have hX:X<2 ^ 64:=by omega
 have p1:X * 2 ^ n % 18446744073709551616=X % 2 ^ (64 - n) * 2 ^ n:=by
  rw [e,show (2:Nat) ^ 64=2 ^ (64 - n) * 2 ^ n by rw [←Nat.pow_add];congr 1;omega,Nat.mul_mod_mul_right]
 have p2:X / 2 ^ (64 - n)<2 ^ n:=by
  rw [Nat.div_lt_iff_lt_mul (Nat.two_pow_pos _),←Nat.pow_add,show n+(64 - n)=64 by omega];exact hX
 have hl:X * 2 ^ n % 18446744073709551616<18446744073709551616:=Nat.mod_lt _ (by decide);have hr:X / 2 ^ (64 - n)<18446744073709551616:=Nat.lt_of_le_of_lt (Nat.div_le_self _ _) (by omega);have h:=u64_or_nat (X * 2 ^ n % 18446744073709551616) (X / 2 ^ (64 - n)) hl hr;unfold Ca;have c1:((X:Int) * 2 ^ n % 18446744073709551616)=((X * 2 ^ n % 18446744073709551616:Nat):Int):=by rw [Int.natCast_emod,Int.natCast_mul,Int.natCast_pow];rfl
 have c2:((X:Int) / 2 ^ (64 - n))=((X / 2 ^ (64 - n):Nat):Int):=by rw [Int.natCast_ediv,Int.natCast_pow];rfl
 rw [c1,c2,h,p1,Mv _ _ _ p2,Int.natCast_add]
theorem Qg {a b:Int} (ha:Af a) (hb:Af b):wv (a * 8192 % 4294967296+b * 8192 / 4294967296) (b * 8192 % 4294967296+a * 8192 / 4294967296)=Ca (wv a b) 13:=by
 rw [IV _ _ (Fy ha hb).1 (Fy ha hb).2 (by decide)];obtain ⟨_,_⟩:=ha;obtain ⟨_,_⟩:=hb;unfold wv;have e1:(2:Int) ^ 13=8192:=by decide
 have e2:(2:Int) ^ (64 - 13)=2251799813685248:=by decide
 rw [e1,e2];omega
theorem Vk {a b:Int} (ha:Af a) (hb:Af b):wv (a * 65536 % 4294967296+b * 65536 / 4294967296) (b * 65536 % 4294967296+a * 65536 / 4294967296)=Ca (wv a b) 16:=by
 rw [IV _ _ (Fy ha hb).1 (Fy ha hb).2 (by decide)];obtain ⟨_,_⟩:=ha;obtain ⟨_,_⟩:=hb;unfold wv;have e1:(2:Int) ^ 16=65536:=by decide
 have e2:(2:Int) ^ (64 - 16)=281474976710656:=by decide
 rw [e1,e2];omega
theorem Qm {a b:Int} (ha:Af a) (hb:Af b):wv (a * 131072 % 4294967296+b * 131072 / 4294967296) (b * 131072 % 4294967296+a * 131072 / 4294967296)=Ca (wv a b) 17:=by
 rw [IV _ _ (Fy ha hb).1 (Fy ha hb).2 (by decide)];obtain ⟨_,_⟩:=ha;obtain ⟨_,_⟩:=hb;unfold wv;have e1:(2:Int) ^ 17=131072:=by decide
 have e2:(2:Int) ^ (64 - 17)=140737488355328:=by decide
 rw [e1,e2];omega
theorem T1 {a b:Int} (ha:Af a) (hb:Af b):wv (a * 2097152 % 4294967296+b * 2097152 / 4294967296) (b * 2097152 % 4294967296+a * 2097152 / 4294967296)=Ca (wv a b) 21:=by
 rw [IV _ _ (Fy ha hb).1 (Fy ha hb).2 (by decide)];obtain ⟨_,_⟩:=ha;obtain ⟨_,_⟩:=hb;unfold wv;have e1:(2:Int) ^ 21=2097152:=by decide
 have e2:(2:Int) ^ (64 - 21)=8796093022208:=by decide
 rw [e1,e2];omega
theorem WU {a b:Int} (ha:Af a) (hb:Af b):wv (b % 4294967296+a / 4294967296) (a % 4294967296+b / 4294967296)=Ca (wv a b) 32:=by
 rw [IV _ _ (Fy ha hb).1 (Fy ha hb).2 (by decide)];obtain ⟨_,_⟩:=ha;obtain ⟨_,_⟩:=hb;unfold wv;have e1:(2:Int) ^ 32=4294967296:=by decide
 rw [e1];omega
theorem YT {a b c d:Int} (ha:Af a) (hb:Af b) (hc:Af c) (hd:Af d):(a<c∨(a=c∧b<d))↔wv a b<wv c d:=by
 obtain ⟨_,_⟩:=ha;obtain ⟨_,_⟩:=hb;obtain ⟨_,_⟩:=hc;obtain ⟨_,_⟩:=hd;unfold wv;omega
theorem Vl {a b c d:Int} (ha:Af a) (hb:Af b) (hc:Af c) (hd:Af d):(wv a b+(wv (4294967295 - c) (4294967295 - d)+1) % 18446744073709551616) % 18446744073709551616=(wv a b - wv c d) % 18446744073709551616:=by
 obtain ⟨_,_⟩:=ha;obtain ⟨_,_⟩:=hb;obtain ⟨_,_⟩:=hc;obtain ⟨_,_⟩:=hd;unfold wv;omega
theorem Qd {a b n:Int}:(a % n * 4294967296+b) % n=wv a b % n:=by
 unfold wv;rw [Int.add_emod,Int.mul_emod,Int.emod_emod_of_dvd _ (Int.dvd_refl n),←Int.mul_emod,←Int.add_emod]
theorem Ct (t:ByteArray) (i:Nat):0≤AQ t i∧AQ t i<256:=by
 unfold AQ;split
 ·rename_i h;have:=t[i].toNat_lt;omega
 ·omega
theorem I4 (t:ByteArray) (i:Nat) (h:¬i<t.size):AQ t i=0:=by
 unfold AQ;rw [dif_neg h]
theorem Xw (v b:Int) (h0:0≤v) (h1:v<72057594037927936) (b0:0≤b) (b1:b<256):bits .or .u64 (v * 256) b=v * 256+b:=by
 obtain ⟨V,rfl⟩:=jM h0;obtain ⟨B,rfl⟩:=jM b0;have e:((V:Int) * 256)=((V * 2 ^ 8:Nat):Int):=by omega
 rw [e,u64_or_nat _ _ (by omega) (by omega),Mv V B 8 (by omega),Int.natCast_add]
theorem GU (t:ByteArray) (f n:Nat) (h0:0≤BI t f n) (h1:BI t f n<72057594037927936):BI t f (n+1)=BI t f n * 256+AQ t (f+(7 - n)):=by
 have hb:=Ct t (f+(7 - n));have hm:BI t f n * 256 % 18446744073709551616=BI t f n * 256:=by omega
 rw [BI];split
 ·rw [hm,Xw _ _ h0 h1 hb.1 hb.2]
 ·rename_i h;rw [hm,I4 t _ h];omega
theorem GD (t:ByteArray) (f:Nat):BE t f=((((((AQ t (f+7) * 256+AQ t (f+6)) * 256+AQ t (f+5)) * 256+AQ t (f+4)) * 256+AQ t (f+3)) * 256+AQ t (f+2)) * 256+AQ t (f+1)) * 256+AQ t f:=by
 have b0:=Ct t f;have b1:=Ct t (f+1);have b2:=Ct t (f+2);have b3:=Ct t (f+3);have b4:=Ct t (f+4);have b5:=Ct t (f+5);have b6:=Ct t (f+6);have b7:=Ct t (f+7);have s0:BI t f 0=0:=rfl;have s1:BI t f 1=BI t f 0 * 256+AQ t (f+7):=GU t f 0 (by omega) (by omega);have s2:BI t f 2=BI t f 1 * 256+AQ t (f+6):=GU t f 1 (by omega) (by omega);have s3:BI t f 3=BI t f 2 * 256+AQ t (f+5):=GU t f 2 (by omega) (by omega);have s4:BI t f 4=BI t f 3 * 256+AQ t (f+4):=GU t f 3 (by omega) (by omega);have s5:BI t f 5=BI t f 4 * 256+AQ t (f+3):=GU t f 4 (by omega) (by omega);have s6:BI t f 6=BI t f 5 * 256+AQ t (f+2):=GU t f 5 (by omega) (by omega);have s7:BI t f 7=BI t f 6 * 256+AQ t (f+1):=GU t f 6 (by omega) (by omega);have s8:BI t f 8=BI t f 7 * 256+AQ t f:=GU t f 7 (by omega) (by omega);unfold BE;omega
def Gz (t y:ByteArray):Prop:=(∀i,i<t.size→AQ y i=AQ t i)∧(∀i,t.size≤i→i<8 * (t.size / 8)+7→AQ y i=0)∧AQ y (8 * (t.size / 8)+7)=(t.size:Int) % 256∧y.size=8 * (t.size / 8)+8
theorem Gz.word {t y:ByteArray} (h:Gz t y) (q:Nat) (hq:q<t.size / 8):BE y (8 * q)=BE t (8 * q):=by
 have e:∀j,j<8→AQ y (8 * q+j)=AQ t (8 * q+j):=fun j hj=>h.1 _ (by omega)
 have e0:=h.1 (8 * q) (by omega);rw [GD,GD,e 7 (by omega),e 6 (by omega),e 5 (by omega),e 4 (by omega),e 3 (by omega),e 2 (by omega),e 1 (by omega),e0]
theorem Gz.last {t y:ByteArray} (h:Gz t y):BE y (8 * (t.size / 8))=bits .or .u64 (BE t (8 * (t.size / 8))) ((t.size:Int) * 72057594037927936 % 18446744073709551616):=by
 obtain ⟨h1,h2,h3, -⟩:=h
 have e:∀j,j<7→AQ y (8 * (t.size / 8)+j)=AQ t (8 * (t.size / 8)+j):=fun j hj=>by
  by_cases hlt:8 * (t.size / 8)+j<t.size
  ·exact h1 _ hlt
  ·rw [I4 t _ hlt];exact h2 _ (by omega) (by omega)
 have e0:AQ y (8 * (t.size / 8))=AQ t (8 * (t.size / 8)):=e 0 (by omega);have e7:AQ t (8 * (t.size / 8)+7)=0:=I4 _ _ (by omega);have hw:=GD t (8 * (t.size / 8));rw [e7] at hw;have b0:=Ct t (8 * (t.size / 8));have b1:=Ct t (8 * (t.size / 8)+1);have b2:=Ct t (8 * (t.size / 8)+2);have b3:=Ct t (8 * (t.size / 8)+3);have b4:=Ct t (8 * (t.size / 8)+4);have b5:=Ct t (8 * (t.size / 8)+5);have b6:=Ct t (8 * (t.size / 8)+6);have hy:=GD y (8 * (t.size / 8));rw [h3,e 6 (by omega),e 5 (by omega),e 4 (by omega),e 3 (by omega),e 2 (by omega),e 1 (by omega),e0] at hy;have hm:(t.size:Int) * 72057594037927936 % 18446744073709551616=(t.size:Int) % 256 * 72057594037927936:=by omega
 have hor:∀(a b:Int),0≤a→a<72057594037927936→0≤b→b<256→bits .or .u64 a (b * 72057594037927936)=b * 72057594037927936+a:=fun a b a0 a1 b0 b1=>by
  obtain ⟨A,rfl⟩:=jM a0;obtain ⟨B,rfl⟩:=jM b0;have e:((B:Int) * 72057594037927936)=((B * 2 ^ 56:Nat):Int):=by omega
  rw [e,u64_or_nat _ _ (by omega) (by omega),Nat.or_comm,Mv B A 56 (by omega),Int.natCast_add]
 rw [hm,hor _ _ (by omega) (by omega) (by omega) (by omega),hy,hw];omega
def Gv (v x y:Int):Prop:=wv x y=v
def G4 (a b:Int):Int:=(a+b) % 18446744073709551616
def Hq (a b:Int):Int:=(a - b) % 18446744073709551616
def Be (a b:Int):Int:=bits .xor .u64 a b
def Ur (v n x:Int):Prop:=x=v % n
theorem Iw (a b c d:Int) (w:World) (ha:Af a) (hb:Af b) (hc:Af c) (hd:Af d):
  Calls Tryz.prog 229 #[.agg #[.int .i64 a,.int .i64 b],.agg #[.int .i64 c,.int .i64 d]] w (Gx w (Gv (G4 (wv a b) (wv c d)))):=by
 have E:=XY ha hb hc hd;obtain ⟨ha,ha2⟩:=ha;obtain ⟨hb,hb2⟩:=hb;obtain ⟨hc,hc2⟩:=hc;obtain ⟨hd,hd2⟩:=hd;go_enter Tryz.func229,Tryz.ntmps229;go_wp2;exact bodyPost_ret (v:= .agg #[.int .i64 ((a+c+(b+d) / 4294967296) % 4294967296),.int .i64 ((b+d) % 4294967296)]) (by simp [results,Tryz.results229,go_sem]) rfl ⟨_,_,rfl,by solve_by_elim [jA,jB,jC,jD,jE],⟨by omega,by omega⟩,⟨by omega,by omega⟩,E⟩
theorem Fb (a b c d:Int) (w:World) (ha:Af a) (hb:Af b) (hc:Af c) (hd:Af d):
  Calls Tryz.prog 207 #[.agg #[.int .i64 a,.int .i64 b],.agg #[.int .i64 c,.int .i64 d]] w (Gx w (Gv (Be (wv a b) (wv c d)))):=by
 have E:=Sv ha hb hc hd;rw [←MQ a c ha hc,←MQ b d hb hd] at E;go_enter Tryz.func207,Tryz.ntmps207;go_wp2;exact bodyPost_ret (v:= .agg #[.int .i64 (bits BinOp.xor IntKind.i64 a c),.int .i64 (bits BinOp.xor IntKind.i64 b d)]) (by simp [results,Tryz.results207,go_sem]) rfl ⟨_,_,rfl,by solve_by_elim [jA,jB,jC,jD,jE],ha.xor hc,hb.xor hd,E⟩
theorem Ms {p q:Prop} {x:Bool} (h:p↔q) (k:x=true↔p):Co q x:=k.trans h
theorem J7 (a b c d:Int) (w:World) (ha:Af a) (hb:Af b) (hc:Af c) (hd:Af d):
  Calls Tryz.prog 168 #[.agg #[.int .i64 a,.int .i64 b],.agg #[.int .i64 c,.int .i64 d]] w (Ew w (Co (wv a b<wv c d))):=by
 have E:=jp (YT ha hb hc hd);by_cases h1:a<c
 ·go_enter Tryz.func168,Tryz.ntmps168;go_wp2;go_ret;exact ⟨_,rfl,by solve_by_elim [jA,jB,jC,jD,jE],Ms E.out (by first|(simp;done)|(simp;omega))⟩
 ·by_cases h2:a=c
  ·subst h2;go_enter Tryz.func168,Tryz.ntmps168;go_wp2;go_ret;exact ⟨_,rfl,by solve_by_elim [jA,jB,jC,jD,jE],Ms E.out (by first|(simp;done)|(simp;omega))⟩
  ·go_enter Tryz.func168,Tryz.ntmps168;go_wp2;go_ret;exact ⟨_,rfl,by solve_by_elim [jA,jB,jC,jD,jE],Ms E.out (by first|(simp;done)|(simp;omega))⟩
theorem LK (a b n:Int) (w:World) (ha:Af a) (hb:Af b) (hn:1≤n) (hn2:n≤65536):
  Calls Tryz.prog 169 #[.agg #[.int .i64 a,.int .i64 b],.int .i64 n] w (KG w (Ur (wv a b) n)):=by
 obtain ⟨ha,ha2⟩:=ha;obtain ⟨hb,hb2⟩:=hb;have h1:=Int.emod_nonneg a (show n≠0 by omega);have h2:=Int.emod_lt_of_pos a (show 0<n by omega);go_enter Tryz.func169,Tryz.ntmps169;go_wp2;go_quiet (fail);go_wp2;go_ret;exact ⟨_,rfl,by solve_by_elim [jA,jB,jC,jD,jE],Qd⟩
theorem RD (a b c d:Int) (w:World) (ha:Af a) (hb:Af b) (hc:Af c) (hd:Af d):
  Calls Tryz.prog 209 #[.agg #[.int .i64 a,.int .i64 b],.agg #[.int .i64 c,.int .i64 d]] w (Gx w (Gv (Hq (wv a b) (wv c d)))):=by
 have hc1:=hc.1;have hc2:=hc.2;have hd1:=hd.1;have hd2:=hd.2;go_enter Tryz.func209,Tryz.ntmps209;go_wp2_with fail;refine (Iw _ _ _ _ _ ⟨by omega,by omega⟩ ⟨by omega,by omega⟩ ⟨by omega,by omega⟩ ⟨by omega,by omega⟩).mono ?_;rintro e w1 ⟨x,y,rfl,hb1,hx,hy,e1⟩;have hz1:=hb1.size;simp only [World.size_alloc] at hz1;obtain ⟨hq,hf⟩:=hb1.cellsTo (w.heap.size+1+1+1+1) (by simp);go_wp2_with fail;refine (Iw _ _ _ _ _ ha hb hx hy).mono ?_;rintro e w2 ⟨x',y',rfl,hb2,hx',hy',e2⟩
 have E:Hid (Gv (Hq (wv a b) (wv c d)) x' y'):=by
  show wv x' y'=Hq (wv a b) (wv c d);have e1':wv x y=G4 _ _:=e1;have e2':wv x' y'=G4 _ _:=e2;rw [e2',e1'];exact Vl ha hb hc hd
 clear e1 e2;have hz2:=hb2.size;simp only [World.size_setCell] at hz2;obtain ⟨hq2,hf2⟩:=hb2.cellsTo (w.heap.size+1+1+1+1) (by simp;omega);go_wp2;exact bodyPost_ret (v:= .agg #[.int .i64 x',.int .i64 y']) (by simp [results,Tryz.results209,go_sem,hq2,hq]) rfl ⟨_,_,rfl,by (repeat (first|exact jD _|assumption|refine jA ?_|refine jB ?_|refine jC ?_|refine Aa.step_set ?_ (by simp <;>omega) _|refine jE ?_ (by assumption))),hx',hy',E.out⟩
theorem Ih (a b n:Int) (w:World) (ha:Af a) (hb:Af b) (hn:n=13∨n=16∨n=17∨n=21∨n=32):
  Calls Tryz.prog 230 #[.agg #[.int .i64 a,.int .i64 b],.int .i64 n] w (Gx w (Gv (Ca (wv a b) n.toNat))):=by
 have E13:=jp (Qg ha hb);have E16:=jp (Vk ha hb);have E17:=jp (Qm ha hb);have E21:=jp (T1 ha hb);have E32:=jp (WU ha hb);obtain ⟨ha,ha2⟩:=ha;obtain ⟨hb,hb2⟩:=hb;rcases hn with rfl|rfl|rfl|rfl|rfl
 ·go_enter Tryz.func230,Tryz.ntmps230;go_wp2;refine wp_loop_rounds 1 ?_;rw [rounds_succ];go_wp2;exact bodyPost_ret (v:= .agg #[.int .i64 (a * 8192 % 4294967296+b * 8192 / 4294967296),.int .i64 (b * 8192 % 4294967296+a * 8192 / 4294967296)]) (by simp [results,Tryz.results230,go_sem]) rfl ⟨_,_,rfl,by solve_by_elim [jA,jB,jC,jD,jE],⟨by omega,by omega⟩,⟨by omega,by omega⟩,E13.out⟩
 ·go_enter Tryz.func230,Tryz.ntmps230;go_wp2;refine wp_loop_rounds 1 ?_;rw [rounds_succ];go_wp2;exact bodyPost_ret (v:= .agg #[.int .i64 (a * 65536 % 4294967296+b * 65536 / 4294967296),.int .i64 (b * 65536 % 4294967296+a * 65536 / 4294967296)]) (by simp [results,Tryz.results230,go_sem]) rfl ⟨_,_,rfl,by solve_by_elim [jA,jB,jC,jD,jE],⟨by omega,by omega⟩,⟨by omega,by omega⟩,E16.out⟩
 ·go_enter Tryz.func230,Tryz.ntmps230;go_wp2;refine wp_loop_rounds 1 ?_;rw [rounds_succ];go_wp2;exact bodyPost_ret (v:= .agg #[.int .i64 (a * 131072 % 4294967296+b * 131072 / 4294967296),.int .i64 (b * 131072 % 4294967296+a * 131072 / 4294967296)]) (by simp [results,Tryz.results230,go_sem]) rfl ⟨_,_,rfl,by solve_by_elim [jA,jB,jC,jD,jE],⟨by omega,by omega⟩,⟨by omega,by omega⟩,E17.out⟩
 ·go_enter Tryz.func230,Tryz.ntmps230;go_wp2;refine wp_loop_rounds 1 ?_;rw [rounds_succ];go_wp2;exact bodyPost_ret (v:= .agg #[.int .i64 (a * 2097152 % 4294967296+b * 2097152 / 4294967296),.int .i64 (b * 2097152 % 4294967296+a * 2097152 / 4294967296)]) (by simp [results,Tryz.results230,go_sem]) rfl ⟨_,_,rfl,by solve_by_elim [jA,jB,jC,jD,jE],⟨by omega,by omega⟩,⟨by omega,by omega⟩,E21.out⟩
 ·go_enter Tryz.func230,Tryz.ntmps230;go_wp2;refine wp_loop_rounds 2 ?_;rw [rounds_succ];go_wp2;rw [rounds_succ];go_wp2;exact bodyPost_ret (v:= .agg #[.int .i64 (b % 4294967296+a / 4294967296),.int .i64 (a % 4294967296+b / 4294967296)]) (by simp [results,Tryz.results230,go_sem]) rfl ⟨_,_,rfl,by solve_by_elim [jA,jB,jC,jD,jE],⟨by omega,by omega⟩,⟨by omega,by omega⟩,E32.out⟩
def BQ (l:List UInt8):Int:=l.foldl (fun v c=>256 * v+(c.toNat:Int)) 0
theorem Mm (l:List UInt8) (c:UInt8):BQ (l++[c])=256 * BQ l+(c.toNat:Int):=by simp [BQ]
theorem Lt (s:ByteArray) (k:Nat) (h:k<s.size):s.data.toList.take (k+1)=s.data.toList.take k++[s[k]]:=by
 rw [jQ (by simpa using h)];rfl
theorem Km (c:UInt8):(c.toNat:Int)≤255:=by have:=c.toNat_lt;omega
theorem Lm (l:List UInt8) (n:Nat):0≤BQ (l.take n):=by
 induction n with
 |zero=>simp [BQ]
 |succ n ih=>
  by_cases h:n<l.length
  ·rw [jQ h,Mm];omega
  ·rw [jR (by omega),←jR (i:=n) (l:=l) (by omega)];exact ih
theorem MS (l:List UInt8) (n:Nat):BQ (l.take n)<256 ^ n:=by
 induction n with
 |zero=>simp [BQ]
 |succ n ih=>
  by_cases h:n<l.length
  ·rw [jQ h,Mm,Int.pow_succ];have:=Km l[n];omega
  ·rw [jR (by omega),←jR (i:=n) (l:=l) (by omega),Int.pow_succ];have:(0:Int)<256 ^ n:=Int.pow_pos (by omega);omega
theorem TM (k:Nat) (h:k≤6):(256:Int) ^ k≤281474976710656:=by
 rcases (show k=0∨k=1∨k=2∨k=3∨k=4∨k=5∨k=6 by omega) with rfl|rfl|rfl|rfl|rfl|rfl|rfl <;>decide
theorem Fu (s:ByteArray) (w:World) (hs:s.size≤7):
  Calls Tryz.prog 106 #[.string s] w fun e w'=>e= .returned (.int .i64 (BQ s.data.toList))∧w=w':=by
 go_enter Tryz.func106,Tryz.ntmps106;go_wp2;go_loop [3,4] (fun n i=>∃k:Nat,k≤s.size∧i= .int .i64 k∧n= .int .i64 (BQ (s.data.toList.take k))) (fun _ i=>s.size - (intOf i).toNat)
 case atStart=>exact ⟨0,Nat.zero_le _,rfl,rfl⟩
 case round=>
  obtain ⟨k,hk,rfl,rfl⟩:=hrel;have h0:=Lm s.data.toList k;have h1:=MS s.data.toList k;by_cases hlt:k<s.size
  ·have HS:Hid (BQ (s.data.toList.take (k+1))=256 * BQ (s.data.toList.take k)+(s[k].toNat:Int)):=by
    have:=Mm (s.data.toList.take k) s[k];rw [←Lt s k hlt] at this;exact this
   have h3:=Km s[k]
   have h2:=TM k (by omega)
   have h4:BQ (s.data.toList.take k)<281474976710656:=by omega
   clear h1 h2
   go_wp2
   go_round
   case rel=>exact ⟨k+1,by omega,by go_num,by rw [HS.out]⟩
   case measure=>simp [intOf];omega
  ·go_wp2;go_ret;exact ⟨BO (by rw [jR (by simp;omega)]),rfl⟩
theorem Li (x:Int):bits .and .i64 x 1=x % 2:=by
 show IntKind.i64.wrap ((BitVec.ofInt 64 x &&& BitVec.ofInt 64 1).toNat:Int)=_;have h1:BitVec.ofInt 64 1=1#64:=by decide
 rw [h1,BitVec.toNat_and,BitVec.toNat_ofInt,IntKind.wrap_i64];have h2:(1#64).toNat=1:=by decide
 rw [h2,Nat.and_one_is_mod];omega
def Db (s:ByteArray):Prop:=∀i (h:i<s.size),(s[i]'h).toNat=48∨(s[i]'h).toNat=49
def Ba (l:List UInt8):Int:=l.foldl (fun v c=>2 * v+((c.toNat:Int) - 48)) 0
theorem PV (l:List UInt8) (c:UInt8):Ba (l++[c])=2 * Ba l+((c.toNat:Int) - 48):=by simp [Ba]
theorem Ok (s:ByteArray) (h:Db s) (n:Nat) (hn:n≤s.size):0≤Ba (s.data.toList.take n)∧Ba (s.data.toList.take n)<2 ^ n:=by
 induction n with
 |zero=>simp [Ba]
 |succ n ih=>
  obtain ⟨i1,i2⟩:=ih (by omega);rw [Lt s n (by omega),PV,Int.pow_succ];have:=h n (by omega);constructor <;>omega
theorem Nk (k:Nat) (h:k≤40):(2:Int) ^ k≤1099511627776:=by
 have h1:(2:Nat) ^ k≤2 ^ 40:=Nat.pow_le_pow_right (by omega) h;have h2:((2:Nat) ^ k:Int)≤((2 ^ 40:Nat):Int):=by exact_mod_cast h1
 simpa using h2
theorem Fe (s:ByteArray) (w:World) (hs:s.size≤40) (h01:Db s):
  Calls Tryz.prog 188 #[.string s] w fun e w'=>e= .returned (.int .i64 (Ba s.data.toList))∧w=w':=by
 go_enter Tryz.func188,Tryz.ntmps188;go_wp2;go_loop [3,4] (fun n i=>∃k:Nat,k≤s.size∧i= .int .i64 k∧n= .int .i64 (Ba (s.data.toList.take k))) (fun _ i=>s.size - (intOf i).toNat)
 case atStart=>exact ⟨0,Nat.zero_le _,rfl,rfl⟩
 case round=>
  obtain ⟨k,hk,rfl,rfl⟩:=hrel;obtain ⟨h0,h1⟩:=Ok s h01 k hk;have h2:=Nk k (by omega);by_cases hlt:k<s.size
  ·have HS:Hid (Ba (s.data.toList.take (k+1))=2 * Ba (s.data.toList.take k)+((s[k].toNat:Int) - 48)):=by
    have:=PV (s.data.toList.take k) s[k];rw [←Lt s k hlt] at this;exact this
   have h3:=h01 k hlt
   have h5:(48:Int)≤(s[k].toNat:Int):=by omega
   have h6:(s[k].toNat:Int)≤49:=by omega
   have h4:Ba (s.data.toList.take k)<1099511627776:=by omega
   clear h1 h2 h3
   go_wp2
   go_round
   case rel=>exact ⟨k+1,by omega,by go_num,by rw [HS.out]⟩
   case measure=>simp [intOf];omega
  ·go_wp2;go_ret;exact ⟨BO (by rw [jR (by simp;omega)]),rfl⟩
theorem Ib {s t:ByteArray} (h:Db s) (k:Db t):Db (s++t):=by
 intro i hi;by_cases hlt:i<s.size
 ·have:=h i hlt;simpa [ByteArray.getElem_append_left hlt] using this
 ·have hle:s.size≤i:=by omega
  have:=k (i - s.size) (by simp at hi;omega);simpa [ByteArray.getElem_append_right hle] using this
def BH (n:Int):ByteArray:=⟨#[UInt8.ofNat n.toNat]⟩
theorem EU (n:Int):(BH n).size=1:=rfl
theorem Kn (w:World) (n:Int):(convert 105 9 (.slice (some ⟨w.heap.size,0,none⟩) 1 1)).run Tryz.prog (w.alloc (.cells #[.int .u8 n] 5))= .ok (.string (BH n)) (w.alloc (.cells #[.int .u8 n] 5)):=by
 rw [run_convert_bytes_string _ 105 9 5 _ 1 1 Tryz.underlying105 Tryz.underlying5 Tryz.underlying9];rw [run_bytesToString _ _ 1 1 [n] (by simp [loadCells,loadCellsFrom,go_sem])];rfl
theorem Ni {s:ByteArray} {n:Int} (h:Db s) (hn:n=48∨n=49):Db (s++BH n):=by
 refine Ib h ?_;intro i hi;have:i=0:=by rw [EU] at hi;omega
 subst this;rcases hn with rfl|rfl
 ·exact Or.inl rfl
 ·exact Or.inr rfl
theorem LM:Db ByteArray.empty:=by intro i h;simp at h
theorem JK (v n:Int) (w:World) (hn:0≤n) (hn2:n≤62):
  Calls Tryz.prog 195 #[.int .i64 v,.int .i64 n] w (En w fun s=>s.size=n.toNat∧Db s):=by
 go_enter Tryz.func195,Tryz.ntmps195;go_wp2;go_loopw [5,6] (fun t k wr=>∃(s:ByteArray) (q:Nat),q≤n.toNat∧t= .string s∧k= .int .i64 (n - 1 - (q:Int))∧s.size=q∧Db s∧Aa w wr) (fun _ k _=>(intOf k+1).toNat)
 case atStart=>exact ⟨ByteArray.empty,0,Nat.zero_le _,rfl,by simp,rfl,LM,jD _⟩
 case round=>
  obtain ⟨s,q,hq,rfl,rfl,hsz,h01,hb⟩:=hrel;by_cases hlt:q<n.toNat
  ·have hk0:0≤n - 1 - (q:Int):=by omega
   have hk1:n - 1 - (q:Int)<64:=by omega
   generalize hkq:n - 1 - (q:Int)=k at *;have HK:Hid (n - 1 - (q:Int)=k):=hkq;clear hkq;have hcv:=Kn;have h1z:=EU;have ha1:=Li;have hs62:s.size≤62:=by omega
   go_wp2;go_roundw
   case rel=>
    refine ⟨_,q+1,by omega,rfl,by rw [show k - 1=n - 1 - ((q+1:Nat):Int) from by have:=HK.out;omega],by simp [EU,hsz],Ni h01 ?_,by solve_by_elim [jA,jB,jC,jD,jE]⟩;have h2:0≤v / 2 ^ k.toNat % 2∧v / 2 ^ k.toNat % 2<2:=⟨Int.emod_nonneg _ (by decide),Int.emod_lt_of_pos _ (by decide)⟩;omega
   case measure=>simp [intOf];omega
  ·go_wp2;go_ret;exact ⟨_,rfl,hb,by omega,h01⟩
theorem FM (v n:Int) (w:World) (hv: -9223372036854775808≤v) (hv2:v≤9223372036854775807) (hn:0≤n) (hn2:n≤100):
  Calls Tryz.prog 146 #[.int .i64 v,.int .i64 n] w (En w fun s=>s.size=n.toNat):=by
 go_enter Tryz.func146,Tryz.ntmps146;go_wp2;go_loopw [0,1,5] (fun x k t wr=>∃(s:ByteArray) (q:Nat) (u:Int),q≤n.toNat∧t= .string s∧x= .int .i64 u∧k= .int .i64 q∧s.size+q=n.toNat∧ -9223372036854775808≤u∧u≤9223372036854775807∧Aa w wr) (fun _ k _ _=>(intOf k).toNat)
 case atStart=>exact ⟨ByteArray.empty,n.toNat,v,jH _,rfl,rfl,by rw [Int.toNat_of_nonneg hn],by simp,hv,hv2,jD _⟩
 case round=>
  obtain ⟨s,q,u,hq,rfl,rfl,rfl,hsz,hu1,hu2,hb⟩:=hrel;by_cases hlt:0<q
  ·have hcv:=Kn;have h1z:=EU;have hs62:s.size≤100:=by omega
   have HZ:Hid (s.size+q=n.toNat):=hsz;clear hsz;go_wp2;go_roundw
   case rel=>exact ⟨_,q - 1,u / 256,by omega,rfl,rfl,by go_num,by have:=HZ.out;simp [EU];omega,by omega,by omega,by solve_by_elim [jA,jB,jC,jD,jE]⟩
   case measure=>simp [intOf];omega
  ·go_wp2;go_ret;exact ⟨_,rfl,hb,by omega⟩
theorem Af.turn {r:Int} (h:Af r):Af (bits .xor .i64 r 79764919):=h.xor ⟨by decide,by decide⟩
theorem L2 (s:ByteArray) (w:World) (hs:s.size≤maxLen):
  Calls Tryz.prog 145 #[.string s] w (KG w (LA 4294967296)):=by
 unfold maxLen at hs;have ha1:=Li;go_enter Tryz.func145,Tryz.ntmps145;go_wp2;go_loopw [3,4] (fun r i wr=>∃(x:Int) (n:Nat),n≤s.size∧r= .int .i64 x∧i= .int .i64 n∧Af x∧Aa w wr) (fun _ i _=>s.size - (intOf i).toNat)
 case atStart=>exact ⟨4294967295,0,Nat.zero_le _,rfl,rfl,⟨by decide,by decide⟩,jD _⟩
 case round=>
  obtain ⟨x,n,hn,rfl,rfl,hx,hb⟩:=hrel;by_cases hlt:n<s.size
  ·go_wp2;go_loopw [3,5] (fun r k wr=>∃(x:Int) (q:Nat),q≤8∧r= .int .i64 x∧k= .int .i64 q∧Af x∧Aa w wr) (fun _ k _=>8 - (intOf k).toNat)
   case atStart=>exact ⟨x,0,by omega,rfl,rfl,hx,hb⟩
   case round=>
    obtain ⟨y,q,hq,rfl,rfl,hy,hb'⟩:=hrel;have hy1:=hy.1;have hy2:=hy.2;by_cases hlt':q<8
    ·go_wp2
     all_goals
      go_roundw
      case rel=>exact ⟨_,q+1,by omega,rfl,by go_num,by first|exact Af.turn ⟨by omega,by omega⟩|exact ⟨by omega,by omega⟩,hb'⟩
      case measure=>simp [intOf];omega
    ·go_wp2;go_roundw
     case rel=>exact ⟨y,n+1,by omega,rfl,by go_num,hy,hb'⟩
     case measure=>simp [intOf];omega
  ·go_wp2;go_loopw [7,8] (fun o k wr=>∃(y:Int) (q:Nat),q≤32∧o= .int .i64 y∧k= .int .i64 q∧0≤y∧y<2 ^ q∧Aa w wr) (fun _ k _=>32 - (intOf k).toNat)
   case atStart=>exact ⟨0,0,by omega,rfl,rfl,by omega,by decide,hb⟩
   case round=>
    obtain ⟨y,q,hq,rfl,rfl,hy1,hy2,hb'⟩:=hrel;have hp:=Nk q (by omega);by_cases hlt':q<32
    ·have h2:∀z:Int,0≤z % 2∧z % 2<2:=fun z=>⟨Int.emod_nonneg _ (by decide),Int.emod_lt_of_pos _ (by decide)⟩
     have h3:=h2 (x / 2 ^ q);clear h2;go_wp2;go_roundw
     case rel=>exact ⟨_,q+1,by omega,rfl,by go_num,by omega,by rw [Int.pow_succ];omega,hb'⟩
     case measure=>simp [intOf];omega
    ·have:q=32:=by omega
     subst this;go_wp2;go_ret;exact ⟨_,rfl,hb',hy1,by simpa using hy2⟩
theorem D3 (s:ByteArray) (w:World) (hs:s.size≤1099511627776):
  Calls Tryz.prog 86 #[.string s] w (En w fun t=>t.size=s.size+4):=by
 go_enter Tryz.func86,Tryz.ntmps86;go_wp2_with fail;refine (L2 s _ (by unfold maxLen;omega)).mono ?_;rintro e w1 ⟨c,rfl,hb1,hc1,hc2⟩;go_wp2;go_loopw [0,4] (fun t k wr=>∃(x:ByteArray) (q:Nat),q≤4∧t= .string x∧k= .int .i64 q∧x.size=s.size+q∧Aa w wr) (fun _ k _=>4 - (intOf k).toNat)
 case atStart=>exact ⟨s,0,by omega,rfl,rfl,rfl,hb1⟩
 case round=>
  obtain ⟨x,q,hq,rfl,rfl,hx,hb⟩:=hrel;by_cases hlt:q<4
  ·have hx2:x.size≤1099511627790:=by omega
   have HX:Hid (x.size=s.size+q):=hx;clear hx;have d1:0≤c / 2 ^ (8 * q):=Int.ediv_nonneg hc1 (Int.le_of_lt (Int.pow_pos (by decide)));have d2:c / 2 ^ (8 * q)≤c:=Int.ediv_le_self _ hc1;go_wp2_with fail;refine (FM _ _ _ (by omega) (by omega) (by decide) (by decide)).mono ?_;rintro e w2 ⟨y,rfl,hb2,hy⟩;have hy':y.size=1:=hy;clear hy;go_wp2;go_roundw
   case rel=>exact ⟨_,q+1,by omega,rfl,by go_num,by have:=HX.out;simp [hy'];omega,by solve_by_elim [jA,jB,jC,jD,jE]⟩
   case measure=>simp [intOf];omega
  ·go_wp2;go_ret;exact ⟨_,rfl,hb,by omega⟩
theorem KD (s:ByteArray) (w:World) (hs:s.size≤1099511627776):
  Calls Tryz.prog 105 #[.string s] w (YI w fun a ok=>a.size≤s.size∧(ok=true→1≤a.size)):=by
 by_cases h:s.size<5
 ·go_enter Tryz.func105,Tryz.ntmps105;go_wp2;go_ret2;exact ⟨_,_,rfl,jD _,Nat.zero_le _,fun h=>by cases h⟩
 ·go_enter Tryz.func105,Tryz.ntmps105;go_wp2_with fail;have hz:(s.extract 0 (s.size - 4)).size=s.size - 4:=by simp
  generalize s.extract 0 (s.size - 4)=a at *;refine (D3 a _ (by omega)).mono ?_;rintro e w1 ⟨t,rfl,hb1,ht⟩;clear ht;go_wp2;go_ret2;exact ⟨_,_,rfl,by solve_by_elim [jA,jB,jC,jD,jE],by omega,fun _=>by omega⟩
def GP (n:ByteArray):Prop:=∀i (h:i<n.size),48≤(n[i]'h).toNat∧(n[i]'h).toNat≤57
theorem FS (b l cap:Nat) (n:ByteArray) (zs:List Int) (w:World) (hn:n.size=l) (hl:l≤16) (hd:GP n)
  (hc:∀t,t<l→w.cell? ⟨b,t,none⟩=some (.int .i64 (zs.getD t 0))) (hz:∀t,Aj (zs.getD t 0)):
  Calls Tryz.prog 107 #[.slice (some ⟨b,0,none⟩) l cap,.string n] w (En w fun s=>s.size≤9 * l):=by
 go_enter Tryz.func107,Tryz.ntmps107;go_wp2;go_loopw [5,6] (fun t i wr=>∃(x:ByteArray) (k:Nat),k≤l∧t= .string x∧i= .int .i64 k∧x.size≤9 * k∧Aa w wr) (fun _ i _=>l - (intOf i).toNat)
 case atStart=>exact ⟨_,0,by omega,rfl,rfl,Nat.zero_le _,jD _⟩
 case round=>
  obtain ⟨x,k,hk,rfl,rfl,hx,hb1⟩:=hrel;by_cases hlt:k<l
  ·have hcell:=hb1.cell (hc k hlt);obtain ⟨hz1,hz2⟩:=hz k;have hkn:k<n.size:=by omega
   obtain ⟨hd1,hd2⟩:=hd k hkn;have hd3:(48:Int)≤(n[k].toNat:Int):=by omega
   have hd4:(n[k].toNat:Int)≤57:=by omega
   clear hd hz hc hd1 hd2;generalize zs.getD k 0=z at *;have hx2:x.size≤1000:=by omega
   have hw8:IntKind.u8.wrap ((n[k].toNat:Int) - 48)=(n[k].toNat:Int) - 48:=by rw [IntKind.wrap_u8];omega
   have hw64:IntKind.i64.wrap ((n[k].toNat:Int) - 48)=(n[k].toNat:Int) - 48:=by rw [IntKind.wrap_i64];omega
   go_wp2_with fail;go_region_with (go_at_call 146;refine (FM _ _ _ (by omega) (by omega) (by omega) (by omega)).mono ?_;rintro e w2 ⟨y,rfl,hb2,hy⟩;have hyz:y.size≤9:=by omega)
   all_goals
    go_wp2;go_roundw
    case rel=>exact ⟨_,k+1,by omega,rfl,by go_num,by simp;omega,by solve_by_elim [jA,jB,jC,jD,jE]⟩
    case measure=>simp [intOf];omega
  ·go_wp2;go_ret;exact ⟨_,rfl,hb1,by omega⟩
theorem If {w w':World} {a0 a1 a2 a3:Addr} {v0 v1 v2 v3:Value} (h:Aa w w') (c0:w.cell? a0=some v0) (c1:w.cell? a1=some v1) (c2:w.cell? a2=some v2) (c3:w.cell? a3=some v3):
  Aa w w'∧w'.cell? a0=some v0∧w'.cell? a1=some v1∧w'.cell? a2=some v2∧w'.cell? a3=some v3:=⟨h,h.cell c0,h.cell c1,h.cell c2,h.cell c3⟩
end Go.Proofs.YtpapdkhjdelfcabGreat
