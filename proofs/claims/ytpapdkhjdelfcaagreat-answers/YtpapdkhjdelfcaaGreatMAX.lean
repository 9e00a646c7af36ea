import Derived.Test.YtpapdkhjdelfcaaGreatMAA
import Derived.Deep.RegionWith
import Derived.Deep.RegionHeld3
import Derived.Deep.DeepCutAuto
import Derived.Deep.LoopGhost
namespace Go.Proofs.YtpapdkhjdelfcaaGreat
open Go.RowKit
set_option maxRecDepth 100000
set_option maxHeartbeats 4000000
def wv (a b:Int):Int:=a * 4294967296+b
theorem XY {a b c d:Int} (f:Af a) (g:Af b) (i:Af c) (k:Af d):wv ((a+c+(b+d) / 4294967296) % 4294967296) ((b+d) % 4294967296)=(wv a b+wv c d) % 18446744073709551616:=by
 obtain ⟨_,_⟩:=f;obtain ⟨_,_⟩:=g;obtain ⟨_,_⟩:=i;obtain ⟨_,_⟩:=k;unfold wv;omega
theorem Fy {a b:Int} (c:Af a) (d:Af b):0<=wv a b/\wv a b<18446744073709551616:=by
 obtain ⟨_,_⟩:=c;obtain ⟨_,_⟩:=d;unfold wv;omega
theorem VW (a b c d:Nat) (f:b<4294967296) (g:d<4294967296):(a * 4294967296+b) ^^^ (c * 4294967296+d)=(a ^^^ c) * 4294967296+(b ^^^ d):=by
 have e:(4294967296:Nat)=2 ^ 32:=ji
 have hx:b ^^^ d<2 ^ 32:=Nat.xor_lt_two_pow jo jo;apply Nat.eq_of_testBit_eq;intro i;rw [Nat.testBit_xor,e,Nat.mul_comm a,Nat.mul_comm c,Nat.mul_comm (a ^^^ c),Nat.testBit_two_pow_mul_add _ jo,Nat.testBit_two_pow_mul_add _ jo,Nat.testBit_two_pow_mul_add _ hx];split <;>rw [Nat.testBit_xor]
theorem Sv {a b c d:Int} (f:Af a) (g:Af b) (i:Af c) (k:Af d):wv ((a.toNat ^^^ c.toNat:Nat):Int) ((b.toNat ^^^ d.toNat:Nat):Int)=bits .xor .u64 (wv a b) (wv c d):=by
 obtain ⟨l,r⟩:=f;obtain ⟨m,s⟩:=g;obtain ⟨n,t⟩:=i;obtain ⟨o,u⟩:=k;obtain ⟨A,rfl⟩:=jM l;obtain ⟨B,rfl⟩:=jM m;obtain ⟨C,rfl⟩:=jM n;obtain ⟨D,rfl⟩:=jM o;have h:=u64_xor_nat (A * 4294967296+B) (C * 4294967296+D) jo jo;have p:wv (A:Int) (B:Int)=((A * 4294967296+B:Nat):Int):=by unfold wv;omega
 have q:wv (C:Int) (D:Int)=((C * 4294967296+D:Nat):Int):=by unfold wv;omega
 rw [p,q,h,VW A B C D jo jo];simp only [Int.toNat_natCast];unfold wv;omega
theorem Mv (a b n:Nat) (c:b<2 ^ n):(a * 2 ^ n)|||b=a * 2 ^ n+b:=by
 rw [Nat.mul_comm];exact (Nat.two_pow_add_eq_or_of_lt c a).symm
theorem IV (x:Int) (n:Nat) (a:0<=x) (l:x<18446744073709551616) (m:n<=64):Ca x n=x * 2 ^ n % 18446744073709551616+x / 2 ^ (64 - n):=by
 obtain ⟨X,rfl⟩:=jM a;have e:(18446744073709551616:Nat)=2 ^ 64:=ji
 have b:X<2 ^ 64:=jo
 have c:X * 2 ^ n % 18446744073709551616=X % 2 ^ (64 - n) * 2 ^ n:=by
  rw [e,show (2:Nat) ^ 64=2 ^ (64 - n) * 2 ^ n by rw [<-Nat.pow_add];congr 1;omega,Nat.mul_mod_mul_right]
 have d:X / 2 ^ (64 - n)<2 ^ n:=by
  rw [Nat.div_lt_iff_lt_mul (Nat.two_pow_pos _),<-Nat.pow_add,show n+(64 - n)=64 by omega];exact b
 have f:X * 2 ^ n % 18446744073709551616<18446744073709551616:=Nat.mod_lt _ ji;have g:X / 2 ^ (64 - n)<18446744073709551616:=Nat.lt_of_le_of_lt (Nat.div_le_self _ _) jo;have h:=u64_or_nat (X * 2 ^ n % 18446744073709551616) (X / 2 ^ (64 - n)) f g;unfold Ca;have i:((X:Int) * 2 ^ n % 18446744073709551616)=((X * 2 ^ n % 18446744073709551616:Nat):Int):=by rw [Int.natCast_emod,Int.natCast_mul,Int.natCast_pow];rfl
 have k:((X:Int) / 2 ^ (64 - n))=((X / 2 ^ (64 - n):Nat):Int):=by rw [Int.natCast_ediv,Int.natCast_pow];rfl
 rw [i,k,h,c,Mv _ _ _ d,Int.natCast_add]
theorem Qg {a b:Int} (c:Af a) (d:Af b):wv (a * 8192 % 4294967296+b * 8192 / 4294967296) (b * 8192 % 4294967296+a * 8192 / 4294967296)=Ca (wv a b) 13:=by
 rw [IV _ _ (Fy c d).1 (Fy c d).2 ji];obtain ⟨_,_⟩:=c;obtain ⟨_,_⟩:=d;unfold wv;have f:(2:Int) ^ 13=8192:=ji
 have g:(2:Int) ^ (64 - 13)=2251799813685248:=ji
 rw [f,g];omega
theorem Vk {a b:Int} (c:Af a) (d:Af b):wv (a * 65536 % 4294967296+b * 65536 / 4294967296) (b * 65536 % 4294967296+a * 65536 / 4294967296)=Ca (wv a b) 16:=by
 rw [IV _ _ (Fy c d).1 (Fy c d).2 ji];obtain ⟨_,_⟩:=c;obtain ⟨_,_⟩:=d;unfold wv;have f:(2:Int) ^ 16=65536:=ji
 have g:(2:Int) ^ (64 - 16)=281474976710656:=ji
 rw [f,g];omega
theorem Qm {a b:Int} (c:Af a) (d:Af b):wv (a * 131072 % 4294967296+b * 131072 / 4294967296) (b * 131072 % 4294967296+a * 131072 / 4294967296)=Ca (wv a b) 17:=by
 rw [IV _ _ (Fy c d).1 (Fy c d).2 ji];obtain ⟨_,_⟩:=c;obtain ⟨_,_⟩:=d;unfold wv;have f:(2:Int) ^ 17=131072:=ji
 have g:(2:Int) ^ (64 - 17)=140737488355328:=ji
 rw [f,g];omega
theorem T1 {a b:Int} (c:Af a) (d:Af b):wv (a * 2097152 % 4294967296+b * 2097152 / 4294967296) (b * 2097152 % 4294967296+a * 2097152 / 4294967296)=Ca (wv a b) 21:=by
 rw [IV _ _ (Fy c d).1 (Fy c d).2 ji];obtain ⟨_,_⟩:=c;obtain ⟨_,_⟩:=d;unfold wv;have f:(2:Int) ^ 21=2097152:=ji
 have g:(2:Int) ^ (64 - 21)=8796093022208:=ji
 rw [f,g];omega
theorem WU {a b:Int} (c:Af a) (d:Af b):wv (b % 4294967296+a / 4294967296) (a % 4294967296+b / 4294967296)=Ca (wv a b) 32:=by
 rw [IV _ _ (Fy c d).1 (Fy c d).2 ji];obtain ⟨_,_⟩:=c;obtain ⟨_,_⟩:=d;unfold wv;have f:(2:Int) ^ 32=4294967296:=ji
 rw [f];omega
theorem YT {a b c d:Int} (f:Af a) (g:Af b) (i:Af c) (k:Af d):(a<c\/(a=c/\b<d))↔wv a b<wv c d:=by
 obtain ⟨_,_⟩:=f;obtain ⟨_,_⟩:=g;obtain ⟨_,_⟩:=i;obtain ⟨_,_⟩:=k;unfold wv;omega
theorem Vl {a b c d:Int} (f:Af a) (g:Af b) (i:Af c) (k:Af d):(wv a b+(wv (4294967295 - c) (4294967295 - d)+1) % 18446744073709551616) % 18446744073709551616=(wv a b - wv c d) % 18446744073709551616:=by
 obtain ⟨_,_⟩:=f;obtain ⟨_,_⟩:=g;obtain ⟨_,_⟩:=i;obtain ⟨_,_⟩:=k;unfold wv;omega
theorem Qd {a b n:Int}:(a % n * 4294967296+b) % n=wv a b % n:=by
 unfold wv;rw [Int.add_emod,Int.mul_emod,Int.emod_emod_of_dvd _ (Int.dvd_refl n),<-Int.mul_emod,<-Int.add_emod]
theorem Ct (t:jt) (i:Nat):0<=AQ t i/\AQ t i<256:=by
 unfold AQ;split
 .rename_i h;have:=t[i].toNat_lt;omega
 .omega
theorem I4 (t:jt) (i:Nat) (h:¬i<t.size):AQ t i=0:=by
 unfold AQ;rw [dif_neg h]
theorem Xw (v b:Int) (a:0<=v) (d:v<72057594037927936) (c:0<=b) (f:b<256):bits .or .u64 (v * 256) b=v * 256+b:=by
 obtain ⟨V,rfl⟩:=jM a;obtain ⟨B,rfl⟩:=jM c;have e:((V:Int) * 256)=((V * 2 ^ 8:Nat):Int):=jo
 rw [e,u64_or_nat _ _ jo jo,Mv V B 8 jo,Int.natCast_add]
theorem GU (t:jt) (f n:Nat) (c:0<=BI t f n) (d:BI t f n<72057594037927936):BI t f (n+1)=BI t f n * 256+AQ t (f+(7 - n)):=by
 have a:=Ct t (f+(7 - n));have b:BI t f n * 256 % 18446744073709551616=BI t f n * 256:=jo
 rw [BI];split
 .rw [b,Xw _ _ c d a.1 a.2]
 .rename_i h;rw [b,I4 t _ h];omega
theorem GD (t:jt) (f:Nat):BE t f=((((((AQ t (f+7) * 256+AQ t (f+6)) * 256+AQ t (f+5)) * 256+AQ t (f+4)) * 256+AQ t (f+3)) * 256+AQ t (f+2)) * 256+AQ t (f+1)) * 256+AQ t f:=by
 have a:=Ct t f;have b:=Ct t (f+1);have c:=Ct t (f+2);have d:=Ct t (f+3);have g:=Ct t (f+4);have i:=Ct t (f+5);have k:=Ct t (f+6);have l:=Ct t (f+7);have m:BI t f 0=0:=rfl;have n:BI t f 1=BI t f 0 * 256+AQ t (f+7):=GU t f 0 jo jo;have o:BI t f 2=BI t f 1 * 256+AQ t (f+6):=GU t f 1 jo jo;have p:BI t f 3=BI t f 2 * 256+AQ t (f+5):=GU t f 2 jo jo;have q:BI t f 4=BI t f 3 * 256+AQ t (f+4):=GU t f 3 jo jo;have r:BI t f 5=BI t f 4 * 256+AQ t (f+3):=GU t f 4 jo jo;have s:BI t f 6=BI t f 5 * 256+AQ t (f+2):=GU t f 5 jo jo;have u:BI t f 7=BI t f 6 * 256+AQ t (f+1):=GU t f 6 jo jo;have v:BI t f 8=BI t f 7 * 256+AQ t f:=GU t f 7 jo jo;unfold BE;omega
def Gz (t y:jt):Prop:=(∀i,i<t.size->AQ y i=AQ t i)/\(∀i,t.size<=i->i<8 * (t.size / 8)+7->AQ y i=0)/\AQ y (8 * (t.size / 8)+7)=(t.size:Int) % 256/\y.size=8 * (t.size / 8)+8
theorem Gz.word {t y:jt} (h:Gz t y) (q:Nat) (b:q<t.size / 8):BE y (8 * q)=BE t (8 * q):=by
 have e:∀j,j<8->AQ y (8 * q+j)=AQ t (8 * q+j):=fun j c=>h.1 _ jo
 have a:=h.1 (8 * q) jo;rw [GD,GD,e 7 jo,e 6 jo,e 5 jo,e 4 jo,e 3 jo,e 2 jo,e 1 jo,a]
theorem Gz.last {t y:jt} (h:Gz t y):BE y (8 * (t.size / 8))=bits .or .u64 (BE t (8 * (t.size / 8))) ((t.size:Int) * 72057594037927936 % 18446744073709551616):=by
 obtain ⟨k,l,m, -⟩:=h
 have e:∀j,j<7->AQ y (8 * (t.size / 8)+j)=AQ t (8 * (t.size / 8)+j):=fun j s=>by
  by_cases c:8 * (t.size / 8)+j<t.size
  .exact k _ c
  .rw [I4 t _ c];exact l _ jo jo
 have n:AQ y (8 * (t.size / 8))=AQ t (8 * (t.size / 8)):=e 0 jo;have o:AQ t (8 * (t.size / 8)+7)=0:=I4 _ _ jo;have f:=GD t (8 * (t.size / 8));rw [o] at f;have g:=Ct t (8 * (t.size / 8));have p:=Ct t (8 * (t.size / 8)+1);have u:=Ct t (8 * (t.size / 8)+2);have v:=Ct t (8 * (t.size / 8)+3);have w:=Ct t (8 * (t.size / 8)+4);have x:=Ct t (8 * (t.size / 8)+5);have z:=Ct t (8 * (t.size / 8)+6);have i:=GD y (8 * (t.size / 8));rw [m,e 6 jo,e 5 jo,e 4 jo,e 3 jo,e 2 jo,e 1 jo,n] at i;have q:(t.size:Int) * 72057594037927936 % 18446744073709551616=(t.size:Int) % 256 * 72057594037927936:=jo
 have d:∀(a b:Int),0<=a->a<72057594037927936->0<=b->b<256->bits .or .u64 a (b * 72057594037927936)=b * 72057594037927936+a:=fun a b r C g p=>by
  obtain ⟨A,rfl⟩:=jM r;obtain ⟨B,rfl⟩:=jM g;have e:((B:Int) * 72057594037927936)=((B * 2 ^ 56:Nat):Int):=jo
  rw [e,u64_or_nat _ _ jo jo,Nat.or_comm,Mv B A 56 jo,Int.natCast_add]
 rw [q,d _ _ jo jo jo jo,i,f];omega
def Gv (v x y:Int):Prop:=wv x y=v
def G4 (a b:Int):Int:=(a+b) % 18446744073709551616
def Hq (a b:Int):Int:=(a - b) % 18446744073709551616
def Be (a b:Int):Int:=bits .xor .u64 a b
def Ur (v n x:Int):Prop:=x=v % n
theorem Iw (a b c d:Int) (w:jj) (f:Af a) (g:Af b) (i:Af c) (k:Af d):
  Calls Tryz.prog 191 #[.agg #[.int .i64 a,.int .i64 b],.agg #[.int .i64 c,.int .i64 d]] w (Gx w (Gv (G4 (wv a b) (wv c d)))):=by
 have E:=XY f g i k;obtain ⟨f,l⟩:=f;obtain ⟨g,m⟩:=g;obtain ⟨i,n⟩:=i;obtain ⟨k,o⟩:=k;go_enter Tryz.func191,Tryz.ntmps191;go_wp2;exact bodyPost_ret (v:= .agg #[.int .i64 ((a+c+(b+d) / 4294967296) % 4294967296),.int .i64 ((b+d) % 4294967296)]) (by simp [results,Tryz.results191,go_sem]) rfl ⟨_,_,rfl,jq,⟨jo,jo⟩,⟨jo,jo⟩,E⟩
theorem Fb (a b c d:Int) (w:jj) (f:Af a) (g:Af b) (i:Af c) (k:Af d):
  Calls Tryz.prog 167 #[.agg #[.int .i64 a,.int .i64 b],.agg #[.int .i64 c,.int .i64 d]] w (Gx w (Gv (Be (wv a b) (wv c d)))):=by
 have E:=Sv f g i k;rw [<-MQ a c f i,<-MQ b d g k] at E;go_enter Tryz.func167,Tryz.ntmps167;go_wp2;exact bodyPost_ret (v:= .agg #[.int .i64 (bits BinOp.xor IntKind.i64 a c),.int .i64 (bits BinOp.xor IntKind.i64 b d)]) (by simp [results,Tryz.results167,go_sem]) rfl ⟨_,_,rfl,jq,f.xor i,g.xor k,E⟩
theorem Ms {p q:Prop} {x:Bool} (h:p↔q) (k:x=true↔p):Co q x:=k.trans h
theorem J7 (a b c d:Int) (w:jj) (f:Af a) (g:Af b) (i:Af c) (k:Af d):
  Calls Tryz.prog 116 #[.agg #[.int .i64 a,.int .i64 b],.agg #[.int .i64 c,.int .i64 d]] w (Ew w (Co (wv a b<wv c d))):=by
 have E:=jp (YT f g i k);by_cases m:a<c
 .go_enter Tryz.func116,Tryz.ntmps116;go_wp2;go_ret;exact ⟨_,rfl,jq,Ms E.out (by first|(simp;done)|(simp;omega))⟩
 .by_cases l:a=c
  .subst l;go_enter Tryz.func116,Tryz.ntmps116;go_wp2;go_ret;exact ⟨_,rfl,jq,Ms E.out (by first|(simp;done)|(simp;omega))⟩
  .go_enter Tryz.func116,Tryz.ntmps116;go_wp2;go_ret;exact ⟨_,rfl,jq,Ms E.out (by first|(simp;done)|(simp;omega))⟩
theorem LK (a b n:Int) (w:jj) (c:Af a) (d:Af b) (k:1<=n) (f:n<=65536):
  Calls Tryz.prog 117 #[.agg #[.int .i64 a,.int .i64 b],.int .i64 n] w (KG w (Ur (wv a b) n)):=by
 obtain ⟨c,g⟩:=c;obtain ⟨d,i⟩:=d;have l:=Int.emod_nonneg a (show n≠0 by omega);have m:=Int.emod_lt_of_pos a (show 0<n by omega);go_enter Tryz.func117,Tryz.ntmps117;go_wp2;go_quiet (fail);go_wp2;go_ret;exact ⟨_,rfl,jq,Qd⟩
theorem RD (a b c d:Int) (w:jj) (u:Af a) (z:Af b) (l:Af c) (m:Af d):
  Calls Tryz.prog 169 #[.agg #[.int .i64 a,.int .i64 b],.agg #[.int .i64 c,.int .i64 d]] w (Gx w (Gv (Hq (wv a b) (wv c d)))):=by
 have C:=l.1;have D:=l.2;have F:=m.1;have G:=m.2;go_enter Tryz.func169,Tryz.ntmps169;go_wp2_with fail;refine (Iw _ _ _ _ _ ⟨jo,jo⟩ ⟨jo,jo⟩ ⟨jo,jo⟩ ⟨jo,jo⟩).mono ?_;rintro e K ⟨x,y,rfl,f,hx,H,A⟩;have n:=f.size;simp only [World.size_alloc] at n;obtain ⟨I,L⟩:=f.cellsTo (w.heap.size+1+1+1+1) js;go_wp2_with fail;refine (Iw _ _ _ _ _ u z hx H).mono ?_;rintro e M ⟨i,k,rfl,g,o,p,B⟩
 have E:Hid (Gv (Hq (wv a b) (wv c d)) i k):=by
  show wv i k=Hq (wv a b) (wv c d);have q:wv x y=G4 _ _:=A;have r:wv i k=G4 _ _:=B;rw [r,q];exact Vl u z l m
 clear A B;have s:=g.size;simp only [World.size_setCell] at s;obtain ⟨t,J⟩:=g.cellsTo (w.heap.size+1+1+1+1) jx;go_wp2;exact bodyPost_ret (v:= .agg #[.int .i64 i,.int .i64 k]) (by simp [results,Tryz.results169,go_sem,t,I]) rfl ⟨_,_,rfl,jq,o,p,E.out⟩
theorem Ih (a b n:Int) (w:jj) (c:Af a) (d:Af b) (m:n=13\/n=16\/n=17\/n=21\/n=32):
  Calls Tryz.prog 192 #[.agg #[.int .i64 a,.int .i64 b],.int .i64 n] w (Gx w (Gv (Ca (wv a b) n.toNat))):=by
 have f:=jp (Qg c d);have g:=jp (Vk c d);have i:=jp (Qm c d);have k:=jp (T1 c d);have l:=jp (WU c d);obtain ⟨c,o⟩:=c;obtain ⟨d,p⟩:=d;rcases m with rfl|rfl|rfl|rfl|rfl
 .go_enter Tryz.func192,Tryz.ntmps192;go_wp2;refine wp_loop_rounds 1 ?_;rw [rounds_succ];go_wp2;exact bodyPost_ret (v:= .agg #[.int .i64 (a * 8192 % 4294967296+b * 8192 / 4294967296),.int .i64 (b * 8192 % 4294967296+a * 8192 / 4294967296)]) (by simp [results,Tryz.results192,go_sem]) rfl ⟨_,_,rfl,jq,⟨jo,jo⟩,⟨jo,jo⟩,f.out⟩
 .go_enter Tryz.func192,Tryz.ntmps192;go_wp2;refine wp_loop_rounds 1 ?_;rw [rounds_succ];go_wp2;exact bodyPost_ret (v:= .agg #[.int .i64 (a * 65536 % 4294967296+b * 65536 / 4294967296),.int .i64 (b * 65536 % 4294967296+a * 65536 / 4294967296)]) (by simp [results,Tryz.results192,go_sem]) rfl ⟨_,_,rfl,jq,⟨jo,jo⟩,⟨jo,jo⟩,g.out⟩
 .go_enter Tryz.func192,Tryz.ntmps192;go_wp2;refine wp_loop_rounds 1 ?_;rw [rounds_succ];go_wp2;exact bodyPost_ret (v:= .agg #[.int .i64 (a * 131072 % 4294967296+b * 131072 / 4294967296),.int .i64 (b * 131072 % 4294967296+a * 131072 / 4294967296)]) (by simp [results,Tryz.results192,go_sem]) rfl ⟨_,_,rfl,jq,⟨jo,jo⟩,⟨jo,jo⟩,i.out⟩
 .go_enter Tryz.func192,Tryz.ntmps192;go_wp2;refine wp_loop_rounds 1 ?_;rw [rounds_succ];go_wp2;exact bodyPost_ret (v:= .agg #[.int .i64 (a * 2097152 % 4294967296+b * 2097152 / 4294967296),.int .i64 (b * 2097152 % 4294967296+a * 2097152 / 4294967296)]) (by simp [results,Tryz.results192,go_sem]) rfl ⟨_,_,rfl,jq,⟨jo,jo⟩,⟨jo,jo⟩,k.out⟩
 .go_enter Tryz.func192,Tryz.ntmps192;go_wp2;refine wp_loop_rounds 2 ?_;rw [rounds_succ];go_wp2;rw [rounds_succ];go_wp2;exact bodyPost_ret (v:= .agg #[.int .i64 (b % 4294967296+a / 4294967296),.int .i64 (a % 4294967296+b / 4294967296)]) (by simp [results,Tryz.results192,go_sem]) rfl ⟨_,_,rfl,jq,⟨jo,jo⟩,⟨jo,jo⟩,l.out⟩
def BQ (l:jy):Int:=l.foldl (fun v c=>256 * v+(c.toNat:Int)) 0
theorem Mm (l:jy) (c:UInt8):BQ (l++[c])=256 * BQ l+(c.toNat:Int):=by simp [BQ]
theorem Lt (s:jt) (k:Nat) (h:k<s.size):s.data.toList.take (k+1)=s.data.toList.take k++[s[k]]:=by
 rw [jQ (by simpa using h)];rfl
theorem Km (c:UInt8):(c.toNat:Int)<=255:=by have:=c.toNat_lt;omega
theorem Lm (l:jy) (n:Nat):0<=BQ (l.take n):=by
 induction n with
 |zero=>simp [BQ]
 |succ n ih=>
  by_cases h:n<l.length
  .rw [jQ h,Mm];omega
  .rw [jR jo,<-jR (i:=n) (l:=l) jo];exact ih
theorem MS (l:jy) (n:Nat):BQ (l.take n)<256 ^ n:=by
 induction n with
 |zero=>simp [BQ]
 |succ n ih=>
  by_cases h:n<l.length
  .rw [jQ h,Mm,Int.pow_succ];have:=Km l[n];omega
  .rw [jR jo,<-jR (i:=n) (l:=l) jo,Int.pow_succ];have:(0:Int)<256 ^ n:=Int.pow_pos jo;omega
theorem TM (k:Nat) (h:k<=6):(256:Int) ^ k<=281474976710656:=by
 rcases (show k=0\/k=1\/k=2\/k=3\/k=4\/k=5\/k=6 by omega) with rfl|rfl|rfl|rfl|rfl|rfl|rfl <;>decide
theorem Fu (s:jt) (w:jj) (f:s.size<=7):
  Calls Tryz.prog 75 #[.string s] w fun e w'=>e= .returned (.int .i64 (BQ s.data.toList))/\w=w':=by
 go_enter Tryz.func75,Tryz.ntmps75;go_wp2;go_loop [3,4] (fun n i=>∃k:Nat,k<=s.size/\i= .int .i64 k/\n= .int .i64 (BQ (s.data.toList.take k))) (fun _ i=>s.size - (intOf i).toNat)
 case atStart=>exact ⟨0,Nat.zero_le _,rfl,rfl⟩
 case round=>
  obtain ⟨k,g,rfl,rfl⟩:=hrel;have l:=Lm s.data.toList k;have b:=MS s.data.toList k;by_cases a:k<s.size
  .have c:Hid (BQ (s.data.toList.take (k+1))=256 * BQ (s.data.toList.take k)+(s[k].toNat:Int)):=by
    have:=Mm (s.data.toList.take k) s[k];rw [<-Lt s k a] at this;exact this
   have m:=Km s[k]
   have d:=TM k jo
   have o:BQ (s.data.toList.take k)<281474976710656:=jo
   clear b d
   go_wp2
   go_round
   case rel=>exact ⟨k+1,jo,by go_num,by rw [c.out]⟩
   case measure=>simp [intOf];omega
  .go_wp2;go_ret;exact ⟨BO (by rw [jR jx]),rfl⟩
theorem Li (x:Int):bits .and .i64 x 1=x % 2:=by
 show IntKind.i64.wrap ((BitVec.ofInt 64 x &&& BitVec.ofInt 64 1).toNat:Int)=_;have a:BitVec.ofInt 64 1=1#64:=ji
 rw [a,BitVec.toNat_and,BitVec.toNat_ofInt,IntKind.wrap_i64];have b:(1#64).toNat=1:=ji
 rw [b,Nat.and_one_is_mod];omega
def Db (s:jt):Prop:=∀i (h:i<s.size),(s[i]'h).toNat=48\/(s[i]'h).toNat=49
def Ba (l:jy):Int:=l.foldl (fun v c=>2 * v+((c.toNat:Int) - 48)) 0
theorem PV (l:jy) (c:UInt8):Ba (l++[c])=2 * Ba l+((c.toNat:Int) - 48):=by simp [Ba]
theorem Ok (s:jt) (h:Db s) (n:Nat) (a:n<=s.size):0<=Ba (s.data.toList.take n)/\Ba (s.data.toList.take n)<2 ^ n:=by
 induction n with
 |zero=>simp [Ba]
 |succ n ih=>
  obtain ⟨b,c⟩:=ih jo;rw [Lt s n jo,PV,Int.pow_succ];have:=h n jo;constructor <;>omega
theorem Nk (k:Nat) (h:k<=40):(2:Int) ^ k<=1099511627776:=by
 have a:(2:Nat) ^ k<=2 ^ 40:=Nat.pow_le_pow_right jo h;have b:((2:Nat) ^ k:Int)<=((2 ^ 40:Nat):Int):=by exact_mod_cast a
 simpa using b
theorem Fe (s:jt) (w:jj) (m:s.size<=40) (a:Db s):
  Calls Tryz.prog 146 #[.string s] w fun e w'=>e= .returned (.int .i64 (Ba s.data.toList))/\w=w':=by
 go_enter Tryz.func146,Tryz.ntmps146;go_wp2;go_loop [3,4] (fun n i=>∃k:Nat,k<=s.size/\i= .int .i64 k/\n= .int .i64 (Ba (s.data.toList.take k))) (fun _ i=>s.size - (intOf i).toNat)
 case atStart=>exact ⟨0,Nat.zero_le _,rfl,rfl⟩
 case round=>
  obtain ⟨k,c,rfl,rfl⟩:=hrel;obtain ⟨o,d⟩:=Ok s a k c;have f:=Nk k jo;by_cases b:k<s.size
  .have g:Hid (Ba (s.data.toList.take (k+1))=2 * Ba (s.data.toList.take k)+((s[k].toNat:Int) - 48)):=by
    have:=PV (s.data.toList.take k) s[k];rw [<-Lt s k b] at this;exact this
   have l:=a k b
   have p:(48:Int)<=(s[k].toNat:Int):=jo
   have q:(s[k].toNat:Int)<=49:=jo
   have r:Ba (s.data.toList.take k)<1099511627776:=jo
   clear d f l
   go_wp2
   go_round
   case rel=>exact ⟨k+1,jo,by go_num,by rw [g.out]⟩
   case measure=>simp [intOf];omega
  .go_wp2;go_ret;exact ⟨BO (by rw [jR jx]),rfl⟩
theorem Ib {s t:jt} (h:Db s) (k:Db t):Db (s++t):=by
 intro i c;by_cases a:i<s.size
 .have:=h i a;simpa [ByteArray.getElem_append_left a] using this
 .have b:s.size<=i:=jo
  have:=k (i - s.size) (by simp at c;omega);simpa [ByteArray.getElem_append_right b] using this
def BH (n:Int):ByteArray:=⟨#[UInt8.ofNat n.toNat]⟩
theorem EU (n:Int):(BH n).size=1:=rfl
theorem Kn (w:jj) (n:Int):(convert 78 9 (.slice (some ⟨w.heap.size,0,none⟩) 1 1)).run Tryz.prog (w.alloc (.cells #[.int .u8 n] 5))= .ok (.string (BH n)) (w.alloc (.cells #[.int .u8 n] 5)):=by
 rw [run_convert_bytes_string _ 78 9 5 _ 1 1 Tryz.underlying78 Tryz.underlying5 Tryz.underlying9];rw [run_bytesToString _ _ 1 1 [n] (by simp [loadCells,loadCellsFrom,go_sem])];rfl
theorem LM:Db ByteArray.empty:=by intro i h;simp at h
theorem FM (v n:Int) (w:jj) (d: -9223372036854775808<=v) (b:v<=9223372036854775807) (f:0<=n) (g:n<=100):
  Calls Tryz.prog 92 #[.int .i64 v,.int .i64 n] w (En w fun s=>s.size=n.toNat):=by
 go_enter Tryz.func92,Tryz.ntmps92;go_wp2;go_loopw [0,1,5] (fun x k t wr=>∃(s:jt) (q:Nat) (u:Int),q<=n.toNat/\t= .string s/\x= .int .i64 u/\k= .int .i64 q/\s.size+q=n.toNat/\ -9223372036854775808<=u/\u<=9223372036854775807/\Aa w wr) (fun _ k _ _=>(intOf k).toNat)
 case atStart=>exact ⟨ByteArray.empty,n.toNat,v,jH _,rfl,rfl,by rw [Int.toNat_of_nonneg f],js,d,b,jD _⟩
 case round=>
  obtain ⟨s,q,u,z,rfl,rfl,rfl,a,i,l,m⟩:=hrel;by_cases o:0<q
  .have p:=Kn;have r:=EU;have c:s.size<=100:=jo
   have y:Hid (s.size+q=n.toNat):=a;clear a;go_wp2;go_roundw
   case rel=>exact ⟨_,q - 1,u / 256,jo,rfl,rfl,by go_num,by have:=y.out;simp [EU];omega,jo,jo,jq⟩
   case measure=>simp [intOf];omega
  .go_wp2;go_ret;exact ⟨_,rfl,m,jo⟩
theorem Af.turn {r:Int} (h:Af r):Af (bits .xor .i64 r 79764919):=h.xor ⟨ji,ji⟩
theorem L2 (s:jt) (w:jj) (m:s.size<=maxLen):
  Calls Tryz.prog 91 #[.string s] w (KG w (LA 4294967296)):=by
 unfold maxLen at m;have p:=Li;go_enter Tryz.func91,Tryz.ntmps91;go_wp2;go_loopw [3,4] (fun r i wr=>∃(x:Int) (n:Nat),n<=s.size/\r= .int .i64 x/\i= .int .i64 n/\Af x/\Aa w wr) (fun _ i _=>s.size - (intOf i).toNat)
 case atStart=>exact ⟨4294967295,0,Nat.zero_le _,rfl,rfl,⟨ji,ji⟩,jD _⟩
 case round=>
  obtain ⟨x,n,v,rfl,rfl,hx,g⟩:=hrel;by_cases t:n<s.size
  .go_wp2;go_loopw [3,5] (fun r k wr=>∃(x:Int) (q:Nat),q<=8/\r= .int .i64 x/\k= .int .i64 q/\Af x/\Aa w wr) (fun _ k _=>8 - (intOf k).toNat)
   case atStart=>exact ⟨x,0,jo,rfl,rfl,hx,g⟩
   case round=>
    obtain ⟨y,q,u,rfl,rfl,f,a⟩:=hrel;have b:=f.1;have c:=f.2;by_cases d:q<8
    .go_wp2
     all_goals
      go_roundw
      case rel=>exact ⟨_,q+1,jo,rfl,by go_num,by first|exact Af.turn ⟨jo,jo⟩|exact ⟨jo,jo⟩,a⟩
      case measure=>simp [intOf];omega
    .go_wp2;go_roundw
     case rel=>exact ⟨y,n+1,jo,rfl,by go_num,f,a⟩
     case measure=>simp [intOf];omega
  .go_wp2;go_loopw [7,8] (fun o k wr=>∃(y:Int) (q:Nat),q<=32/\o= .int .i64 y/\k= .int .i64 q/\0<=y/\y<2 ^ q/\Aa w wr) (fun _ k _=>32 - (intOf k).toNat)
   case atStart=>exact ⟨0,0,jo,rfl,rfl,jo,ji,g⟩
   case round=>
    obtain ⟨y,q,u,rfl,rfl,b,c,a⟩:=hrel;have A:=Nk q jo;by_cases d:q<32
    .have l:∀z:Int,0<=z % 2/\z % 2<2:=fun z=>⟨Int.emod_nonneg _ ji,Int.emod_lt_of_pos _ ji⟩
     have B:=l (x / 2 ^ q);clear l;go_wp2;go_roundw
     case rel=>exact ⟨_,q+1,jo,rfl,by go_num,jo,by rw [Int.pow_succ];omega,a⟩
     case measure=>simp [intOf];omega
    .have:q=32:=jo
     subst this;go_wp2;go_ret;exact ⟨_,rfl,a,b,by simpa using c⟩
theorem D3 (s:jt) (w:jj) (o:s.size<=1099511627776):
  Calls Tryz.prog 51 #[.string s] w (En w fun t=>t.size=s.size+4):=by
 go_enter Tryz.func51,Tryz.ntmps51;go_wp2_with fail;refine (L2 s _ (by unfold maxLen;omega)).mono ?_;rintro e p ⟨c,rfl,b,a,g⟩;go_wp2;go_loopw [0,4] (fun t k wr=>∃(x:jt) (q:Nat),q<=4/\t= .string x/\k= .int .i64 q/\x.size=s.size+q/\Aa w wr) (fun _ k _=>4 - (intOf k).toNat)
 case atStart=>exact ⟨s,0,jo,rfl,rfl,rfl,b⟩
 case round=>
  obtain ⟨x,q,r,rfl,rfl,hx,i⟩:=hrel;by_cases l:q<4
  .have m:x.size<=1099511627790:=jo
   have HX:Hid (x.size=s.size+q):=hx;clear hx;have u:0<=c / 2 ^ (8 * q):=Int.ediv_nonneg a (Int.le_of_lt (Int.pow_pos ji));have v:c / 2 ^ (8 * q)<=c:=Int.ediv_le_self _ a;go_wp2_with fail;refine (FM _ _ _ jo jo ji ji).mono ?_;rintro e z ⟨y,rfl,n,f⟩;have d:y.size=1:=f;clear f;go_wp2;go_roundw
   case rel=>exact ⟨_,q+1,jo,rfl,by go_num,by have:=HX.out;simp [d];omega,jq⟩
   case measure=>simp [intOf];omega
  .go_wp2;go_ret;exact ⟨_,rfl,i,jo⟩
def GP (n:jt):Prop:=∀i (h:i<n.size),48<=(n[i]'h).toNat/\(n[i]'h).toNat<=57
theorem If {w w':jj} {a b c d:Addr} {f g i k:ju} (h:Aa w w') (l:w.cell? a=some f) (m:w.cell? b=some g) (n:w.cell? c=some i) (o:w.cell? d=some k):
  Aa w w'/\w'.cell? a=some f/\w'.cell? b=some g/\w'.cell? c=some i/\w'.cell? d=some k:=⟨h,h.cell l,h.cell m,h.cell n,h.cell o⟩
end Go.Proofs.YtpapdkhjdelfcaaGreat
