import Derived.Test.YtpapdkhjdelfcaaGreatMAC
import Derived.Deep.LoopGhost
import Derived.Laws.BytesString
import Derived.Deep.QuietTactic
import Derived.BigQuiet
namespace Go.Proofs.YtpapdkhjdelfcaaGreat
open Go.RowKit
set_option maxRecDepth 100000
set_option maxHeartbeats 4000000
def Zaj (r:BitVec 32) (d:Bool):BitVec 32:=(r<<<1) ^^^ (if r.msb !=d then 0x04c11db7#32 else 0#32)
def EK (c:BitVec 32):BitVec 32:=(c>>>1) ^^^ (if c.getLsbD 0 then 0xEDB88320#32 else 0#32)
theorem ZbX (a b:BitVec 32):(a ^^^ b).reverse=a.reverse ^^^ b.reverse:=by
 apply BitVec.eq_of_getLsbD_eq;intro i c;simp [BitVec.getLsbD_reverse]
theorem Zcf (a:BitVec 32):(a<<<1).reverse=a.reverse>>>1:=by
 apply BitVec.eq_of_getLsbD_eq;intro i b;rw [BitVec.getLsbD_reverse,BitVec.getLsbD_ushiftRight,BitVec.getLsbD_reverse,BitVec.getMsbD_shiftLeft,Nat.add_comm]
theorem ZbU (a:BitVec 32):a.reverse.getLsbD 0=a.msb:=by
 rw [BitVec.getLsbD_reverse,BitVec.msb]
theorem Zap (r c t:BitVec 32) (h:r.reverse=c ^^^ t):(Zaj r (t.getLsbD 0)).reverse=EK c ^^^ (t>>>1):=by
 have a:(r.msb !=t.getLsbD 0)=c.getLsbD 0:=by
  rw [<-ZbU,h,BitVec.getLsbD_xor];cases c.getLsbD 0 <;>cases t.getLsbD 0 <;>rfl
 have b:(0x04c11db7#32).reverse=0xEDB88320#32:=by decide+kernel
 have d:(0#32).reverse=0#32:=by decide+kernel
 unfold Zaj EK;rw [a,ZbX,Zcf,h]
 have Al:(c ^^^ t)>>>1=(c>>>1) ^^^ (t>>>1):=by
  apply BitVec.eq_of_getLsbD_eq;intro i f;simp
 rw [Al];cases c.getLsbD 0
 .simp only [Bool.false_eq_true,if_false];rw [d];simp
 .simp only [if_true];rw [b,BitVec.xor_assoc,BitVec.xor_comm (t>>>1),<-BitVec.xor_assoc]
def FD (c:BitVec 32) (b:UInt8):BitVec 32:=EK (EK (EK (EK (EK (EK (EK (EK (c ^^^ BitVec.ofNat 32 b.toNat))))))))
def Zac (r:BitVec 32) (b:UInt8):BitVec 32:=(List.range 8).foldl (fun r k=>Zaj r ((BitVec.ofNat 32 b.toNat).getLsbD k)) r
theorem ZbB (r c:BitVec 32) (b:UInt8) (h:r.reverse=c):(Zac r b).reverse=FD c b:=by
 unfold Zac FD
 have z:BitVec.ofNat 32 b.toNat>>>8=0#32:=by
  apply BitVec.eq_of_toNat_eq;rw [BitVec.toNat_ushiftRight,BitVec.toNat_ofNat,Nat.shiftRight_eq_div_pow];have:=b.toNat_lt;simp;omega
 generalize BitVec.ofNat 32 b.toNat=T at *;have g:∀k,(T>>>k).getLsbD 0=T.getLsbD k:=fun k=>by rw [BitVec.getLsbD_ushiftRight,Nat.add_zero]
 have s:∀k:Nat,((T>>>k)>>>1:BitVec 32)=T>>>(k+1):=fun k=>by rw [<-BitVec.shiftRight_add]
 have p:r.reverse=(c ^^^ T) ^^^ (T>>>0):=by
  rw [h,BitVec.ushiftRight_zero,BitVec.xor_assoc,BitVec.xor_self,BitVec.xor_zero]
 have d:=Zap _ _ _ p;rw [s 0] at d;have f:=Zap _ _ _ d;rw [s 1] at f;have i:=Zap _ _ _ f;rw [s 2] at i;have l:=Zap _ _ _ i;rw [s 3] at l;have m:=Zap _ _ _ l;rw [s 4] at m;have n:=Zap _ _ _ m;rw [s 5] at n;have o:=Zap _ _ _ n;rw [s 6] at o;have a:=Zap _ _ _ o;rw [s 7,z,BitVec.xor_zero] at a;simp only [g] at a;exact a
theorem ZbJ (l:jy):(l.foldl Zac (0xFFFFFFFF#32)).reverse=l.foldl FD (0xFFFFFFFF#32):=by
 have:∀(r c:BitVec 32),r.reverse=c->(l.foldl Zac r).reverse=l.foldl FD c:=by
  induction l with
  |nil=>intro r c h;exact h
  |cons b l ih=>intro r c h;exact ih _ _ (ZbB r c b h)
 exact this _ _ (by decide+kernel)
def AD (L:jz):Nat:=L.foldl (fun a b=>2 * a+b.toNat) 0
theorem Ht (L:jz) (b:Bool):AD (L++[b])=2 * AD L+b.toNat:=by simp [AD]
theorem FG (L:jz):AD L<2 ^ L.length:=by
 have h:∀n,∀L:jz,L.length=n->AD L<2 ^ n:=by
  intro n
  induction n with
  |zero=>
   intro L a;rw [jS a];decide
  |succ n ih=>
   intro L a;have b:L≠[]:=fun e=>by rw [e] at a;simp at a
   rw [<-List.dropLast_concat_getLast b,Ht];have c:=ih L.dropLast (by rw [List.length_dropLast,a];rfl);have d:(L.getLast b).toNat<=1:=Bool.toNat_le _;rw [Nat.pow_succ];omega
 exact h _ L rfl
def Ax (n:Nat):Nat->List Bool
 |0=>[]
 |w+1=>Ax (n / 2) w++[n % 2==1]
theorem Bd (n w:Nat):(Ax n w).length=w:=by
 induction w generalizing n with
 |zero=>rfl
 |succ w ih=>simp [Ax,ih]
theorem M5 (n w:Nat):AD (Ax n w)=n % 2 ^ w:=by
 induction w generalizing n with
 |zero=>simp [Ax,AD,Nat.mod_one]
 |succ w ih=>
  rw [Ax,Ht,ih,Nat.pow_succ,Nat.mul_comm (2 ^ w) 2,Nat.mod_mul]
  have:(n % 2==1).toNat=n % 2:=by
   rcases Nat.mod_two_eq_zero_or_one n with h|h <;>simp [h]
  rw [this];omega
theorem Pg (L:jz):Ax (AD L) L.length=L:=by
 have h:∀n,∀L:jz,L.length=n->Ax (AD L) n=L:=by
  intro n
  induction n with
  |zero=>
   intro L a;rw [jS a];rfl
  |succ n ih=>
   intro L a;have c:L≠[]:=fun e=>by rw [e] at a;simp at a
   have d:=List.dropLast_concat_getLast c;generalize L.getLast c=b at d;generalize g:L.dropLast=D at d;have f:D.length=n:=by rw [<-g,List.length_dropLast,a];rfl
   rw [<-d,Ht,Ax];have i:(2 * AD D+b.toNat) / 2=AD D:=by have:=Bool.toNat_le b;omega
   have k:((2 * AD D+b.toNat) % 2==1)=b:=by cases b <;>simp <;>omega
   rw [i,k,ih D f]
 exact h _ L rfl
def BT (b:UInt8):List Bool:=Ax b.toNat 8
def Az (l:jy):List Bool:=l.flatMap BT
theorem In (b:UInt8):(BT b).length=8:=Bd _ _
theorem Bk (l:jy):(Az l).length=8 * l.length:=by
 induction l with
 |nil=>rfl
 |cons b l ih=>simp only [Az,List.flatMap_cons,jO,In,List.length_cons] at ih |-;omega
theorem Lw (L:jz) (h:L.length=8):BT (UInt8.ofNat (AD L))=L:=by
 have a:=FG L;rw [h] at a;unfold BT;rw [UInt8.toNat_ofNat',Nat.mod_eq_of_lt a,<-h,Pg]
theorem Ly (l:jy) (b:UInt8):Az (l++[b])=Az l++BT b:=by simp [Az]
theorem WH (l m:jy):Az (l++m)=Az l++Az m:=by simp [Az]
def AK:List Bool->List UInt8
 |a::b::c::d::e::f::g::h::l=>UInt8.ofNat (AD [a,b,c,d,e,f,g,h])::AK l
 |[]=>[]
 |l=>[UInt8.ofNat (AD l * 2 ^ (8 - l.length))]
theorem Nn (b:UInt8) (L:jz):AK (BT b++L)=b::AK L:=by
 have a:=In b
 have c:UInt8.ofNat (AD (BT b))=b:=by
  unfold BT;rw [M5,Nat.mod_eq_of_lt b.toNat_lt];simp
 generalize BT b=B at *
 match B,a with
 |[x0,x1,x2,x3,x4,x5,x6,x7],_=>
  show AK (x0::x1::x2::x3::x4::x5::x6::x7::L)=_;rw [AK,c]
theorem J4 (l:jy) (L:jz):AK (Az l++L)=l++AK L:=by
 induction l with
 |nil=>rfl
 |cons b l ih=>
  have:Az (b::l)=BT b++Az l:=by simp [Az]
  rw [this,List.append_assoc,Nn,ih];rfl
theorem MX (L:jz) (a:0<L.length) (h:L.length<8):AK L=[UInt8.ofNat (AD L * 2 ^ (8 - L.length))]:=by
 match L,a,h with
 |[_],_,_=>rfl
 |[_,_],_,_=>rfl
 |[_,_,_],_,_=>rfl
 |[_,_,_,_],_,_=>rfl
 |[_,_,_,_,_],_,_=>rfl
 |[_,_,_,_,_,_],_,_=>rfl
 |[_,_,_,_,_,_,_],_,_=>rfl
variable {K:Nat->Option Obj}
theorem CV {base:Nat} {e:TypeId} {s:Nat} {w w':jj} {v:ju} {n:Nat} {a:List Value} (h:w.ownsRow base e s v n a) (k:Aa w w'):w'.ownsRow base e s v n a:=
 World.ownsRow.kept h (row := none) ⟨k.below.os, k.below.tape, k.below.output, k.size, fun j b _ => k.block j b⟩ (by
   cases c : v.ownBlock
   . exact Or.inl rfl
   . exact Or.inr js)
theorem B8 {w:jj} {base:Nat} {e:TypeId} {a:Nat} {v:ju} {n:Nat} {c:List Value} (h:w.ownsRow base e a v n c):∃d cap,v= .slice d n cap:=by
 rcases h.2 with ⟨b,f⟩|⟨g,cap,i,b,_⟩
 .exact ⟨none,0,by rw [b,f]⟩
 .exact ⟨_,_,b⟩
def D6 (b:UInt8):Value:= .int .u8 (b.toNat:Int)
theorem Tryz.infoU8:(Tryz.prog.info? 5).map (fun i=>(i.zero,i.size,i.bytes))=some (some (.int .u8 0),1,1):=by kernel_rfl
def ET (K:Nat->Option Obj) (p:Nat) (v:ju) (w:jj):Prop:=∀k o,K k=some o->w.heap[k]?=some o/\k≠p/\v.ownBlock≠some k/\∀a,o≠ .cells a 5 (0,0)
theorem ET.but {p:Nat} {v:ju} {w w':jj} (h:ET K p v w) (b:Ab [p] w w'):ET K p v w':=fun k o f=>by
 obtain ⟨a,d,g,i⟩:=h k o f
 have c:k<w.heap.size:=by
  rcases Nat.lt_or_ge k w.heap.size with h|h
  .exact h
  .rw [Array.getElem?_eq_none h] at a;cases a
 exact ⟨(b.block k c (by simpa using d)).trans a,d,g,i⟩
theorem ET.bel {p:Nat} {v:ju} {w w':jj} (h:ET K p v w) (b:Aa w w'):ET K p v w':=h.but (Ab.of_bel b)
def Bb (K:Nat->Option Obj) (W0:jj) (p:Nat) (L:jz) (w:jj):Prop:=Aa W0 w/\W0.heap.size<=p/\∃(v:ju) (Bs:jy) (R:jz),L=Az Bs++R/\R.length<8/\
 (w.cell? ⟨p,0,none⟩=some v/\w.cell? ⟨p,1,none⟩=some (.int .u8 (AD R:Int))/\w.cell? ⟨p,2,none⟩=some (.int .u64 (R.length:Int)))/\(∀j,w.frozen? ⟨p,j,none⟩=false)/\
 w.ownsRow W0.heap.size 5 1 v Bs.length (Bs.map D6)/\v.ownBlock≠some p/\ET K p v w
theorem Bb.later {a:jj} {p:Nat} {L:jz} {w w':jj} (h:Bb K a p L w) (b:Aa w w'):Bb K a p L w':=by
 obtain ⟨d,f,v,Bs,R,g,i,⟨c,k,l⟩,m,n,o,q⟩:=h;refine ⟨d.trans b,f,v,Bs,R,g,i,⟨b.cell c,b.cell k,b.cell l⟩,fun j=>?_,CV n b,o,q.bel b⟩;rw [b.below.frozen (p:=⟨p,j,none⟩) (World.block_lt_of_cell? w ⟨p,0,none⟩ c)];exact m j
def Ha (K:Nat->Option Obj) (a:jj) (p:Nat) (L:jz) (e:Ending) (w':jj):Prop:=e= .returned (.tuple #[])/\Bb K a p L w'
theorem Bb.keep {f:jj} {p:Nat} {L:jz} {w:jj} (h:Bb K f p L w) {k:Nat} {o:Obj} (i:w.heap[k]?=some o) (q:k≠p) (l:∀a,o≠ .cells a 5 (0,0)):Bb (fun j=>if j=k then some o else K j) f p L w:=by
 obtain ⟨r,s,v,Bs,R,t,u,x,y,m,z,A⟩:=h;refine ⟨r,s,v,Bs,R,t,u,x,y,m,z,fun j o' n=>?_⟩;by_cases b:j=k
 .subst b;have e:o=o':=by simpa using n
  subst e;refine ⟨i,q,fun e=>?_,l⟩;rcases m.2 with ⟨d,_⟩|⟨g,cap,a,d,_,c,_⟩
  .rw [d] at e;cases e
  .rw [d] at e;have:g=j:=by simpa [Value.ownBlock] using e
   subst this;rw [i] at c;injection c with c
   exact l _ c
 .exact A j o' (by simpa [b] using n)
theorem Bb.drop {a:jj} {p:Nat} {L:jz} {w:jj} {K':Nat->Option Obj} (h:Bb K a p L w) (b:∀k o,K' k=some o->K k=some o):Bb K' a p L w:=by
 obtain ⟨c,d,v,Bs,R,f,g,i,l,m,n,q⟩:=h;exact ⟨c,d,v,Bs,R,f,g,i,l,m,n,fun j o r=>q j o (b j o r)⟩
theorem Bb.block {a:jj} {p:Nat} {L:jz} {w:jj} {k:Nat} {o:Obj} (h:Bb K a p L w) (b:K k=some o):w.heap[k]?=some o:=by
 obtain ⟨d,f,v,Bs,R,g,i,l,m,n,q,c⟩:=h;exact (c k o b).1
theorem Bb.lt {a:jj} {p:Nat} {L:jz} {w:jj} (h:Bb K a p L w):p<w.heap.size:=by
 obtain ⟨c,d,v,Bs,R,f,g,⟨b,_⟩,i,k,l,m⟩:=h;exact jF b
theorem Zh (v b:Nat) (a:v<128) (c:b<2):bits .or .u8 ((v:Int) * 2) (b:Int)=((2 * v+b:Nat):Int):=by
 have e:((v:Int) * 2)=((v * 2 ^ 1:Nat):Int):=jo
 rw [e,u8_or_nat _ _ jo jo]
 have:(v * 2 ^ 1)|||b=v * 2 ^ 1+b:=by
  rw [Nat.mul_comm];exact (Nat.two_pow_add_eq_or_of_lt jo v).symm
 rw [this];omega
theorem MU {b w:jj} {p:Nat} {v:ju} {n:Nat} {d:List Value} {u1 u2:ju} (a c:ju) (i:Aa b w) (f:b.heap.size<=p) (k:w.cell? ⟨p,0,none⟩=some v) (l:w.cell? ⟨p,1,none⟩=some u1) (m:w.cell? ⟨p,2,none⟩=some u2)
  (o:∀j,w.frozen? ⟨p,j,none⟩=false) (q:w.ownsRow b.heap.size 5 1 v n d) (g:v.ownBlock≠some p) (r:ET K p v w) (V:jj) (s:V=(w.setCell ⟨p,1,none⟩ a).setCell ⟨p,2,none⟩ c):
  Aa b V/\V.cell? ⟨p,0,none⟩=some v/\V.cell? ⟨p,1,none⟩=some a/\V.cell? ⟨p,2,none⟩=some c/\(∀j,V.frozen? ⟨p,j,none⟩=false)/\V.ownsRow b.heap.size 5 1 v n d/\ET K p v V:=by
 subst s;refine ⟨(i.step_set (p:=⟨p,1,none⟩) f _).step_set (p:=⟨p,2,none⟩) f _,?_,?_,?_,fun j=>?_,?_,r.but (((Ab.refl _ _).set js _).set js _)⟩
 .rw [Ad js,Ad js];exact k
 .rw [Ad js];exact Bc l
 .exact Bc (v:=u2) (by rw [Ad js];exact m)
 .rw [Ag,Ag];exact o j
 .exact ownsRow_setCell_other (ownsRow_setCell_other q g _) g _
theorem Sr {V X b:jj} {p base:Nat} {v q:ju} {n I:Nat} {J d:List Value} {a c:ju} {x0:Int} {rest:List Value} (l:Aa V X) (A:X.grownBy b v.ownBlock) (L:v.ownBlock≠some p)
  (B:V.cell? ⟨p,0,none⟩=some v) (M:V.cell? ⟨p,1,none⟩=some a) (N:V.cell? ⟨p,2,none⟩=some c) (hF:∀j,V.frozen? ⟨p,j,none⟩=false)
  (O:V.ownsRow base 5 1 v n J) (C:b.ownsRow base 5 1 q I d) (hx:d= .int .u8 x0::rest) (P:ET K p v V):
  b.cell? ⟨p,0,none⟩=some v/\b.cell? ⟨p,1,none⟩=some a/\b.cell? ⟨p,2,none⟩=some c/\(∀j,b.frozen? ⟨p,j,none⟩=false)/\q.ownBlock≠some p/\ET K p q b:=by
 have D:p<V.heap.size:=jF B;have r:p<X.heap.size:=jN D l.size;have f:=A.block p r (fun e=>L (by rw [e]))
 have s:∀j u,V.cell? ⟨p,j,none⟩=some u->b.cell? ⟨p,j,none⟩=some u:=fun j u h=>by
  have:=l.cell h;rw [World.cell?_of_block f];exact this
 have E:=s 0 _ B;refine ⟨E,s 1 _ M,s 2 _ N,fun j=>?_,fun e=>?_,fun k o Q=>?_⟩
 .rw [World.frozen?_of_block (w:=X) f,l.below.frozen (p:=⟨p,j,none⟩) D];exact hF j
 .have:=C.cells e 0 (.int .u8 x0) (by rw [hx];rfl);have i:(⟨p,0,none⟩:Addr).add 0=⟨p,0,none⟩:=by unfold Addr.add;split <;>simp_all
  rw [i,E] at this;rcases O.2 with ⟨F,_⟩|⟨g,cap,t,F,_⟩<;>rw [F] at this <;>cases this
 .obtain ⟨x,R,S,G⟩:=P.bel l k o Q
  have y:k<X.heap.size:=by
   rcases Nat.lt_or_ge k X.heap.size with h|h
   .exact h
   .rw [Array.getElem?_eq_none h] at x;cases x
  have H:b.heap[k]?=some o:=(A.block k y (fun e=>S (by rw [e]))).trans x;refine ⟨H,R,fun e=>?_,G⟩;rcases C.2 with ⟨z,_⟩|⟨g,cap,t,z,_,m,_⟩
  .rw [z] at e;cases e
  .rw [z] at e;have:g=k:=by simpa [Value.ownBlock] using e
   subst this;rw [H] at m;injection m with m
   exact G _ m
theorem gX {X a:jj} {row:Option Nat} (_:X.grownBy a row) (V:jj) (b:Aa V X):Aa V X:=b
theorem PO (R:jz) (h:R.length=8):D6 (UInt8.ofNat (AD R))= .int .u8 (AD R:Int):=by
 have:=FG R;rw [h] at this;unfold D6;congr 1;simp;omega
theorem Rx {d a:jj} {p:Nat} {v:ju} {L R:jz} {b:Bool} {Bs:jy} {c u1 u2:ju} {y:Int} (k:Aa d a) (f:d.heap.size<=p) (l:a.cell? ⟨p,0,none⟩=some v) (m:a.cell? ⟨p,1,none⟩=some u1) (n:a.cell? ⟨p,2,none⟩=some u2)
  (o:∀j,a.frozen? ⟨p,j,none⟩=false) (q:a.ownsRow d.heap.size 5 1 c (Bs.length+1) (Bs.map D6++[.int .u8 y])) (g:c.ownBlock≠some p) (r:ET K p c a) (s:L=Az Bs++R) (u:7=R.length) (t:y=((2 * AD R+b.toNat:Nat):Int)):
  Ha K d p (L++[b]) (.returned (.tuple #[])) (((a.setCell ⟨p,0,none⟩ c).setCell ⟨p,1,none⟩ (.int .u8 0)).setCell ⟨p,2,none⟩ (.int .u64 0)):=by
 have i:(R++[b]).length=8:=jx
 refine ⟨rfl,((k.step_set (p:=⟨p,0,none⟩) f _).step_set (p:=⟨p,1,none⟩) f _).step_set (p:=⟨p,2,none⟩) f _,f,c,Bs++[UInt8.ofNat (AD (R++[b]))],[],?_,js,⟨?_,?_,?_⟩,fun j=>?_,?_,g,r.but ((((Ab.refl _ _).set js _).set js _).set js _)⟩
 .rw [Ly,Lw _ i,s];simp
 .rw [Ad js,Ad js];exact Bc l
 .rw [Ad js];exact Bc (v:=u1) (by rw [Ad js];exact m)
 .exact Bc (v:=u2) (by rw [Ad js,Ad js];exact n)
 .rw [Ag,Ag,Ag];exact o j
 .have e:(Bs++[UInt8.ofNat (AD (R++[b]))]).map D6=Bs.map D6++[.int .u8 y]:=by
   rw [List.map_append,List.map_cons,List.map_nil,PO _ i,t,Ht]
  rw [e,jO]
  exact ownsRow_setCell_other (ownsRow_setCell_other (ownsRow_setCell_other q g _) g _) g _
theorem Sp (s:jj) (p:Nat) (L:jz) (b:Bool) (w:jj) (h:Bb K s p L w) (hL:L.length<=1099511627776):
  Calls Tryz.prog 194 #[.pointer (some ⟨p,0,none⟩),.int .u8 (b.toNat:Int)] w (Ha K s p (L++[b])):=by
 obtain ⟨i0,hi,P,Q,S⟩:=info_parts Tryz.infoU8;obtain ⟨T,E,v,Bs,R,r1,r2,⟨U,F,o⟩,q,ho,hn,t⟩:=h;have d:=jp t;clear t;have f0:=q 0;have f1:=q 1;have f2:=q 2;have hv:=FG R
 have A : AD R < 128 := jN hv (by
   have : (2 : Nat) ^ R.length <= 2 ^ 7 := Nat.pow_le_pow_right ji jo
   simpa using this)
 have B:b.toNat<2:=by have:=Bool.toNat_le b;omega
 have W:=Zh (AD R) b.toNat A B;have X:=Ht R b;have Y:(R++[b]).length=R.length+1:=js
 obtain ⟨x,hx⟩:∃x:Int,x=(AD R:Int):=⟨_,rfl⟩;obtain ⟨y,Z⟩:∃y:Int,y=((2 * AD R+b.toNat:Nat):Int):=⟨_,rfl⟩;obtain ⟨z,hz⟩:∃z:Int,z=(b.toNat:Int):=⟨_,rfl⟩;obtain ⟨n,f⟩:∃n:Nat,n=R.length:=⟨_,rfl⟩;rw [<-hx] at F;rw [<-f] at o;rw [<-hx,<-Z,<-hz] at W;rw [<-hz];have ai:0<=x:=jo
 have aj:x<128:=jo
 have ak:n<8:=jo
 have HX:=jp hx;have HY:=jp Z;have HN:=jp f;have HL:=jp r1;have i:=jp ho;have G:=jp hn;clear hx Z hz f r1 ho hn X Y r2 hv A B;by_cases h7:n<7
 .obtain ⟨V,r⟩:∃V,V=(w.setCell ⟨p,1,none⟩ (.int .u8 y)).setCell ⟨p,2,none⟩ (.int .u64 ((n:Int)+1)):=⟨_,rfl⟩;have H:=jp (MU _ _ T E U F o q i.out G.out d.out V r);go_enter Tryz.func194,Tryz.ntmps194;go_wp2;go_end0;rw [<-r];obtain ⟨I,C,J,M,k,N,O⟩:=H.out;refine ⟨rfl,I,E,v,Bs,R++[b],by rw [HL.out];simp,by have:=HN.out;simp;omega,⟨C,?_,?_⟩,k,N,G.out,O⟩
  .rw [J,HY.out,Ht]
  .rw [M];have:=HN.out;simp [this]
 .obtain rfl:n=7:=jo
  replace o:w.cell? ⟨p,2,none⟩=some (.int .u64 7):=o;obtain ⟨V,r⟩:∃V,V=(w.setCell ⟨p,1,none⟩ (.int .u8 y)).setCell ⟨p,2,none⟩ (.int .u64 8):=⟨_,rfl⟩;have H:=jp (MU _ _ T E U F o q i.out G.out d.out V r);go_enter Tryz.func194,Tryz.ntmps194;go_wp2_with fail;rw [<-r];obtain ⟨I,C,J,M,k,N,O⟩:=H.out;have aa:=jp O;clear r H U F o f0 f1 f2 q T i O d;have f0:=k 0;have f1:=k 1;have f2:=k 2;have HF:=jp k;have i:=jp N;clear k N;have al:s.heap.size<=V.heap.size:=I.size;have am:p<V.heap.size:=jF C
  obtain ⟨x9,l,ab⟩:∃x9 l,Hid (Bs.map D6++[.int .u8 y]= .int .u8 x9::l):=by
   cases Bs with
   |nil=>exact ⟨_,_,rfl⟩
   |cons b0 r0=>exact ⟨_,_,rfl⟩
  have an:Bs.length<=1099511627776:=by
   have:=congrArg List.length HL.out;rw [jO,Bk] at this;omega
  go_region_law (refine KB rfl (.tmp 30) (.tmp 35) 78 rfl s.heap.size 5 i0 (.int .u8 0) 1 1 Tryz.underlying78 hi P Q S rfl ji v Bs.length (Bs.map D6) (by simp [Act.eval]) (World.ownsRow.alloc i.out _) ⟨V.heap.size, 0, none⟩ 1 1 [.int .u8 y] (by simp [Act.eval]) rfl (Fz _ _ _ _ rfl) (fun u hu => by simp at hu; subst hu; rfl) (by unfold maxLen; omega) jo (by simp; omega) ?_
                 intro v5 w5 c a
                 obtain ⟨ao, ah, rfl⟩ := B8 c
                 have m := gX a V (by first | exact ((jD V).step_drew).step_alloc _ | exact ((jD V).step_alloc _).step_drew | exact (jD V).step_alloc _)
                 have hG := Sr (x0 := x9) (rest := l) m a G.out C J M HF.out i.out c ab.out aa.out
                 have ac : Aa s w5 := (I.trans m).grown a (fun g hg => (World.ownsRow.lt i.out g hg).1)
                 have ad := jp c
                 obtain ⟨g2, g3, g4, D, g6, g7⟩ := hG
                 have ae := jp g7
                 have af := jp D
                 have ap := D 0
                 have aq := D 1
                 have ar := D 2
                 have ag := jp g6
                 clear D g6 g7 c a m)
  all_goals
   clear C J M;go_wp2;go_end0;exact Rx ac E g2 g3 g4 af.out ad.out ag.out ae.out HL.out HN.out HY.out
variable {K:Nat->Option Obj}
theorem Xe (n W k:Nat) (a:k<W):Ax (n / 2 ^ k) (W - k)=Ax (n / 2 ^ (k+1)) (W - (k+1))++[n / 2 ^ k % 2==1]:=by
 obtain ⟨d,rfl⟩:∃d,W=k+1+d:=⟨W - (k+1),jo⟩;rw [show k+1+d - k=d+1 by omega,show k+1+d - (k+1)=d by omega,Ax,Nat.div_div_eq_div_mul,<-Nat.pow_succ]
theorem XN (n k:Nat) (b:n<2 ^ 64):bits .and .u64 ((n:Int) / 2 ^ k) 1 % 256=((n / 2 ^ k % 2==1).toNat:Int):=by
 have e:((n:Int) / 2 ^ k)=((n / 2 ^ k:Nat):Int):=js
 have a:n / 2 ^ k<18446744073709551616:=Nat.lt_of_le_of_lt (Nat.div_le_self _ _) (by simpa using b);rw [e,show (1:Int)=((1:Nat):Int) from rfl,u64_and_nat _ _ a jo,Nat.and_one_is_mod];generalize n / 2 ^ k=m;rcases Nat.mod_two_eq_zero_or_one m with h|h <;>simp [h]
theorem Jv (c:jj) (p:Nat) (L:jz) (n:Nat) (W:Nat) (w:jj) (h:Bb K c p L w) (s:L.length+W<=1099511627776) (t:W<=64) (i:n<2 ^ 64):
  Calls Tryz.prog 172 #[.pointer (some ⟨p,0,none⟩),.int .u64 (n:Int),.int .i64 (W:Int)] w (Ha K c p (L++Ax n W)):=by
 have m:=jp h;have o:=jp i;clear h i;go_enter Tryz.func172,Tryz.ntmps172;go_wp2;go_loopg [6] W (fun r d wr=>∃k:Nat,r=k/\k<=W/\d= .int .i64 ((k:Int) - 1)/\Bb K c p (L++Ax (n / 2 ^ k) (W - k)) wr)
 case atStart=>exact ⟨W,rfl,jo,by go_num,by simpa [Ax] using m.out⟩
 case round=>
  obtain ⟨k,u,q,rfl,l⟩:=hrel;have f:=jp l;clear l;cases k with
  |zero=>
   go_wp2;go_end0;exact ⟨rfl,by simpa using f.out⟩
  |succ k=>
   have a:=Sp c p (L++Ax (n / 2 ^ (k+1)) (W - (k+1))) (n / 2 ^ k % 2==1) wr f.out (by rw [jO,Bd];omega);rw [<-XN n k o.out,List.append_assoc,<-Xe n W k jo] at a;go_wp2_with fail;refine a.mono ?_;rintro e v ⟨rfl,b⟩;have g:=jp b;clear b a f;go_wp2;go_roundg k
   case measure=>omega
   case rel=>exact ⟨k,rfl,jo,by go_num,g.out⟩
theorem Cb (c:jj) (p:Nat) (L:jz) (n:Nat) (W:Nat) (w:jj) (h:Bb K c p L w) (f:L.length+8 * W<=1099511627776) (g:W<=8) (i:n<=4611686018427387904):
  Calls Tryz.prog 128 #[.pointer (some ⟨p,0,none⟩),.int .i64 (n:Int),.int .i64 (W:Int)] w (Ha K c p (L++Ax n (8 * W))):=by
 have a:=Jv c p L n (8 * W) w h f jo jo;rw [show ((8 * W:Nat):Int)=8 * (W:Int) by omega] at a;clear h;go_enter Tryz.func128,Tryz.ntmps128;go_wp2_with fail;refine a.mono ?_;rintro e k ⟨rfl,b⟩;have d:=jp b;clear b a;go_wp2;go_end0;exact ⟨rfl,d.out⟩
theorem XO (l:jy) (k:Nat) (a:k<l.length):Az (l.take (k+1))=Az (l.take k)++Ax l[k].toNat 8:=by
 rw [jQ a,Ly];rfl
theorem Gh (g:jj) (p:Nat) (L:jz) (t:jt) (w:jj) (h:Bb K g p L w) (v:L.length+8 * t.size<=1099511627776):
  Calls Tryz.prog 127 #[.pointer (some ⟨p,0,none⟩),.string t] w (Ha K g p (L++Az t.data.toList)):=by
 have s:=jp h;have m:t.data.toList.length=t.size:=by rw [Array.length_toList];rfl
 have n:=jp m;clear h m;go_enter Tryz.func127,Tryz.ntmps127;go_wp2;go_loopg [4] t.size (fun r d wr=>∃k:Nat,r=t.size - k/\k<=t.size/\d= .int .i64 (k:Int)/\Bb K g p (L++Az (t.data.toList.take k)) wr)
 case atStart=>exact ⟨0,rfl,jo,rfl,by simpa [Az] using s.out⟩
 case round=>
  obtain ⟨k,x,u,rfl,o⟩:=hrel;have i:=jp o;clear o;by_cases a:k<t.size
  .have b:Az (t.data.toList.take (k+1))=Az (t.data.toList.take k)++Ax (t[k]'a).toNat 8:=XO t.data.toList k (by rw [n.out];exact a);have c:=Jv g p (L++Az (t.data.toList.take k)) (t[k]'a).toNat 8 wr i.out (by rw [jO,Bk,jk];omega) jo (by have:=(t[k]'a).toNat_lt;omega)
   have q:IntKind.u64.wrap ((t[k]'a).toNat:Int)=((t[k]'a).toNat:Int):=by
    have:=(t[k]'a).toNat_lt;rw [IntKind.wrap_u64];omega
   rw [List.append_assoc,<-b,show ((8:Nat):Int)=8 from rfl] at c;rw [<-q] at c;clear q b;go_wp2_with fail;refine c.mono ?_;rintro e y ⟨rfl,f⟩;have l:=jp f;clear f c i;go_wp2;go_roundg (t.size - (k+1))
   case measure=>omega
   case rel=>exact ⟨k+1,rfl,jo,by go_num,l.out⟩
  .go_wp2;go_end0;have e:t.data.toList.take k=t.data.toList:=jR (by rw [n.out];omega);have:=i.out;rw [e] at this;exact ⟨rfl,this⟩
variable {K:Nat->Option Obj}
theorem Xo (Bs:jy):∀s:jt,(Bs.map (fun b=>(b.toNat:Int))).foldl (fun r n=>r.push (UInt8.ofNat n.toNat)) s=⟨s.data++Bs.toArray⟩:=by
 induction Bs with
 |nil=>intro s;simp
 |cons b Bs ih=>
  intro s;rw [List.map_cons,List.foldl_cons,ih];have e:UInt8.ofNat ((b.toNat:Int).toNat)=b:=js
  rw [e];simp [ByteArray.push]
theorem LV {w:jj} {base:Nat} {v:ju} {Bs:jy} (h:w.ownsRow base 5 1 v Bs.length (Bs.map D6)):
  (convert 78 9 v).run Tryz.prog w= .ok (.string ⟨Bs.toArray⟩) w:=by
 have d:=fun g f=>h.cells (g:=g) f
 rcases h.2 with ⟨a,m⟩|⟨g,cap,i,a,_⟩
 .have k:Bs=[]:=jS jo;subst k;rw [a,run_convert_bytes_string _ 78 9 5 _ _ _ Tryz.underlying78 Tryz.underlying5 Tryz.underlying9];rfl
 .subst a;rw [run_convert_bytes_string _ 78 9 5 _ _ _ Tryz.underlying78 Tryz.underlying5 Tryz.underlying9];have c:=run_loadCells_list (P:=Tryz.prog) (w:=w) ⟨g,0,none⟩ (Bs.map D6) (fun j u l=>d g rfl j u l);rw [je] at c;rw [run_bytesToString _ _ _ _ (Bs.map (fun b=>(b.toNat:Int))) (by rw [c,List.map_map];rfl),Xo];simp
def JF (n:Int):ByteArray:=⟨#[UInt8.ofNat n.toNat]⟩
theorem UO (w:jj) (n:Int):(convert 78 9 (.slice (some ⟨w.heap.size,0,none⟩) 1 1)).run Tryz.prog (w.alloc (.cells #[.int .u8 n] 5))= .ok (.string (JF n)) (w.alloc (.cells #[.int .u8 n] 5)):=by
 rw [run_convert_bytes_string _ 78 9 5 _ 1 1 Tryz.underlying78 Tryz.underlying5 Tryz.underlying9];rw [run_bytesToString _ _ 1 1 [n] (by simp [loadCells,loadCellsFrom,go_sem])];rfl
theorem Xs (w:jj) (n:Int):(convert 78 9 (.slice (some ⟨w.heap.size,0,none⟩) 1 1)).run Tryz.prog (w.alloc (.cells #[.int .u8 n] 5)).drew= .ok (.string (JF n)) (w.alloc (.cells #[.int .u8 n] 5)).drew:=by
 rw [run_convert_bytes_string _ 78 9 5 _ 1 1 Tryz.underlying78 Tryz.underlying5 Tryz.underlying9];rw [run_bytesToString _ _ 1 1 [n] (by simp [loadCells,loadCellsFrom,go_sem])];rfl
def Ai (l:jy):ByteArray:=⟨l.toArray⟩
def OO (K:Nat->Option Obj) (a:jj) (p:Nat) (L:jz) (e:Ending) (w':jj):Prop:=e= .returned (.string (Ai (AK L)))/\Bb K a p L w'
theorem QF (Bs:jy) (R:jz) (b:0<R.length) (c:R.length<8):(⟨Bs.toArray⟩:jt)++JF (((AD R:Nat):Int) * 2 ^ (8 - R.length) % 256)=Ai (AK (Az Bs++R)):=by
 rw [J4,MX R b c]
 have d:AD R * 2 ^ (8 - R.length)<256:=by
  have a:AD R * 2 ^ (8 - R.length)<2 ^ R.length * 2 ^ (8 - R.length):=Nat.mul_lt_mul_of_pos_right (FG R) (Nat.two_pow_pos _);rw [<-Nat.pow_add,show R.length+(8 - R.length)=8 by omega] at a;exact a
 have e:(((AD R:Nat):Int) * 2 ^ (8 - R.length) % 256).toNat=AD R * 2 ^ (8 - R.length):=by
  have:(((AD R:Nat):Int) * 2 ^ (8 - R.length))=((AD R * 2 ^ (8 - R.length):Nat):Int):=js
  rw [this];omega
 unfold JF Ai;rw [e];apply ByteArray.ext;simp
theorem Ij (k:jj) (p:Nat) (L:jz) (w:jj) (h:Bb K k p L w) (G:L.length<=1099511627776):
  Calls Tryz.prog 129 #[.pointer (some ⟨p,0,none⟩)] w (OO K k p L):=by
 have l:=jp h;obtain ⟨s,t,v,Bs,R,m,u,⟨H,y,c⟩,z,o,A, -⟩:=h;obtain ⟨T,d⟩:∃T:jt,T=⟨Bs.toArray⟩:=⟨_,rfl⟩;have f:=LV o;rw [<-d] at f;have g:=jp d;have i:=jp m;have q:=FG R;obtain ⟨n,a⟩:∃n:Nat,n=R.length:=⟨_,rfl⟩;obtain ⟨x,hx⟩:∃x:Nat,x=AD R:=⟨_,rfl⟩;rw [<-a,<-hx] at q;rw [<-hx] at y;rw [<-a] at c u;have b:=jp a;have HX:=jp hx;clear hx a m d o A z s t;by_cases B:n=0
 .subst B;replace c:w.cell? ⟨p,2,none⟩=some (.int .u64 0):=c;clear q;go_enter Tryz.func129,Tryz.ntmps129;go_wp2;go_ret;refine ⟨?_,l.out⟩;have:R=[]:=jS b.out.symm;rw [i.out,this,J4,g.out];simp [AK,Ai]
 .have r:0<n:=jo
  have C:=UO;have D:=Xs;have E:∀n,(JF n).size=1:=fun _=>rfl
  have F:T.size<=1099511627776:=by
   have:=congrArg List.length i.out;rw [jO,Bk] at this;rw [g.out];show Bs.toArray.size<=_;rw [List.size_toArray];omega
  go_enter Tryz.func129,Tryz.ntmps129;go_wp2_with fail;go_region;go_wp2;go_ret;refine ⟨?_,l.out.later jq⟩;rw [i.out,<-QF Bs R (by have:=b.out;omega) (by have:=b.out;omega),<-g.out,<-b.out,<-HX.out];rfl
theorem Tp (v W n:Nat) (h:n<W):(Ax v W)[n]?=some (v / 2 ^ (W - 1 - n) % 2==1):=by
 induction W generalizing v n with
 |zero=>omega
 |succ W ih=>
  rw [Ax];by_cases a:n<W
  .rw [List.getElem?_append_left (by rw [Bd];exact a),ih _ _ a,show W+1 - 1 - n=(W - 1 - n)+1 by omega,Nat.pow_succ,Nat.mul_comm,Nat.div_div_eq_div_mul]
  .obtain rfl:n=W:=jo
   rw [List.getElem?_append_right (by rw [Bd];omega),Bd];simp
def Rd (p:Nat) (X:jz) (s:Bool) (w:jj):Prop:=∃(t:jt) (n:Nat),X=(Az t.data.toList).drop n/\n<8/\(t.size=0->n=0)/\
 (w.cell? ⟨p,0,none⟩=some (.string t)/\w.cell? ⟨p,1,none⟩=some (.int .u64 (n:Int))/\w.cell? ⟨p,2,none⟩=some (.bool s))/\∀j,w.frozen? ⟨p,j,none⟩=false
def Uj (p:Nat) (b:Bool) (X:jz) (s:Bool) (w:jj) (e:Ending) (w':jj):Prop:=e= .returned (.int .u8 (b.toNat:Int))/\Ab [p] w w'/\Rd p X s w'
theorem Oy (t:jt) (n:Nat) (f:n<8) (h:0<t.size):∃rest,t.data.toList=t[0]::rest/\(Az t.data.toList).drop n=(t[0].toNat / 2 ^ (7 - n) % 2==1)::((BT t[0]).drop (n+1)++Az rest):=by
 have d:0<t.data.toList.length:=by rw [Array.length_toList];exact h
 obtain ⟨b,rest,a⟩:∃b rest,t.data.toList=b::rest:=by
  cases k:t.data.toList with
  |nil=>rw [k] at d;simp at d
  |cons b rest=>exact ⟨b,rest,rfl⟩
 have g:t[0]=b:=by
  have l:t.data.toList[0]'d=b:=by simp [a]
  rw [<-l];simp only [Array.getElem_toList];rfl
 refine ⟨rest,by rw [g];exact a,?_⟩;rw [a,g];have e:Az (b::rest)=BT b++Az rest:=by simp [Az]
 have i:=Tp b.toNat 8 n f;have c:n<(BT b).length:=by rw [In];exact f
 rw [e,List.drop_append_of_le_length (by rw [In];omega),List.drop_eq_getElem_cons c]
 have m:(BT b)[n]'c=(b.toNat / 2 ^ (7 - n) % 2==1):=by
  have:=jG c;unfold BT at this |-;rw [this] at i;simpa using i
 rw [m];rfl
theorem Xt (x m:Nat) (hx:x<256):bits .and .u8 ((x:Int) / 2 ^ m) 1=((x / 2 ^ m % 2==1).toNat:Int):=by
 have e:((x:Int) / 2 ^ m)=((x / 2 ^ m:Nat):Int):=js
 have a:x / 2 ^ m<256:=Nat.lt_of_le_of_lt (Nat.div_le_self _ _) hx;rw [e,show (1:Int)=((1:Nat):Int) from rfl,u8_and_nat _ _ a jo,Nat.and_one_is_mod];generalize x / 2 ^ m=k;rcases Nat.mod_two_eq_zero_or_one k with h|h <;>simp [h]
theorem We (p:Nat) (X:jz) (s:Bool) (w:jj) (h:Rd p X s w):
  Calls Tryz.prog 193 #[.pointer (some ⟨p,0,none⟩)] w (Uj p (X.head?.getD false) X.tail (s||X.isEmpty) w):=by
 obtain ⟨t,n,B,c,d,⟨r,f,x⟩,g⟩:=h;have HX:=jp B;have y:=jp g;have F:=jp d;have K:=g 0;have L:=g 1;have M:=g 2;clear B g d;by_cases C:t.size=0
 .have i:X=[]:=by
   have G:t.data.toList=[]:=jS (by rw [Array.length_toList];exact C);rw [HX.out,G];simp [Az]
  have z:=jp i
  clear i
  go_enter Tryz.func193,Tryz.ntmps193
  go_wp2
  go_ret
  refine ⟨by rw [z.out];rfl,(Ab.refl _ _).set js _,t,n,?_,c,F.out,⟨?_,?_,?_⟩,fun j=>?_⟩
  .rw [<-HX.out,z.out];rfl
  .rw [Ad js];exact r
  .rw [Ad js];exact f
  .rw [z.out];simpa using Bc (u:= .bool true) x
  .rw [Ag];exact y.out j
 .have k:0<t.size:=jo
  obtain ⟨rest,l,m⟩:=Oy t n c k;have a:t[0].toNat<256:=t[0].toNat_lt;have o:=Xt t[0].toNat (7 - n) a;have D:=jp l;have H:=jp m;clear l m;generalize I:(t[0].toNat / 2 ^ (7 - n) % 2==1)=b at *;have q:Hid (X=b::((BT t[0]).drop (n+1)++Az rest)):=HX.out.trans H.out;by_cases N:n<7
  .go_enter Tryz.func193,Tryz.ntmps193;go_wp2_with fail;go_quiet (fail);go_wp2;go_ret;refine ⟨by rw [q.out];rfl,((Ab.refl _ _).drewN _).set js _,t,n+1,?_,jo,fun h=>absurd h C,⟨?_,?_,?_⟩,fun j=>?_⟩
   .rw [HX.out,List.tail_drop]
   .rw [Ad js];simpa using r
   .simpa using Bc (u:= .int .u64 ((n:Int)+1)) (show (w.drewN nq).cell? ⟨p,1,none⟩=_ by simpa using f)
   .rw [Ad js,q.out];simpa using x
   .rw [Ag];simpa using y.out j
  .obtain rfl:n=7:=jo
   replace f:w.cell? ⟨p,1,none⟩=some (.int .u64 7):=f;have E:bits .and .u8 (t[0].toNat:Int) 1=(b.toNat:Int):=by simpa using o
   clear o;go_enter Tryz.func193,Tryz.ntmps193;go_wp2_with fail;go_quiet (fail);go_wp2;go_ret;refine ⟨by rw [q.out];rfl,((((Ab.refl _ _).drewN _).set js _).set js _).set js _,t.extract 1 t.size,0,?_,jo,fun _=>rfl,⟨?_,?_,?_⟩,fun j=>?_⟩
   .have J:(t.extract 1 t.size).data.toList=rest:=by
     have A:t.data.toList.length=t.size:=by rw [Array.length_toList];rfl
     rw [ByteArray.data_extract,Array.toList_extract,List.extract_eq_take_drop,D.out,List.drop_one,List.tail_cons];rw [D.out,List.length_cons] at A;exact jR jo
    rw [q.out,J,List.drop_of_length_le (by rw [In];omega)]
    simp
   .rw [Ad js];exact Bc (v:= .string t) (by rw [Ad js];simpa using r)
   .simpa using Bc (u:= .int .u64 0) (v:= .int .u64 8) (show (((w.drewN nq).setCell ⟨p,1,none⟩ (.int .u64 8)).setCell ⟨p,0,none⟩ (.string (t.extract 1 t.size))).cell? ⟨p,1,none⟩=_ by rw [Ad js];exact Bc (v:= .int .u64 7) (by simpa using f))
   .rw [Ad js,Ad js,Ad js,q.out];simpa using x
   .rw [Ag,Ag,Ag];simpa using y.out j
def BZ (X:jz) (W:Nat):List Bool:=(List.range W).map (fun i=>X.getD i false)
theorem GV (X:jz) (W:Nat):(BZ X W).length=W:=by simp [BZ]
theorem QC (X:jz) (k:Nat):BZ X (k+1)=BZ X k++[(X.drop k).head?.getD false]:=by
 simp [BZ,List.range_succ,List.getD]
theorem WZ (X:jz) (s:Bool) (k:Nat):((s||decide (X.length<k))||(X.drop k).isEmpty)=(s||decide (X.length<k+1)):=by
 have:(X.drop k).isEmpty=decide (X.length<=k):=by
  by_cases h:X.length<=k
  .rw [List.drop_of_length_le h];simp [h]
  .have:X.drop k≠[]:=fun e=>by have:=congrArg List.length e;simp at this;omega
   simp [h]
 rw [this];cases s
 .by_cases h:X.length<=k
  .have:X.length<k+1:=jo
   simp [h,this]
  .have a:¬X.length<k+1:=jo
   have b:¬X.length<k:=jo
   simp [h,a,b]
 .simp
theorem Qo (v b:Nat) (a:v<9223372036854775808) (c:b<2):bits .or .u64 ((v:Int) * 2) (b:Int)=((2 * v+b:Nat):Int):=by
 have e:((v:Int) * 2)=((v * 2 ^ 1:Nat):Int):=jo
 rw [e,u64_or_nat _ _ jo jo]
 have:(v * 2 ^ 1)|||b=v * 2 ^ 1+b:=by
  rw [Nat.mul_comm];exact (Nat.two_pow_add_eq_or_of_lt jo v).symm
 rw [this];omega
def SK (p:Nat) (x:Nat) (X:jz) (s:Bool) (w:jj) (e:Ending) (w':jj):Prop:=e= .returned (.int .u64 (x:Int))/\Ab [p] w w'/\Rd p X s w'
theorem LN (p:Nat) (X:jz) (s:Bool) (W:Nat) (w:jj) (h:Rd p X s w) (D:W<=64):
  Calls Tryz.prog 171 #[.pointer (some ⟨p,0,none⟩),.int .i64 (W:Int)] w (SK p (AD (BZ X W)) (X.drop W) (s||decide (X.length<W)) w):=by
 have y:=jp h;clear h;go_enter Tryz.func171,Tryz.ntmps171;go_wp2;go_loopg [5,6] W (fun r x d wr=>∃k:Nat,r=W - k/\k<=W/\x= .int .u64 (AD (BZ X k):Int)/\d= .int .i64 (k:Int)/\Ab [p] w wr/\Rd p (X.drop k) (s||decide (X.length<k)) wr)
 case atStart=>exact ⟨0,rfl,jo,rfl,rfl,Ab.refl _ _,by simpa using y.out⟩
 case round=>
  obtain ⟨k,E,z,rfl,rfl,u,v⟩:=hrel;have l:=jp u;have m:=jp v;clear u v;by_cases A:k<W
  .have a:=We p _ _ wr m.out;rw [WZ,List.tail_drop] at a;have c:=FG (BZ X k);rw [GV] at c
   have B : AD (BZ X k) < 9223372036854775808 := jN c (by
     have : (2 : Nat) ^ k <= 2 ^ 63 := Nat.pow_le_pow_right ji jo
     simpa using this)
   have n:((X.drop k).head?.getD false).toNat<2:=by have:=Bool.toNat_le ((X.drop k).head?.getD false);omega
   have C:=Qo _ _ B n;have f:=QC X k;have o:Hid (AD (BZ X (k+1))=2 * AD (BZ X k)+((X.drop k).head?.getD false).toNat):=by show _=_;rw [f,Ht]
   clear f c;generalize (X.drop k).head?.getD false=b at *;generalize AD (BZ X k)=x at *;go_wp2_with fail;refine a.mono ?_;rintro e F ⟨rfl,g,i⟩;have q:=jp (l.out.trans g);have t:=jp i;clear g i a l m;go_wp2;go_roundg (W - (k+1))
   case measure=>omega
   case rel=>exact ⟨k+1,rfl,jo,by rw [o.out];simp,by go_num,q.out,t.out⟩
  .go_wp2;go_ret;obtain rfl:k=W:=jo
   exact ⟨rfl,l.out,m.out⟩
def Tw (p:Nat) (x:Nat) (X:jz) (s:Bool) (w:jj) (e:Ending) (w':jj):Prop:=e= .returned (.int .i64 (x:Int))/\Ab [p] w w'/\Rd p X s w'
theorem SZ (p:Nat) (X:jz) (s:Bool) (W:Nat) (w:jj) (h:Rd p X s w) (i:W<=7):
  Calls Tryz.prog 122 #[.pointer (some ⟨p,0,none⟩),.int .i64 (W:Int)] w (Tw p (AD (BZ X (8 * W))) (X.drop (8 * W)) (s||decide (X.length<8 * W)) w):=by
 have a:=LN p X s (8 * W) w h jo;rw [show ((8 * W:Nat):Int)=8 * (W:Int) by omega] at a;have b:=FG (BZ X (8 * W));rw [GV] at b
 have k : AD (BZ X (8 * W)) < 72057594037927936 := jN b (by
   have : (2 : Nat) ^ (8 * W) <= 2 ^ 56 := Nat.pow_le_pow_right ji jo
   simpa using this)
 clear h b;generalize AD (BZ X (8 * W))=x at *;go_enter Tryz.func122,Tryz.ntmps122;go_wp2_with fail;refine a.mono ?_;rintro e l ⟨rfl,c,d⟩;have f:=jp c;have g:=jp d;clear c d a;go_wp2;go_ret;exact ⟨rfl,f.out,g.out⟩
def GX (w:jj) (s:Bool) (e:Ending) (w':jj):Prop:=e= .returned (.bool s)/\Aa w w'
theorem T8 (p:Nat) (X:jz) (s:Bool) (w:jj) (h:Rd p X s w):
  Calls Tryz.prog 179 #[.pointer (some ⟨p,0,none⟩)] w (GX w s):=by
 obtain ⟨t,n, -, -, -,⟨a,b,c⟩, -⟩:=h;go_enter Tryz.func179,Tryz.ntmps179;go_wp2;go_ret;exact ⟨rfl,jq⟩
end Go.Proofs.YtpapdkhjdelfcaaGreat
