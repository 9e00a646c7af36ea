import Derived.Test.YtpapdkhjdelfcabGreatLAC
import Derived.Deep.LoopGhost
import Derived.Laws.BytesString
import Derived.Deep.QuietTactic
import Derived.BigQuiet
namespace Go.Proofs.YtpapdkhjdelfcabGreat
open Go.RowKit
set_option maxRecDepth 100000
set_option maxHeartbeats 4000000
def EK (c:BitVec 32):BitVec 32:=(c>>>1) ^^^ (if c.getLsbD 0 then 0xEDB88320#32 else 0#32)
def FD (c:BitVec 32) (b:UInt8):BitVec 32:=EK (EK (EK (EK (EK (EK (EK (EK (c ^^^ BitVec.ofNat 32 b.toNat))))))))
def AD (L:List Bool):Nat:=L.foldl (fun a b=>2 * a+b.toNat) 0
theorem Ht (L:List Bool) (b:Bool):AD (L++[b])=2 * AD L+b.toNat:=by simp [AD]
theorem FG (L:List Bool):AD L<2 ^ L.length:=by
 have h:∀n,∀L:List Bool,L.length=n→AD L<2 ^ n:=by
  intro n
  induction n with
  |zero=>
   intro L hL;rw [jS hL];decide
  |succ n ih=>
   intro L hL;have hne:L≠[]:=fun e=>by rw [e] at hL;simp at hL
   rw [←List.dropLast_concat_getLast hne,Ht];have h1:=ih L.dropLast (by rw [List.length_dropLast,hL];rfl);have h2:(L.getLast hne).toNat≤1:=Bool.toNat_le _;rw [Nat.pow_succ];omega
 exact h _ L rfl
def Ax (n:Nat):Nat→List Bool
 |0=>[]
 |w+1=>Ax (n / 2) w++[n % 2==1]
theorem Bd (n w:Nat):(Ax n w).length=w:=by
 induction w generalizing n with
 |zero=>rfl
 |succ w ih=>simp [Ax,ih]
theorem M5 (n w:Nat):AD (Ax n w)=n % 2 ^ w:=by
 induction w generalizing n with
 |zero=>simp [Ax,AD,Nat.mod_one]
 |succ w ih=>
  rw [Ax,Ht,ih,Nat.pow_succ,Nat.mul_comm (2 ^ w) 2,Nat.mod_mul]
  have:(n % 2==1).toNat=n % 2:=by
   rcases Nat.mod_two_eq_zero_or_one n with h|h <;>simp [h]
  rw [this];omega
theorem Pg (L:List Bool):Ax (AD L) L.length=L:=by
 have h:∀n,∀L:List Bool,L.length=n→Ax (AD L) n=L:=by
  intro n
  induction n with
  |zero=>
   intro L hL;rw [jS hL];rfl
  |succ n ih=>
   intro L hL;have hne:L≠[]:=fun e=>by rw [e] at hL;simp at hL
   have hd:=List.dropLast_concat_getLast hne;generalize L.getLast hne=b at hd;generalize hD:L.dropLast=D at hd;have hDl:D.length=n:=by rw [←hD,List.length_dropLast,hL];rfl
   rw [←hd,Ht,Ax];have e1:(2 * AD D+b.toNat) / 2=AD D:=by have:=Bool.toNat_le b;omega
   have e2:((2 * AD D+b.toNat) % 2==1)=b:=by cases b <;>simp <;>omega
   rw [e1,e2,ih D hDl]
 exact h _ L rfl
def BT (b:UInt8):List Bool:=Ax b.toNat 8
def Az (l:List UInt8):List Bool:=l.flatMap BT
theorem In (b:UInt8):(BT b).length=8:=Bd _ _
theorem Bk (l:List UInt8):(Az l).length=8 * l.length:=by
 induction l with
 |nil=>rfl
 |cons b l ih=>simp only [Az,List.flatMap_cons,jO,In,List.length_cons] at ih ⊢;omega
theorem Lw (L:List Bool) (h:L.length=8):BT (UInt8.ofNat (AD L))=L:=by
 have h1:=FG L;rw [h] at h1;unfold BT;rw [UInt8.toNat_ofNat',Nat.mod_eq_of_lt h1,←h,Pg]
theorem Ly (l:List UInt8) (b:UInt8):Az (l++[b])=Az l++BT b:=by simp [Az]
theorem WH (l m:List UInt8):Az (l++m)=Az l++Az m:=by simp [Az]
def AK:List Bool→List UInt8
 |a::b::c::d::e::f::g::h::l=>UInt8.ofNat (AD [a,b,c,d,e,f,g,h])::AK l
 |[]=>[]
 |l=>[UInt8.ofNat (AD l * 2 ^ (8 - l.length))]
theorem Nn (b:UInt8) (L:List Bool):AK (BT b++L)=b::AK L:=by
 have hl:=In b
 have hv:UInt8.ofNat (AD (BT b))=b:=by
  unfold BT;rw [M5,Nat.mod_eq_of_lt b.toNat_lt];simp
 generalize BT b=B at *
 match B,hl with
 |[x0,x1,x2,x3,x4,x5,x6,x7],_=>
  show AK (x0::x1::x2::x3::x4::x5::x6::x7::L)=_;rw [AK,hv]
theorem J4 (l:List UInt8) (L:List Bool):AK (Az l++L)=l++AK L:=by
 induction l with
 |nil=>rfl
 |cons b l ih=>
  have:Az (b::l)=BT b++Az l:=by simp [Az]
  rw [this,List.append_assoc,Nn,ih];rfl
theorem MX (L:List Bool) (h0:0<L.length) (h:L.length<8):AK L=[UInt8.ofNat (AD L * 2 ^ (8 - L.length))]:=by
 match L,h0,h with
 |[_],_,_=>rfl
 |[_,_],_,_=>rfl
 |[_,_,_],_,_=>rfl
 |[_,_,_,_],_,_=>rfl
 |[_,_,_,_,_],_,_=>rfl
 |[_,_,_,_,_,_],_,_=>rfl
 |[_,_,_,_,_,_,_],_,_=>rfl
variable {K:Nat→Option Obj}
theorem CV {base:Nat} {e:TypeId} {s:Nat} {w w':World} {v:Value} {n:Nat} {xs:List Value} (h:w.ownsRow base e s v n xs) (k:Aa w w'):w'.ownsRow base e s v n xs:=
 World.ownsRow.kept h (row := none) ⟨k.below.os, k.below.tape, k.below.output, k.size, fun j hj _ => k.block j hj⟩ (by
   cases hv : v.ownBlock
   · exact Or.inl rfl
   · exact Or.inr (by simp))
theorem B8 {w:World} {base:Nat} {e:TypeId} {size:Nat} {v:Value} {n:Nat} {xs:List Value} (h:w.ownsRow base e size v n xs):∃ao cap,v= .slice ao n cap:=by
 rcases h.2 with ⟨h1,h2⟩|⟨g,cap,cur,h1,_⟩
 ·exact ⟨none,0,by rw [h1,h2]⟩
 ·exact ⟨_,_,h1⟩
def D6 (b:UInt8):Value:= .int .u8 (b.toNat:Int)
theorem Tryz.infoU8:(Tryz.prog.info? 5).map (fun i=>(i.zero,i.size,i.bytes))=some (some (.int .u8 0),1,1):=by kernel_rfl
def ET (K:Nat→Option Obj) (p:Nat) (v:Value) (w:World):Prop:=∀k o,K k=some o→w.heap[k]?=some o∧k≠p∧v.ownBlock≠some k∧∀cur,o≠ .cells cur 5 (0,0)
theorem ET.but {p:Nat} {v:Value} {w w':World} (h:ET K p v w) (b:Ab [p] w w'):ET K p v w':=fun k o hk=>by
 obtain ⟨h1,h2,h3,h4⟩:=h k o hk
 have hlt:k<w.heap.size:=by
  rcases Nat.lt_or_ge k w.heap.size with h|h
  ·exact h
  ·rw [Array.getElem?_eq_none h] at h1;cases h1
 exact ⟨(b.block k hlt (by simpa using h2)).trans h1,h2,h3,h4⟩
theorem ET.bel {p:Nat} {v:Value} {w w':World} (h:ET K p v w) (b:Aa w w'):ET K p v w':=h.but (Ab.of_bel b)
def Bb (K:Nat→Option Obj) (W0:World) (p:Nat) (L:List Bool) (w:World):Prop:=Aa W0 w∧W0.heap.size≤p∧∃(v:Value) (Bs:List UInt8) (R:List Bool),L=Az Bs++R∧R.length<8∧
 (w.cell? ⟨p,0,none⟩=some v∧w.cell? ⟨p,1,none⟩=some (.int .u8 (AD R:Int))∧w.cell? ⟨p,2,none⟩=some (.int .u64 (R.length:Int)))∧(∀j,w.frozen? ⟨p,j,none⟩=false)∧
 w.ownsRow W0.heap.size 5 1 v Bs.length (Bs.map D6)∧v.ownBlock≠some p∧ET K p v w
theorem Bb.later {W0:World} {p:Nat} {L:List Bool} {w w':World} (h:Bb K W0 p L w) (b:Aa w w'):Bb K W0 p L w':=by
 obtain ⟨h1,h2,v,Bs,R,r1,r2,⟨c0,c1,c2⟩,hf,ho,hn,hk⟩:=h;refine ⟨h1.trans b,h2,v,Bs,R,r1,r2,⟨b.cell c0,b.cell c1,b.cell c2⟩,fun j=>?_,CV ho b,hn,hk.bel b⟩;rw [b.below.frozen (p:=⟨p,j,none⟩) (World.block_lt_of_cell? w ⟨p,0,none⟩ c0)];exact hf j
def Ha (K:Nat→Option Obj) (W0:World) (p:Nat) (L:List Bool) (e:Ending) (w':World):Prop:=e= .returned (.tuple #[])∧Bb K W0 p L w'
theorem Bb.keep {W0:World} {p:Nat} {L:List Bool} {w:World} (h:Bb K W0 p L w) {k:Nat} {o:Obj} (hk:w.heap[k]?=some o) (hp:k≠p) (ho:∀cur,o≠ .cells cur 5 (0,0)):Bb (fun j=>if j=k then some o else K j) W0 p L w:=by
 obtain ⟨h1,h2,v,Bs,R,r1,r2,hc,hf,hw,hn,hK⟩:=h;refine ⟨h1,h2,v,Bs,R,r1,r2,hc,hf,hw,hn,fun j o' hj=>?_⟩;by_cases hjk:j=k
 ·subst hjk;have e:o=o':=by simpa using hj
  subst e;refine ⟨hk,hp,fun e=>?_,ho⟩;rcases hw.2 with ⟨g1,_⟩|⟨g,cap,cur,g1,_,g2,_⟩
  ·rw [g1] at e;cases e
  ·rw [g1] at e;have:g=j:=by simpa [Value.ownBlock] using e
   subst this;rw [hk] at g2;injection g2 with g2
   exact ho _ g2
 ·exact hK j o' (by simpa [hjk] using hj)
theorem Bb.drop {W0:World} {p:Nat} {L:List Bool} {w:World} {K':Nat→Option Obj} (h:Bb K W0 p L w) (hk:∀k o,K' k=some o→K k=some o):Bb K' W0 p L w:=by
 obtain ⟨h1,h2,v,Bs,R,r1,r2,hc,hf,hw,hn,hK⟩:=h;exact ⟨h1,h2,v,Bs,R,r1,r2,hc,hf,hw,hn,fun j o hj=>hK j o (hk j o hj)⟩
theorem Bb.block {W0:World} {p:Nat} {L:List Bool} {w:World} {k:Nat} {o:Obj} (h:Bb K W0 p L w) (hk:K k=some o):w.heap[k]?=some o:=by
 obtain ⟨h1,h2,v,Bs,R,r1,r2,hc,hf,hw,hn,hK⟩:=h;exact (hK k o hk).1
theorem Bb.lt {W0:World} {p:Nat} {L:List Bool} {w:World} (h:Bb K W0 p L w):p<w.heap.size:=by
 obtain ⟨h1,h2,v,Bs,R,r1,r2,⟨c0,_⟩,hf,hw,hn,hK⟩:=h;exact jF c0
theorem Zh (v b:Nat) (hv:v<128) (hb:b<2):bits .or .u8 ((v:Int) * 2) (b:Int)=((2 * v+b:Nat):Int):=by
 have e:((v:Int) * 2)=((v * 2 ^ 1:Nat):Int):=by omega
 rw [e,u8_or_nat _ _ (by omega) (by omega)]
 have:(v * 2 ^ 1)|||b=v * 2 ^ 1+b:=by
  rw [Nat.mul_comm];exact (Nat.two_pow_add_eq_or_of_lt (by omega) v).symm
 rw [this];omega
theorem MU {W0 w:World} {p:Nat} {v:Value} {n:Nat} {xs:List Value} {u1 u2:Value} (a c:Value) (h1:Aa W0 w) (h2:W0.heap.size≤p) (c0:w.cell? ⟨p,0,none⟩=some v) (c1:w.cell? ⟨p,1,none⟩=some u1) (c2:w.cell? ⟨p,2,none⟩=some u2)
  (hf:∀j,w.frozen? ⟨p,j,none⟩=false) (ho:w.ownsRow W0.heap.size 5 1 v n xs) (hn:v.ownBlock≠some p) (hK:ET K p v w) (V:World) (hV:V=(w.setCell ⟨p,1,none⟩ a).setCell ⟨p,2,none⟩ c):
  Aa W0 V∧V.cell? ⟨p,0,none⟩=some v∧V.cell? ⟨p,1,none⟩=some a∧V.cell? ⟨p,2,none⟩=some c∧(∀j,V.frozen? ⟨p,j,none⟩=false)∧V.ownsRow W0.heap.size 5 1 v n xs∧ET K p v V:=by
 subst hV;refine ⟨(h1.step_set (p:=⟨p,1,none⟩) h2 _).step_set (p:=⟨p,2,none⟩) h2 _,?_,?_,?_,fun j=>?_,?_,hK.but (((Ab.refl _ _).set (by simp) _).set (by simp) _)⟩
 ·rw [Ad (by simp),Ad (by simp)];exact c0
 ·rw [Ad (by simp)];exact Bc c1
 ·exact Bc (v:=u2) (by rw [Ad (by simp)];exact c2)
 ·rw [Ag,Ag];exact hf j
 ·exact ownsRow_setCell_other (ownsRow_setCell_other ho hn _) hn _
theorem Sr {V X w5:World} {p base:Nat} {v v5:Value} {n n5:Nat} {xs news:List Value} {a c:Value} {x0:Int} {rest:List Value} (hb:Aa V X) (hg:X.grownBy w5 v.ownBlock) (hn:v.ownBlock≠some p)
  (k2:V.cell? ⟨p,0,none⟩=some v) (k3:V.cell? ⟨p,1,none⟩=some a) (k4:V.cell? ⟨p,2,none⟩=some c) (hF:∀j,V.frozen? ⟨p,j,none⟩=false)
  (ho:V.ownsRow base 5 1 v n xs) (h5:w5.ownsRow base 5 1 v5 n5 news) (hx:news= .int .u8 x0::rest) (hK:ET K p v V):
  w5.cell? ⟨p,0,none⟩=some v∧w5.cell? ⟨p,1,none⟩=some a∧w5.cell? ⟨p,2,none⟩=some c∧(∀j,w5.frozen? ⟨p,j,none⟩=false)∧v5.ownBlock≠some p∧ET K p v5 w5:=by
 have hp:p<V.heap.size:=jF k2;have hpX:p<X.heap.size:=jN hp hb.size;have hbl:=hg.block p hpX (fun e=>hn (by rw [e]))
 have hc:∀j u,V.cell? ⟨p,j,none⟩=some u→w5.cell? ⟨p,j,none⟩=some u:=fun j u h=>by
  have:=hb.cell h;rw [World.cell?_of_block hbl];exact this
 have h0:=hc 0 _ k2;refine ⟨h0,hc 1 _ k3,hc 2 _ k4,fun j=>?_,fun e=>?_,fun k o hk=>?_⟩
 ·rw [World.frozen?_of_block (w:=X) hbl,hb.below.frozen (p:=⟨p,j,none⟩) hp];exact hF j
 ·have:=h5.cells e 0 (.int .u8 x0) (by rw [hx];rfl);have hadd:(⟨p,0,none⟩:Addr).add 0=⟨p,0,none⟩:=by unfold Addr.add;split <;>simp_all
  rw [hadd,h0] at this;rcases ho.2 with ⟨h1,_⟩|⟨g,cap,cur,h1,_⟩<;>rw [h1] at this <;>cases this
 ·obtain ⟨q1,q2,q3,q4⟩:=hK.bel hb k o hk
  have hlt:k<X.heap.size:=by
   rcases Nat.lt_or_ge k X.heap.size with h|h
   ·exact h
   ·rw [Array.getElem?_eq_none h] at q1;cases q1
  have q5:w5.heap[k]?=some o:=(hg.block k hlt (fun e=>q3 (by rw [e]))).trans q1;refine ⟨q5,q2,fun e=>?_,q4⟩;rcases h5.2 with ⟨g1,_⟩|⟨g,cap,cur,g1,_,g2,_⟩
  ·rw [g1] at e;cases e
  ·rw [g1] at e;have:g=k:=by simpa [Value.ownBlock] using e
   subst this;rw [q5] at g2;injection g2 with g2
   exact q4 _ g2
theorem gX {X w5:World} {row:Option Nat} (_:X.grownBy w5 row) (V:World) (hb:Aa V X):Aa V X:=hb
theorem PO (R:List Bool) (h:R.length=8):D6 (UInt8.ofNat (AD R))= .int .u8 (AD R:Int):=by
 have:=FG R;rw [h] at this;unfold D6;congr 1;simp;omega
theorem Rx {W0 w5:World} {p:Nat} {v:Value} {L R:List Bool} {b:Bool} {Bs:List UInt8} {s5 u1 u2:Value} {y:Int} (hB:Aa W0 w5) (h2:W0.heap.size≤p) (g2:w5.cell? ⟨p,0,none⟩=some v) (g3:w5.cell? ⟨p,1,none⟩=some u1) (g4:w5.cell? ⟨p,2,none⟩=some u2)
  (hf:∀j,w5.frozen? ⟨p,j,none⟩=false) (ho:w5.ownsRow W0.heap.size 5 1 s5 (Bs.length+1) (Bs.map D6++[.int .u8 y])) (hn:s5.ownBlock≠some p) (hK:ET K p s5 w5) (hL:L=Az Bs++R) (hR:7=R.length) (hy:y=((2 * AD R+b.toNat:Nat):Int)):
  Ha K W0 p (L++[b]) (.returned (.tuple #[])) (((w5.setCell ⟨p,0,none⟩ s5).setCell ⟨p,1,none⟩ (.int .u8 0)).setCell ⟨p,2,none⟩ (.int .u64 0)):=by
 have h8:(R++[b]).length=8:=by simp;omega
 refine ⟨rfl,((hB.step_set (p:=⟨p,0,none⟩) h2 _).step_set (p:=⟨p,1,none⟩) h2 _).step_set (p:=⟨p,2,none⟩) h2 _,h2,s5,Bs++[UInt8.ofNat (AD (R++[b]))],[],?_,by simp,⟨?_,?_,?_⟩,fun j=>?_,?_,hn,hK.but ((((Ab.refl _ _).set (by simp) _).set (by simp) _).set (by simp) _)⟩
 ·rw [Ly,Lw _ h8,hL];simp
 ·rw [Ad (by simp),Ad (by simp)];exact Bc g2
 ·rw [Ad (by simp)];exact Bc (v:=u1) (by rw [Ad (by simp)];exact g3)
 ·exact Bc (v:=u2) (by rw [Ad (by simp),Ad (by simp)];exact g4)
 ·rw [Ag,Ag,Ag];exact hf j
 ·have e:(Bs++[UInt8.ofNat (AD (R++[b]))]).map D6=Bs.map D6++[.int .u8 y]:=by
   rw [List.map_append,List.map_cons,List.map_nil,PO _ h8,hy,Ht]
  rw [e,jO]
  exact ownsRow_setCell_other (ownsRow_setCell_other (ownsRow_setCell_other ho hn _) hn _) hn _
theorem Sp (W0:World) (p:Nat) (L:List Bool) (b:Bool) (w:World) (h:Bb K W0 p L w) (hL:L.length≤1099511627776):
  Calls Tryz.prog 210 #[.pointer (some ⟨p,0,none⟩),.int .u8 (b.toNat:Int)] w (Ha K W0 p (L++[b])):=by
 obtain ⟨i0,hi,hz0,hz1,hz2⟩:=info_parts Tryz.infoU8;obtain ⟨h1,h2,v,Bs,R,r1,r2,⟨c0,c1,c2⟩,hf,ho,hn,hkp⟩:=h;have HKP:=jp hkp;clear hkp;have f0:=hf 0;have f1:=hf 1;have f2:=hf 2;have hv:=FG R
 have hv7 : AD R < 128 := jN hv (by
   have : (2 : Nat) ^ R.length ≤ 2 ^ 7 := Nat.pow_le_pow_right (by decide) (by omega)
   simpa using this)
 have hb2:b.toNat<2:=by have:=Bool.toNat_le b;omega
 have hor:=Zh (AD R) b.toNat hv7 hb2;have hsn:=Ht R b;have hrl:(R++[b]).length=R.length+1:=by simp
 obtain ⟨x,hx⟩:∃x:Int,x=(AD R:Int):=⟨_,rfl⟩;obtain ⟨y,hy⟩:∃y:Int,y=((2 * AD R+b.toNat:Nat):Int):=⟨_,rfl⟩;obtain ⟨z,hz⟩:∃z:Int,z=(b.toNat:Int):=⟨_,rfl⟩;obtain ⟨n,hn0⟩:∃n:Nat,n=R.length:=⟨_,rfl⟩;rw [←hx] at c1;rw [←hn0] at c2;rw [←hx,←hy,←hz] at hor;rw [←hz];have hx0:0≤x:=by omega
 have hx1:x<128:=by omega
 have hn7:n<8:=by omega
 have HX:=jp hx;have HY:=jp hy;have HN:=jp hn0;have HL:=jp r1;have HO:=jp ho;have HW:=jp hn;clear hx hy hz hn0 r1 ho hn hsn hrl r2 hv hv7 hb2;by_cases h7:n<7
 ·obtain ⟨V,hV⟩:∃V,V=(w.setCell ⟨p,1,none⟩ (.int .u8 y)).setCell ⟨p,2,none⟩ (.int .u64 ((n:Int)+1)):=⟨_,rfl⟩;have HT:=jp (MU _ _ h1 h2 c0 c1 c2 hf HO.out HW.out HKP.out V hV);go_enter Tryz.func210,Tryz.ntmps210;go_wp2;go_end0;rw [←hV];obtain ⟨k1,k2,k3,k4,k5,k6,k7⟩:=HT.out;refine ⟨rfl,k1,h2,v,Bs,R++[b],by rw [HL.out];simp,by have:=HN.out;simp;omega,⟨k2,?_,?_⟩,k5,k6,HW.out,k7⟩
  ·rw [k3,HY.out,Ht]
  ·rw [k4];have:=HN.out;simp [this]
 ·obtain rfl:n=7:=by omega
  replace c2:w.cell? ⟨p,2,none⟩=some (.int .u64 7):=c2;obtain ⟨V,hV⟩:∃V,V=(w.setCell ⟨p,1,none⟩ (.int .u8 y)).setCell ⟨p,2,none⟩ (.int .u64 8):=⟨_,rfl⟩;have HT:=jp (MU _ _ h1 h2 c0 c1 c2 hf HO.out HW.out HKP.out V hV);go_enter Tryz.func210,Tryz.ntmps210;go_wp2_with fail;rw [←hV];obtain ⟨k1,k2,k3,k4,k5,k6,k7⟩:=HT.out;have HK7:=jp k7;clear hV HT c0 c1 c2 f0 f1 f2 hf h1 HO k7 HKP;have f0:=k5 0;have f1:=k5 1;have f2:=k5 2;have HF:=jp k5;have HO:=jp k6;clear k5 k6;have hVs:W0.heap.size≤V.heap.size:=k1.size;have hpV:p<V.heap.size:=jF k2
  obtain ⟨x9,rs9,hx9⟩:∃x9 rs9,Hid (Bs.map D6++[.int .u8 y]= .int .u8 x9::rs9):=by
   cases Bs with
   |nil=>exact ⟨_,_,rfl⟩
   |cons b0 r0=>exact ⟨_,_,rfl⟩
  have hbs:Bs.length≤1099511627776:=by
   have:=congrArg List.length HL.out;rw [jO,Bk] at this;omega
  go_region_law (refine KB rfl (.tmp 30) (.tmp 35) 105 rfl W0.heap.size 5 i0 (.int .u8 0) 1 1 Tryz.underlying105 hi hz0 hz1 hz2 rfl (by decide) v Bs.length (Bs.map D6) (by simp [Act.eval]) (World.ownsRow.alloc HO.out _) ⟨V.heap.size, 0, none⟩ 1 1 [.int .u8 y] (by simp [Act.eval]) rfl (Fz _ _ _ _ rfl) (fun u hu => by simp at hu; subst hu; rfl) (by unfold maxLen; omega) (by omega) (by simp; omega) ?_
                 intro v5 w5 hown5 hgrow5
                 obtain ⟨ao5, cap5, rfl⟩ := B8 hown5
                 have hbX := gX hgrow5 V (by first | exact ((jD V).step_drew).step_alloc _ | exact ((jD V).step_alloc _).step_drew | exact (jD V).step_alloc _)
                 have hG := Sr (x0 := x9) (rest := rs9) hbX hgrow5 HW.out k2 k3 k4 HF.out HO.out hown5 hx9.out HK7.out
                 have hB5 : Aa W0 w5 := (k1.trans hbX).grown hgrow5 (fun g hg => (World.ownsRow.lt HO.out g hg).1)
                 have HO5 := jp hown5
                 obtain ⟨g2, g3, g4, g5, g6, g7⟩ := hG
                 have HK5 := jp g7
                 have HF5 := jp g5
                 have f50 := g5 0
                 have f51 := g5 1
                 have f52 := g5 2
                 have HN5 := jp g6
                 clear g5 g6 g7 hown5 hgrow5 hbX)
  all_goals
   clear k2 k3 k4;go_wp2;go_end0;exact Rx hB5 h2 g2 g3 g4 HF5.out HO5.out HN5.out HK5.out HL.out HN.out HY.out
variable {K:Nat→Option Obj}
theorem Xe (n W k:Nat) (hk:k<W):Ax (n / 2 ^ k) (W - k)=Ax (n / 2 ^ (k+1)) (W - (k+1))++[n / 2 ^ k % 2==1]:=by
 obtain ⟨d,rfl⟩:∃d,W=k+1+d:=⟨W - (k+1),by omega⟩;rw [show k+1+d - k=d+1 by omega,show k+1+d - (k+1)=d by omega,Ax,Nat.div_div_eq_div_mul,←Nat.pow_succ]
theorem XN (n k:Nat) (hn:n<2 ^ 64):bits .and .u64 ((n:Int) / 2 ^ k) 1 % 256=((n / 2 ^ k % 2==1).toNat:Int):=by
 have e:((n:Int) / 2 ^ k)=((n / 2 ^ k:Nat):Int):=by simp
 have hlt:n / 2 ^ k<18446744073709551616:=Nat.lt_of_le_of_lt (Nat.div_le_self _ _) (by simpa using hn);rw [e,show (1:Int)=((1:Nat):Int) from rfl,u64_and_nat _ _ hlt (by omega),Nat.and_one_is_mod];generalize n / 2 ^ k=m;rcases Nat.mod_two_eq_zero_or_one m with h|h <;>simp [h]
theorem Jv (W0:World) (p:Nat) (L:List Bool) (n:Nat) (W:Nat) (w:World) (h:Bb K W0 p L w) (hL:L.length+W≤1099511627776) (hW:W≤64) (hn:n<2 ^ 64):
  Calls Tryz.prog 170 #[.pointer (some ⟨p,0,none⟩),.int .u64 (n:Int),.int .i64 (W:Int)] w (Ha K W0 p (L++Ax n W)):=by
 have HH:=jp h;have HN:=jp hn;clear h hn;go_enter Tryz.func170,Tryz.ntmps170;go_wp2;go_loopg [6] W (fun r d wr=>∃k:Nat,r=k∧k≤W∧d= .int .i64 ((k:Int) - 1)∧Bb K W0 p (L++Ax (n / 2 ^ k) (W - k)) wr)
 case atStart=>exact ⟨W,rfl,by omega,by go_num,by simpa [Ax] using HH.out⟩
 case round=>
  obtain ⟨k,hr,hkW,rfl,hI⟩:=hrel;have HI:=jp hI;clear hI;cases k with
  |zero=>
   go_wp2;go_end0;exact ⟨rfl,by simpa using HI.out⟩
  |succ k=>
   have hcl:=Sp W0 p (L++Ax (n / 2 ^ (k+1)) (W - (k+1))) (n / 2 ^ k % 2==1) wr HI.out (by rw [jO,Bd];omega);rw [←XN n k HN.out,List.append_assoc,←Xe n W k (by omega)] at hcl;go_wp2_with fail;refine hcl.mono ?_;rintro e w2 ⟨rfl,hI2⟩;have HI2:=jp hI2;clear hI2 hcl HI;go_wp2_with fail;go_roundg k
   case measure=>omega
   case rel=>exact ⟨k,rfl,by omega,by go_num,HI2.out⟩
theorem Cb (W0:World) (p:Nat) (L:List Bool) (n:Nat) (W:Nat) (w:World) (h:Bb K W0 p L w) (hL:L.length+8 * W≤1099511627776) (hW:W≤8) (hn:n≤4611686018427387904):
  Calls Tryz.prog 113 #[.pointer (some ⟨p,0,none⟩),.int .i64 (n:Int),.int .i64 (W:Int)] w (Ha K W0 p (L++Ax n (8 * W))):=by
 have hcl:=Jv W0 p L n (8 * W) w h hL (by omega) (by omega);rw [show ((8 * W:Nat):Int)=8 * (W:Int) by omega] at hcl;clear h;go_enter Tryz.func113,Tryz.ntmps113;go_wp2_with fail;refine hcl.mono ?_;rintro e w2 ⟨rfl,hI2⟩;have HI2:=jp hI2;clear hI2 hcl;go_wp2;go_end0;exact ⟨rfl,HI2.out⟩
theorem XO (l:List UInt8) (k:Nat) (hk:k<l.length):Az (l.take (k+1))=Az (l.take k)++Ax l[k].toNat 8:=by
 rw [jQ hk,Ly];rfl
theorem Gh (W0:World) (p:Nat) (L:List Bool) (t:ByteArray) (w:World) (h:Bb K W0 p L w) (hL:L.length+8 * t.size≤1099511627776):
  Calls Tryz.prog 112 #[.pointer (some ⟨p,0,none⟩),.string t] w (Ha K W0 p (L++Az t.data.toList)):=by
 have HH:=jp h;have hz:t.data.toList.length=t.size:=by rw [Array.length_toList];rfl
 have HZ:=jp hz;clear h hz;go_enter Tryz.func112,Tryz.ntmps112;go_wp2;go_loopg [4] t.size (fun r d wr=>∃k:Nat,r=t.size - k∧k≤t.size∧d= .int .i64 (k:Int)∧Bb K W0 p (L++Az (t.data.toList.take k)) wr)
 case atStart=>exact ⟨0,rfl,by omega,rfl,by simpa [Az] using HH.out⟩
 case round=>
  obtain ⟨k,hr,hkW,rfl,hI⟩:=hrel;have HI:=jp hI;clear hI;by_cases hlt:k<t.size
  ·have hstep:Az (t.data.toList.take (k+1))=Az (t.data.toList.take k)++Ax (t[k]'hlt).toNat 8:=XO t.data.toList k (by rw [HZ.out];exact hlt);have hcl:=Jv W0 p (L++Az (t.data.toList.take k)) (t[k]'hlt).toNat 8 wr HI.out (by rw [jO,Bk,jk];omega) (by omega) (by have:=(t[k]'hlt).toNat_lt;omega)
   have hw:IntKind.u64.wrap ((t[k]'hlt).toNat:Int)=((t[k]'hlt).toNat:Int):=by
    have:=(t[k]'hlt).toNat_lt;rw [IntKind.wrap_u64];omega
   rw [List.append_assoc,←hstep,show ((8:Nat):Int)=8 from rfl] at hcl;rw [←hw] at hcl;clear hw hstep;go_wp2_with fail;refine hcl.mono ?_;rintro e w2 ⟨rfl,hI2⟩;have HI2:=jp hI2;clear hI2 hcl HI;go_wp2_with fail;go_roundg (t.size - (k+1))
   case measure=>omega
   case rel=>exact ⟨k+1,rfl,by omega,by go_num,HI2.out⟩
  ·go_wp2;go_end0;have e:t.data.toList.take k=t.data.toList:=jR (by rw [HZ.out];omega);have:=HI.out;rw [e] at this;exact ⟨rfl,this⟩
variable {K:Nat→Option Obj}
theorem Xo (Bs:List UInt8):∀s:ByteArray,(Bs.map (fun b=>(b.toNat:Int))).foldl (fun r n=>r.push (UInt8.ofNat n.toNat)) s=⟨s.data++Bs.toArray⟩:=by
 induction Bs with
 |nil=>intro s;simp
 |cons b Bs ih=>
  intro s;rw [List.map_cons,List.foldl_cons,ih];have e:UInt8.ofNat ((b.toNat:Int).toNat)=b:=by simp
  rw [e];simp [ByteArray.push]
theorem LV {w:World} {base:Nat} {v:Value} {Bs:List UInt8} (h:w.ownsRow base 5 1 v Bs.length (Bs.map D6)):
  (convert 105 9 v).run Tryz.prog w= .ok (.string ⟨Bs.toArray⟩) w:=by
 have hc:=fun g hg=>h.cells (g:=g) hg
 rcases h.2 with ⟨h1,h2⟩|⟨g,cap,cur,h1,_⟩
 ·have hB:Bs=[]:=jS (by omega);subst hB;rw [h1,run_convert_bytes_string _ 105 9 5 _ _ _ Tryz.underlying105 Tryz.underlying5 Tryz.underlying9];rfl
 ·subst h1;rw [run_convert_bytes_string _ 105 9 5 _ _ _ Tryz.underlying105 Tryz.underlying5 Tryz.underlying9];have hl:=run_loadCells_list (P:=Tryz.prog) (w:=w) ⟨g,0,none⟩ (Bs.map D6) (fun j u hu=>hc g rfl j u hu);rw [je] at hl;rw [run_bytesToString _ _ _ _ (Bs.map (fun b=>(b.toNat:Int))) (by rw [hl,List.map_map];rfl),Xo];simp
def JF (n:Int):ByteArray:=⟨#[UInt8.ofNat n.toNat]⟩
theorem UO (w:World) (n:Int):(convert 105 9 (.slice (some ⟨w.heap.size,0,none⟩) 1 1)).run Tryz.prog (w.alloc (.cells #[.int .u8 n] 5))= .ok (.string (JF n)) (w.alloc (.cells #[.int .u8 n] 5)):=by
 rw [run_convert_bytes_string _ 105 9 5 _ 1 1 Tryz.underlying105 Tryz.underlying5 Tryz.underlying9];rw [run_bytesToString _ _ 1 1 [n] (by simp [loadCells,loadCellsFrom,go_sem])];rfl
theorem Xs (w:World) (n:Int):(convert 105 9 (.slice (some ⟨w.heap.size,0,none⟩) 1 1)).run Tryz.prog (w.alloc (.cells #[.int .u8 n] 5)).drew= .ok (.string (JF n)) (w.alloc (.cells #[.int .u8 n] 5)).drew:=by
 rw [run_convert_bytes_string _ 105 9 5 _ 1 1 Tryz.underlying105 Tryz.underlying5 Tryz.underlying9];rw [run_bytesToString _ _ 1 1 [n] (by simp [loadCells,loadCellsFrom,go_sem])];rfl
def Ai (l:List UInt8):ByteArray:=⟨l.toArray⟩
def OO (K:Nat→Option Obj) (W0:World) (p:Nat) (L:List Bool) (e:Ending) (w':World):Prop:=e= .returned (.string (Ai (AK L)))∧Bb K W0 p L w'
theorem QF (Bs:List UInt8) (R:List Bool) (h0:0<R.length) (h8:R.length<8):(⟨Bs.toArray⟩:ByteArray)++JF (((AD R:Nat):Int) * 2 ^ (8 - R.length) % 256)=Ai (AK (Az Bs++R)):=by
 rw [J4,MX R h0 h8]
 have hlt:AD R * 2 ^ (8 - R.length)<256:=by
  have h1:AD R * 2 ^ (8 - R.length)<2 ^ R.length * 2 ^ (8 - R.length):=Nat.mul_lt_mul_of_pos_right (FG R) (Nat.two_pow_pos _);rw [←Nat.pow_add,show R.length+(8 - R.length)=8 by omega] at h1;exact h1
 have e:(((AD R:Nat):Int) * 2 ^ (8 - R.length) % 256).toNat=AD R * 2 ^ (8 - R.length):=by
  have:(((AD R:Nat):Int) * 2 ^ (8 - R.length))=((AD R * 2 ^ (8 - R.length):Nat):Int):=by simp
  rw [this];omega
 unfold JF Ai;rw [e];apply ByteArray.ext;simp
theorem Ij (W0:World) (p:Nat) (L:List Bool) (w:World) (h:Bb K W0 p L w) (hL:L.length≤1099511627776):
  Calls Tryz.prog 114 #[.pointer (some ⟨p,0,none⟩)] w (OO K W0 p L):=by
 have HH:=jp h;obtain ⟨h1,h2,v,Bs,R,r1,r2,⟨c0,c1,c2⟩,hf,ho,hn, -⟩:=h;obtain ⟨T,hT⟩:∃T:ByteArray,T=⟨Bs.toArray⟩:=⟨_,rfl⟩;have hcr:=LV ho;rw [←hT] at hcr;have HT:=jp hT;have HL:=jp r1;have hv:=FG R;obtain ⟨n,hn0⟩:∃n:Nat,n=R.length:=⟨_,rfl⟩;obtain ⟨x,hx⟩:∃x:Nat,x=AD R:=⟨_,rfl⟩;rw [←hn0,←hx] at hv;rw [←hx] at c1;rw [←hn0] at c2 r2;have HN:=jp hn0;have HX:=jp hx;clear hx hn0 r1 hT ho hn hf h1 h2;by_cases hz:n=0
 ·subst hz;replace c2:w.cell? ⟨p,2,none⟩=some (.int .u64 0):=c2;clear hv;go_enter Tryz.func114,Tryz.ntmps114;go_wp2;go_ret;refine ⟨?_,HH.out⟩;have:R=[]:=jS HN.out.symm;rw [HL.out,this,J4,HT.out];simp [AK,Ai]
 ·have hpos:0<n:=by omega
  have hcv:=UO;have hcd:=Xs;have hos:∀n,(JF n).size=1:=fun _=>rfl
  have hTs:T.size≤1099511627776:=by
   have:=congrArg List.length HL.out;rw [jO,Bk] at this;rw [HT.out];show Bs.toArray.size≤_;rw [List.size_toArray];omega
  go_enter Tryz.func114,Tryz.ntmps114;go_wp2_with fail;go_region;go_wp2;go_ret;refine ⟨?_,HH.out.later (by solve_by_elim [jA,jB,jC,jD,jE])⟩;rw [HL.out,←QF Bs R (by have:=HN.out;omega) (by have:=HN.out;omega),←HT.out,←HN.out,←HX.out];rfl
theorem Tp (v W n:Nat) (h:n<W):(Ax v W)[n]?=some (v / 2 ^ (W - 1 - n) % 2==1):=by
 induction W generalizing v n with
 |zero=>omega
 |succ W ih=>
  rw [Ax];by_cases hn:n<W
  ·rw [List.getElem?_append_left (by rw [Bd];exact hn),ih _ _ hn,show W+1 - 1 - n=(W - 1 - n)+1 by omega,Nat.pow_succ,Nat.mul_comm,Nat.div_div_eq_div_mul]
  ·obtain rfl:n=W:=by omega
   rw [List.getElem?_append_right (by rw [Bd];omega),Bd];simp
def Rd (p:Nat) (X:List Bool) (s:Bool) (w:World):Prop:=∃(t:ByteArray) (n:Nat),X=(Az t.data.toList).drop n∧n<8∧(t.size=0→n=0)∧
 (w.cell? ⟨p,0,none⟩=some (.string t)∧w.cell? ⟨p,1,none⟩=some (.int .u64 (n:Int))∧w.cell? ⟨p,2,none⟩=some (.bool s))∧∀j,w.frozen? ⟨p,j,none⟩=false
def Uj (p:Nat) (b:Bool) (X:List Bool) (s:Bool) (w:World) (e:Ending) (w':World):Prop:=e= .returned (.int .u8 (b.toNat:Int))∧Ab [p] w w'∧Rd p X s w'
theorem Oy (t:ByteArray) (n:Nat) (hn:n<8) (h:0<t.size):∃rest,t.data.toList=t[0]::rest∧(Az t.data.toList).drop n=(t[0].toNat / 2 ^ (7 - n) % 2==1)::((BT t[0]).drop (n+1)++Az rest):=by
 have hl:0<t.data.toList.length:=by rw [Array.length_toList];exact h
 obtain ⟨b,rest,hbr⟩:∃b rest,t.data.toList=b::rest:=by
  cases hd:t.data.toList with
  |nil=>rw [hd] at hl;simp at hl
  |cons b rest=>exact ⟨b,rest,rfl⟩
 have hb:t[0]=b:=by
  have h0:t.data.toList[0]'hl=b:=by simp [hbr]
  rw [←h0];simp only [Array.getElem_toList];rfl
 refine ⟨rest,by rw [hb];exact hbr,?_⟩;rw [hbr,hb];have e:Az (b::rest)=BT b++Az rest:=by simp [Az]
 have hg:=Tp b.toNat 8 n hn;have hlt:n<(BT b).length:=by rw [In];exact hn
 rw [e,List.drop_append_of_le_length (by rw [In];omega),List.drop_eq_getElem_cons hlt]
 have h1:(BT b)[n]'hlt=(b.toNat / 2 ^ (7 - n) % 2==1):=by
  have:=jG hlt;unfold BT at this ⊢;rw [this] at hg;simpa using hg
 rw [h1];rfl
theorem Xt (x m:Nat) (hx:x<256):bits .and .u8 ((x:Int) / 2 ^ m) 1=((x / 2 ^ m % 2==1).toNat:Int):=by
 have e:((x:Int) / 2 ^ m)=((x / 2 ^ m:Nat):Int):=by simp
 have hlt:x / 2 ^ m<256:=Nat.lt_of_le_of_lt (Nat.div_le_self _ _) hx;rw [e,show (1:Int)=((1:Nat):Int) from rfl,u8_and_nat _ _ hlt (by omega),Nat.and_one_is_mod];generalize x / 2 ^ m=k;rcases Nat.mod_two_eq_zero_or_one k with h|h <;>simp [h]
theorem We (p:Nat) (X:List Bool) (s:Bool) (w:World) (h:Rd p X s w):
  Calls Tryz.prog 212 #[.pointer (some ⟨p,0,none⟩)] w (Uj p (X.head?.getD false) X.tail (s||X.isEmpty) w):=by
 obtain ⟨t,n,hX,hn8,ht0,⟨c0,c1,c2⟩,hf⟩:=h;have HX:=jp hX;have HF:=jp hf;have HZ:=jp ht0;have f0:=hf 0;have f1:=hf 1;have f2:=hf 2;clear hX hf ht0;by_cases hz:t.size=0
 ·have hXn:X=[]:=by
   have hd:t.data.toList=[]:=jS (by rw [Array.length_toList];exact hz);rw [HX.out,hd];simp [Az]
  have HN:=jp hXn
  clear hXn
  go_enter Tryz.func212,Tryz.ntmps212
  go_wp2
  go_ret
  refine ⟨by rw [HN.out];rfl,(Ab.refl _ _).set (by simp) _,t,n,?_,hn8,HZ.out,⟨?_,?_,?_⟩,fun j=>?_⟩
  ·rw [←HX.out,HN.out];rfl
  ·rw [Ad (by simp)];exact c0
  ·rw [Ad (by simp)];exact c1
  ·rw [HN.out];simpa using Bc (u:= .bool true) c2
  ·rw [Ag];exact HF.out j
 ·have hpos:0<t.size:=by omega
  obtain ⟨rest,hr1,hr2⟩:=Oy t n hn8 hpos;have hb256:t[0].toNat<256:=t[0].toNat_lt;have hab:=Xt t[0].toNat (7 - n) hb256;have H1:=jp hr1;have H2:=jp hr2;clear hr1 hr2;generalize hbb:(t[0].toNat / 2 ^ (7 - n) % 2==1)=b at *;have he:Hid (X=b::((BT t[0]).drop (n+1)++Az rest)):=HX.out.trans H2.out;by_cases h7:n<7
  ·go_enter Tryz.func212,Tryz.ntmps212;go_wp2_with fail;go_quiet (fail);go_wp2;go_ret;refine ⟨by rw [he.out];rfl,((Ab.refl _ _).drewN _).set (by simp) _,t,n+1,?_,by omega,fun h=>absurd h hz,⟨?_,?_,?_⟩,fun j=>?_⟩
   ·rw [HX.out,List.tail_drop]
   ·rw [Ad (by simp)];simpa using c0
   ·simpa using Bc (u:= .int .u64 ((n:Int)+1)) (show (w.drewN nq).cell? ⟨p,1,none⟩=_ by simpa using c1)
   ·rw [Ad (by simp),he.out];simpa using c2
   ·rw [Ag];simpa using HF.out j
  ·obtain rfl:n=7:=by omega
   replace c1:w.cell? ⟨p,1,none⟩=some (.int .u64 7):=c1;have hab7:bits .and .u8 (t[0].toNat:Int) 1=(b.toNat:Int):=by simpa using hab
   clear hab;go_enter Tryz.func212,Tryz.ntmps212;go_wp2_with fail;go_quiet (fail);go_wp2;go_ret;refine ⟨by rw [he.out];rfl,((((Ab.refl _ _).drewN _).set (by simp) _).set (by simp) _).set (by simp) _,t.extract 1 t.size,0,?_,by omega,fun _=>rfl,⟨?_,?_,?_⟩,fun j=>?_⟩
   ·have e2:(t.extract 1 t.size).data.toList=rest:=by
     have hz2:t.data.toList.length=t.size:=by rw [Array.length_toList];rfl
     rw [ByteArray.data_extract,Array.toList_extract,List.extract_eq_take_drop,H1.out,List.drop_one,List.tail_cons];rw [H1.out,List.length_cons] at hz2;exact jR (by omega)
    rw [he.out,e2,List.drop_of_length_le (by rw [In];omega)]
    simp
   ·rw [Ad (by simp)];exact Bc (v:= .string t) (by rw [Ad (by simp)];simpa using c0)
   ·simpa using Bc (u:= .int .u64 0) (v:= .int .u64 8) (show (((w.drewN nq).setCell ⟨p,1,none⟩ (.int .u64 8)).setCell ⟨p,0,none⟩ (.string (t.extract 1 t.size))).cell? ⟨p,1,none⟩=_ by rw [Ad (by simp)];exact Bc (v:= .int .u64 7) (by simpa using c1))
   ·rw [Ad (by simp),Ad (by simp),Ad (by simp),he.out];simpa using c2
   ·rw [Ag,Ag,Ag];simpa using HF.out j
def BZ (X:List Bool) (W:Nat):List Bool:=(List.range W).map (fun i=>X.getD i false)
theorem GV (X:List Bool) (W:Nat):(BZ X W).length=W:=by simp [BZ]
theorem QC (X:List Bool) (k:Nat):BZ X (k+1)=BZ X k++[(X.drop k).head?.getD false]:=by
 simp [BZ,List.range_succ,List.getD]
theorem WZ (X:List Bool) (s:Bool) (k:Nat):((s||decide (X.length<k))||(X.drop k).isEmpty)=(s||decide (X.length<k+1)):=by
 have:(X.drop k).isEmpty=decide (X.length≤k):=by
  by_cases h:X.length≤k
  ·rw [List.drop_of_length_le h];simp [h]
  ·have:X.drop k≠[]:=fun e=>by have:=congrArg List.length e;simp at this;omega
   simp [h]
 rw [this];cases s
 ·by_cases h:X.length≤k
  ·have:X.length<k+1:=by omega
   simp [h,this]
  ·have h2:¬X.length<k+1:=by omega
   have h3:¬X.length<k:=by omega
   simp [h,h2,h3]
 ·simp
theorem Qo (v b:Nat) (hv:v<9223372036854775808) (hb:b<2):bits .or .u64 ((v:Int) * 2) (b:Int)=((2 * v+b:Nat):Int):=by
 have e:((v:Int) * 2)=((v * 2 ^ 1:Nat):Int):=by omega
 rw [e,u64_or_nat _ _ (by omega) (by omega)]
 have:(v * 2 ^ 1)|||b=v * 2 ^ 1+b:=by
  rw [Nat.mul_comm];exact (Nat.two_pow_add_eq_or_of_lt (by omega) v).symm
 rw [this];omega
def SK (p:Nat) (x:Nat) (X:List Bool) (s:Bool) (w:World) (e:Ending) (w':World):Prop:=e= .returned (.int .u64 (x:Int))∧Ab [p] w w'∧Rd p X s w'
theorem LN (p:Nat) (X:List Bool) (s:Bool) (W:Nat) (w:World) (h:Rd p X s w) (hW:W≤64):
  Calls Tryz.prog 172 #[.pointer (some ⟨p,0,none⟩),.int .i64 (W:Int)] w (SK p (AD (BZ X W)) (X.drop W) (s||decide (X.length<W)) w):=by
 have HH:=jp h;clear h;go_enter Tryz.func172,Tryz.ntmps172;go_wp2;go_loopg [5,6] W (fun r x d wr=>∃k:Nat,r=W - k∧k≤W∧x= .int .u64 (AD (BZ X k):Int)∧d= .int .i64 (k:Int)∧Ab [p] w wr∧Rd p (X.drop k) (s||decide (X.length<k)) wr)
 case atStart=>exact ⟨0,rfl,by omega,rfl,rfl,Ab.refl _ _,by simpa using HH.out⟩
 case round=>
  obtain ⟨k,hr,hkW,rfl,rfl,hB,hR⟩:=hrel;have HB:=jp hB;have HR:=jp hR;clear hB hR;by_cases hlt:k<W
  ·have hcl:=We p _ _ wr HR.out;rw [WZ,List.tail_drop] at hcl;have hvl:=FG (BZ X k);rw [GV] at hvl
   have hv : AD (BZ X k) < 9223372036854775808 := jN hvl (by
     have : (2 : Nat) ^ k ≤ 2 ^ 63 := Nat.pow_le_pow_right (by decide) (by omega)
     simpa using this)
   have hb2:((X.drop k).head?.getD false).toNat<2:=by have:=Bool.toNat_le ((X.drop k).head?.getD false);omega
   have hor:=Qo _ _ hv hb2;have hsn:=QC X k;have hvs:Hid (AD (BZ X (k+1))=2 * AD (BZ X k)+((X.drop k).head?.getD false).toNat):=by show _=_;rw [hsn,Ht]
   clear hsn hvl;generalize (X.drop k).head?.getD false=b at *;generalize AD (BZ X k)=x at *;go_wp2_with fail;refine hcl.mono ?_;rintro e w2 ⟨rfl,hB2,hR2⟩;have HB2:=jp (HB.out.trans hB2);have HR2:=jp hR2;clear hB2 hR2 hcl HB HR;go_wp2_with fail;go_roundg (W - (k+1))
   case measure=>omega
   case rel=>exact ⟨k+1,rfl,by omega,by rw [hvs.out];simp,by go_num,HB2.out,HR2.out⟩
  ·go_wp2;go_ret;obtain rfl:k=W:=by omega
   exact ⟨rfl,HB.out,HR.out⟩
def Tw (p:Nat) (x:Nat) (X:List Bool) (s:Bool) (w:World) (e:Ending) (w':World):Prop:=e= .returned (.int .i64 (x:Int))∧Ab [p] w w'∧Rd p X s w'
theorem SZ (p:Nat) (X:List Bool) (s:Bool) (W:Nat) (w:World) (h:Rd p X s w) (hW:W≤7):
  Calls Tryz.prog 119 #[.pointer (some ⟨p,0,none⟩),.int .i64 (W:Int)] w (Tw p (AD (BZ X (8 * W))) (X.drop (8 * W)) (s||decide (X.length<8 * W)) w):=by
 have hcl:=LN p X s (8 * W) w h (by omega);rw [show ((8 * W:Nat):Int)=8 * (W:Int) by omega] at hcl;have hvl:=FG (BZ X (8 * W));rw [GV] at hvl
 have hv : AD (BZ X (8 * W)) < 72057594037927936 := jN hvl (by
   have : (2 : Nat) ^ (8 * W) ≤ 2 ^ 56 := Nat.pow_le_pow_right (by decide) (by omega)
   simpa using this)
 clear h hvl;generalize AD (BZ X (8 * W))=x at *;go_enter Tryz.func119,Tryz.ntmps119;go_wp2_with fail;refine hcl.mono ?_;rintro e w2 ⟨rfl,hB2,hR2⟩;have HB2:=jp hB2;have HR2:=jp hR2;clear hB2 hR2 hcl;go_wp2;go_ret;exact ⟨rfl,HB2.out,HR2.out⟩
def GX (w:World) (s:Bool) (e:Ending) (w':World):Prop:=e= .returned (.bool s)∧Aa w w'
theorem T8 (p:Nat) (X:List Bool) (s:Bool) (w:World) (h:Rd p X s w):
  Calls Tryz.prog 222 #[.pointer (some ⟨p,0,none⟩)] w (GX w s):=by
 obtain ⟨t,n, -, -, -,⟨c0,c1,c2⟩, -⟩:=h;go_enter Tryz.func222,Tryz.ntmps222;go_wp2;go_ret;exact ⟨rfl,by solve_by_elim [jA,jB,jC,jD,jE]⟩
end Go.Proofs.YtpapdkhjdelfcabGreat
