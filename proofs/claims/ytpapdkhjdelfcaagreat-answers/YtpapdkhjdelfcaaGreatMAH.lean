import Derived.Test.YtpapdkhjdelfcaaGreatMAG
import Derived.Deep.LoopGhost
namespace Go.Proofs.YtpapdkhjdelfcaaGreat
open Go.RowKit
set_option maxRecDepth 100000
set_option maxHeartbeats 4000000
theorem O9 (X:jz) (W:Nat) (h:W<=X.length):BZ X W=X.take W:=by
 apply List.ext_getElem?;intro i;by_cases a:i<W
 .rw [List.getElem?_take_of_lt a];have hx:i<X.length:=jo
  simp [BZ,a,List.getD,List.getElem?_eq_getElem hx]
 .rw [List.getElem?_eq_none (by rw [GV];omega),List.getElem?_eq_none (by rw [jk];omega)]
theorem Rd.kept {p:Nat} {X:jz} {s:Bool} {w w':jj} (h:Rd p X s w) (b:w'.heap[p]?=w.heap[p]?):Rd p X s w':=by
 obtain ⟨t,n,c,d,f,⟨g,i,k⟩,l⟩:=h;exact ⟨t,n,c,d,f,⟨(World.cell?_of_block (a:=⟨p,0,none⟩) b).trans g,(World.cell?_of_block (a:=⟨p,1,none⟩) b).trans i,(World.cell?_of_block (a:=⟨p,2,none⟩) b).trans k⟩,fun j=>(World.frozen?_of_block (a:=⟨p,j,none⟩) b).trans (l j)⟩
theorem Rd.lt {p:Nat} {X:jz} {s:Bool} {w:jj} (h:Rd p X s w):p<w.heap.size:=by
 obtain ⟨t,n,b,c,d,⟨a,f,g⟩,i⟩:=h;exact jF a
theorem EP {p base:Nat} {e:TypeId} {s:Nat} {w w':jj} {v:ju} {n:Nat} {b:List Value} (h:w.ownsRow base e s v n b) (k:Ab [p] w w') (f:p<base):w'.ownsRow base e s v n b:=
 World.ownsRow.kept h (row := some p) ⟨k.os, k.tape, k.output, k.size, fun j c a => k.block j c (by simpa using fun e => a (by rw [e]))⟩ (by
   cases d : v.ownBlock with
   | none => exact Or.inl rfl
   | some g => exact Or.inr (fun e => by have := (h.lt g d).1; cases e; omega))
theorem Mt {p:Nat} {w X c:jj} {v:ju} (a:Ab [p] w X) (b:X.grownBy c v.ownBlock) (f:∀g,v.ownBlock=some g->w.heap.size<=g):Ab [p] w c:=
 Ab.mk (b.os.trans a.os) (b.tape.trans a.tape) (b.output.trans a.output) (jX a.size b.size) (fun k d i=>(b.block k (jN d a.size) (fun e=>by have:=f k e.symm;omega)).trans (a.block k d i))
def Gb (X:jz) (s:Bool) (W:Nat) (a:jy) (b:jz) (c:Bool):Prop:=a.length<=W/\b.length<=X.length/\(s=false->8 * W<=X.length->Az a=X.take (8 * W)/\b=X.drop (8 * W)/\c=false)/\(s=true\/X.length<8 * W->c=true)
theorem Gb.step {X:jz} {s:Bool} {k:Nat} {g:jy} {a:jz} (h:Gb X s k g a false):Gb X s (k+1) (g++[UInt8.ofNat (AD (BZ a 8))]) (a.drop 8) (false||decide (a.length<8)):=by
 obtain ⟨q,r,i,n⟩:=h;refine ⟨jx,by rw [jh];omega,fun b t=>?_,fun d=>?_⟩
 .obtain ⟨l,c,o⟩:=i b jo;have f:8<=a.length:=by rw [c,jh];omega
  refine ⟨?_,by rw [c,List.drop_drop];congr 1,jx⟩;rw [Ly,Lw _ (GV _ _),O9 _ _ f,l,c,show 8 * (k+1)=8 * k+8 by omega,List.take_add]
 .by_cases m:s=true\/X.length<8 * k
  .exact absurd (n m) js
  .have b:s=false:=by cases s <;>simp_all
   have p:8 * k<=X.length:=by simp [b] at m;omega
   obtain ⟨l,c,o⟩:=i b p;rcases d with h|h
   .simp [b] at h
   .have:a.length<8:=by rw [c,jh];omega
    simp [this]
theorem Gb.stop {X:jz} {s:Bool} {k W:Nat} {a:jy} {b:jz} (h:Gb X s k a b true) (i:k<=W):Gb X s W a b true:=by
 obtain ⟨l,c,d,m⟩:=h;refine ⟨jo,c,fun f n=>?_,fun _=>rfl⟩;obtain ⟨_,_,g⟩:=d f jo;cases g
def Vx (p:Nat) (X:jz) (s:Bool) (W:Nat) (w:jj) (e:Ending) (w':jj):Prop:=∃a b c,e= .returned (.string (Ai a))/\Ab [p] w w'/\Rd p b c w'/\Gb X s W a b c
theorem Rl (p:Nat) (X:jz) (s:Bool) (W:Nat) (w:jj) (h:Rd p X s w) (hW:W<=1099511627776):
  Calls Tryz.prog 121 #[.pointer (some ⟨p,0,none⟩),.int .i64 (W:Int)] w (Vx p X s W w):=by
 obtain ⟨i0,hi,D,E,F⟩:=info_parts Tryz.infoU8;have hp:=h.lt;have HH:=jp h;clear h;go_enter Tryz.func121,Tryz.ntmps121;go_wp2;go_loopg [5,6] W (fun r v d wr=>∃(k:Nat) (b:jy) (f:jz) (o:Bool),r=W - k/\k<=W/\d= .int .i64 (k:Int)/\Ab [p] w wr/\Rd p f o wr/\b.length=k/\Gb X s k b f o/\wr.ownsRow w.heap.size 5 1 v b.length (b.map D6))
 case atStart=>exact ⟨0,[],X,s,rfl,jo,rfl,Ab.refl _ _,HH.out,rfl,⟨js,jo,fun h _=>by simp [Az,h],fun h=>by simpa using h⟩,World.ownsRow_nil _ _ _ _⟩
 case round=>
  obtain ⟨k,b,f,o,hr,aa,rfl,S,T,i,U,G⟩:=hrel;have B:=jp S;have C:=jp T;have H:=jp U;have V:=jp G;have Y:=jp i;have I:=LV G;obtain ⟨t,n, -, -, -,⟨c0,c1,c2⟩, -⟩:=T;clear S U G i c0 c1;by_cases ab:k<W
  .cases o
   .clear I;have q:=LN p _ _ 8 wr C.out jo
    have J:AD (BZ f 8)<256:=by
     have:=FG (BZ f 8);rw [GV] at this;exact this
    have HS:=jp H.out.step;have K:Hid (D6 (UInt8.ofNat (AD (BZ f 8)))= .int .u8 (AD (BZ f 8):Int)):=PO _ (GV _ _);generalize AD (BZ f 8)=x at *;go_wp2_with fail;refine q.mono ?_;rintro e L ⟨rfl,l,y⟩;have m:=jp (EP V.out l hp);have z:=jp (B.out.trans l);have A:=jp y;have ac:=z.out.size;have M:b.length<=W:=by have:=Y.out;omega
    clear l y q B C V c2;go_wp2_with (first|(at_builtin;refine wpList_append_own _ rfl _ _ 78 rfl w.heap.size 5 i0 (.int .u8 0) 1 1 Tryz.underlying78 hi D E F rfl ji _ b.length (b.map D6) rfl ?p1 ⟨L.heap.size,0,none⟩ 1 1 [.int .u8 (x:Int)] rfl rfl ?d1 ?d2 ?d3 ?d4 ?d5 ?_))
    case p1=>exact World.ownsRow.alloc m.out _
    try (case d1=>exact Fz _ _ _ _ js)
    case d2=>first|exact ⟨rfl,rfl⟩|(intro u Z;simp at Z;subst Z;rfl)
    case d3=>unfold maxLen;omega
    case d4=>omega
    case d5=>first|omega|(simp;omega)
    intro v5 N c a _;have O:=jp (Mt (z.out.alloc _) a (fun g hg=>(World.ownsRow.lt m.out g hg).1));have P:=A.out.lt;have Q:Hid (Rd p _ _ N):=(A.out.kept (w':=L.alloc _) (Aa.block (Aa.step_alloc (jD L) _) p P)).kept (a.block p jx (fun e=>by have:=(World.ownsRow.lt m.out p e.symm).1;omega))
    have R:Hid (N.ownsRow w.heap.size 5 1 v5 (b++[UInt8.ofNat x]).length ((b++[UInt8.ofNat x]).map D6)):=by
     show N.ownsRow _ _ _ _ _ _;rw [List.map_append,jO];simp only [List.map_cons,List.map_nil,K.out];exact c
    clear c a M;go_wp2;go_roundg (W - (k+1))
    case measure=>omega
    case rel=>exact ⟨k+1,_,_,_,rfl,jo,by go_num,O.out,Q.out,by simpa using Y.out,HS.out,R.out⟩
   .go_wp2;go_ret;exact ⟨b,f,true,rfl,B.out,C.out,H.out.stop jo⟩
  .go_wp2;go_ret;obtain rfl:k=W:=jo
   exact ⟨b,f,o,rfl,B.out,C.out,H.out⟩
theorem Uz (B:jz):∀a:Nat,B.foldl (fun a b=>2 * a+b.toNat) a=a * 2 ^ B.length+AD B:=by
 induction B with
 |nil=>intro a;simp [AD]
 |cons b B ih=>
  intro a
  have c:AD (b::B)=b.toNat * 2 ^ B.length+AD B:=by
   have:=ih (2 * 0+b.toNat);simpa [AD] using this
  rw [List.foldl_cons,ih,c,List.length_cons,Nat.pow_succ];rw [Nat.add_mul,Nat.mul_comm 2 a,Nat.mul_assoc,Nat.mul_comm 2 (2 ^ B.length)];omega
theorem Wq (A B:jz):AD (A++B)=AD A * 2 ^ B.length+AD B:=by
 rw [AD,List.foldl_append,Uz];rfl
theorem QT (b:UInt8) (n:Nat):AD ((BT b).drop n)=b.toNat % 2 ^ (8 - n):=by
 have f:AD (BT b)=b.toNat:=by rw [BT,M5];exact Nat.mod_eq_of_lt b.toNat_lt
 have g:BT b=(BT b).take n++(BT b).drop n:=(List.take_append_drop _ _).symm;have a:((BT b).drop n).length=8 - n:=by rw [jh,In]
 have c:=FG ((BT b).drop n);have d:=Wq ((BT b).take n) ((BT b).drop n);rw [<-g,f,a] at d;rw [a] at c;rw [d,Nat.add_comm,Nat.add_mul_mod_self_right,Nat.mod_eq_of_lt c]
def EL (X:jz) (s:Bool):Bool:=!s && decide (X.length<8) && decide (AD X=0)
theorem U9 (b:UInt8) (n:Nat) (c:n<=8):(((b.toNat:Int) * 2 ^ n % 256)==0)=decide (b.toNat % 2 ^ (8 - n)=0):=by
 have e:((b.toNat:Int) * 2 ^ n % 256)=((b.toNat * 2 ^ n % 256:Nat):Int):=js
 have a:(256:Nat)=2 ^ (8 - n) * 2 ^ n:=by rw [<-Nat.pow_add,show 8 - n+n=8 by omega]
 rw [e,a,Nat.mul_mod_mul_right];have d:0<2 ^ n:=Nat.two_pow_pos n;by_cases h:b.toNat % 2 ^ (8 - n)=0
 .simp [h]
 .have:b.toNat % 2 ^ (8 - n) * 2 ^ n≠0:=Nat.mul_ne_zero h jo;simp only [h,decide_false,jI];exact_mod_cast this
theorem S8 (p:Nat) (X:jz) (s:Bool) (w:jj) (h:Rd p X s w):
  Calls Tryz.prog 123 #[.pointer (some ⟨p,0,none⟩)] w (GX w (EL X s)):=by
 obtain ⟨t,n,u,m,d,⟨C,v,D⟩, -⟩:=h;have HX:=jp u;have z:=jp d;have b:Hid (X.length=8 * t.size - n):=by show X.length=_;rw [HX.out,jh,Bk,Array.length_toList];rfl
 clear u d;cases s
 rotate_left
 .go_enter Tryz.func123,Tryz.ntmps123;go_wp2;go_ret;exact ⟨rfl,jq⟩
 by_cases f:n=0
 .subst f;replace v:w.cell? ⟨p,1,none⟩=some (.int .u64 0):=v
  have a:Hid (EL X false=((t.size:Int)==0)):=by
   show EL X false=_;have x:=b.out;unfold EL;by_cases y:t.size=0
   .have:X=[]:=jS jo;rw [this];simp [y,AD]
   .have l:¬X.length<8:=jo
    have A:¬((t.size:Int)=0):=jo
    have o:((t.size:Int)==0)=false:=by rw [jI];exact A
    rw [o];simp [l]
  go_enter Tryz.func123,Tryz.ntmps123;go_wp2;go_ret;exact ⟨by rw [a.out];rfl,jq⟩
 .have B:(((n:Int))==0)=false:=by simp [f]
  by_cases l:t.size=1
  .have g:0<t.size:=jo
   have a:Hid (EL X false=(((t[0].toNat:Int) * 2 ^ n % 256)==0)):=by
    show EL X false=_;have x:=b.out;obtain ⟨rest,i, -⟩:=Oy t n m g
    have c:rest=[]:=by
     have:=congrArg List.length i;rw [Array.length_toList] at this;have o:t.data.size=1:=l;rw [o] at this;exact jS (by simpa using this)
    have k:X=(BT t[0]).drop n:=by rw [HX.out,i,c];simp [Az]
    have q:X.length<8:=jo
    unfold EL;rw [U9 _ _ jo,k,QT _ _,<-k];simp [q]
   have r:((t.size:Int)==1)=true:=by simp [l]
   go_enter Tryz.func123,Tryz.ntmps123;go_wp2_with fail;go_quiet (fail);go_wp2;go_ret;exact ⟨by rw [a.out];rfl,jq⟩
  .have a:Hid (EL X false=false):=by
    show EL X false=false;have x:=b.out;have y:=z.out;have:¬X.length<8:=jo
    unfold EL;simp [this]
   have r:((t.size:Int)==1)=false:=jx
   go_enter Tryz.func123,Tryz.ntmps123
   go_wp2_with fail
   go_quiet (fail)
   go_wp2
   go_ret
   exact ⟨by rw [a.out];rfl,jq⟩
def Wx (t:jt) (w:jj) (e:Ending) (w':jj):Prop:=e= .returned (.agg #[.string t,.int .u64 0,.bool false])/\Aa w w'
theorem JQ (t:jt) (w:jj):Calls Tryz.prog 120 #[.string t] w (Wx t w):=by
 go_enter Tryz.func120,Tryz.ntmps120;go_wp2;refine bodyPost_ret (v:= .agg #[.string t,.int .u64 0,.bool false]) (by simp [results,Tryz.results120,go_sem]) rfl ⟨rfl,jq⟩
theorem Rd.new {p:Nat} {t:jt} {w:jj} (a:w.cell? ⟨p,0,none⟩=some (.string t)) (b:w.cell? ⟨p,1,none⟩=some (.int .u64 0)) (c:w.cell? ⟨p,2,none⟩=some (.bool false)) (d:∀j,w.frozen? ⟨p,j,none⟩=false):Rd p (Az t.data.toList) false w:=
 ⟨t,0,js,jo,fun _=>rfl,⟨a,b,c⟩,d⟩
def Ic (c:BitVec 32):Nat->BitVec 32
 |0=>c
 |j+1=>EK (Ic c j)
theorem RF (c:BitVec 32) (b:UInt8):FD c b=Ic (c ^^^ BitVec.ofNat 32 b.toNat) 8:=rfl
theorem M8 (c:BitVec 32) (b:Nat):bits .xor .u32 (c.toNat:Int) ((b:Int) % 4294967296)=((c ^^^ BitVec.ofNat 32 b).toNat:Int):=by
 have e:((b:Int) % 4294967296)=((b % 4294967296:Nat):Int):=jo
 have a:=c.isLt;rw [e,u32_xor_nat _ _ jo jo,BitVec.toNat_xor,BitVec.toNat_ofNat]
theorem WR (y:BitVec 32):bits .xor .u32 ((y.toNat:Int) / 2) (3988292384 * bits .and .u32 (y.toNat:Int) 1 % 4294967296)=((EK y).toNat:Int):=by
 have f:=y.isLt;have a:((y.toNat:Int) / 2)=((y.toNat / 2:Nat):Int):=jo
 rw [show (1:Int)=((1:Nat):Int) from rfl,u32_and_nat _ _ jo jo,Nat.and_one_is_mod,a];have b:(3988292384 * ((y.toNat % 2:Nat):Int) % 4294967296)=((3988292384 * (y.toNat % 2):Nat):Int):=jo
 rw [b,u32_xor_nat _ _ jo jo];unfold EK;rw [BitVec.toNat_xor,BitVec.toNat_ushiftRight,Nat.shiftRight_eq_div_pow]
 have c:(if y.getLsbD 0 then 0xEDB88320#32 else 0#32).toNat=3988292384 * (y.toNat % 2):=by
  have d:y.getLsbD 0=(y.toNat % 2==1):=by
   rw [BitVec.getLsbD,Nat.testBit_zero];rcases Nat.mod_two_eq_zero_or_one y.toNat with h|h <;>simp [h]
  rw [d];rcases Nat.mod_two_eq_zero_or_one y.toNat with h|h <;>simp [h]
 rw [c]
theorem Ql (l:jy) (k:Nat) (a:k<l.length) (c:BitVec 32):(l.take (k+1)).foldl FD c=FD ((l.take k).foldl FD c) l[k]:=by
 rw [jQ a,List.foldl_append];rfl
def CB (l:jy):BitVec 32:=l.foldl FD 0xFFFFFFFF#32 ^^^ 0xFFFFFFFF#32
def Sj (w:jj) (x:BitVec 32) (e:Ending) (w':jj):Prop:=e= .returned (.int .u32 (x.toNat:Int))/\w=w'
theorem PU (t:jt) (w:jj) (n:t.size<=1099511627776):
  Calls Tryz.prog 187 #[.string t] w (Sj w (CB t.data.toList)):=by
 have g:Hid (t.data.toList.length=t.size):=by show _=_;rw [Array.length_toList];rfl
 go_enter Tryz.func187,Tryz.ntmps187;go_wp2;go_loopg [3,4] t.size (fun r x d wr=>w=wr/\∃k:Nat,r=t.size - k/\k<=t.size/\x= .int .u32 (((t.data.toList.take k).foldl FD 0xFFFFFFFF#32).toNat:Int)/\d= .int .i64 (k:Int))
 case atStart=>exact ⟨rfl,0,rfl,jo,rfl,rfl⟩
 case round=>
  obtain ⟨rfl,k,o,p,rfl,rfl⟩:=hrel;by_cases a:k<t.size
  .have b:Hid ((t.data.toList.take (k+1)).foldl FD 0xFFFFFFFF#32=FD ((t.data.toList.take k).foldl FD 0xFFFFFFFF#32) (t[k]'a)):=Ql t.data.toList k (by rw [g.out];exact a) _;generalize (t.data.toList.take k).foldl FD 0xFFFFFFFF#32=c at *;go_wp2;go_loopg [3,5] 8 (fun r x d wr=>w=wr/\∃j:Nat,r=8 - j/\j<=8/\x= .int .u32 ((Ic (c ^^^ BitVec.ofNat 32 (t[k]'a).toNat) j).toNat:Int)/\d= .int .i64 (j:Int))
   case atStart=>exact ⟨rfl,0,rfl,jo,by rw [M8];rfl,rfl⟩
   case round=>
    obtain ⟨rfl,j,i,q,rfl,rfl⟩:=hrel;by_cases l:j<8
    .have f:Hid (Ic (c ^^^ BitVec.ofNat 32 (t[k]'a).toNat) (j+1)=EK (Ic (c ^^^ BitVec.ofNat 32 (t[k]'a).toNat) j)):=rfl;generalize Ic (c ^^^ BitVec.ofNat 32 (t[k]'a).toNat) j=y at *;go_wp2;go_roundg (8 - (j+1))
     case measure=>omega
     case rel=>exact ⟨rfl,j+1,rfl,jo,by rw [WR,f.out],by go_num⟩
    .obtain rfl:j=8:=jo
     rw [<-RF,<-b.out];go_wp2;go_roundg (t.size - (k+1))
     case measure=>omega
     case rel=>exact ⟨rfl,k+1,rfl,jo,rfl,by go_num⟩
  .have m:Hid (t.data.toList.take k=t.data.toList):=jR (by rw [g.out];omega);go_wp2;go_ret;refine ⟨?_,rfl⟩;show Ending.returned (.int .u32 (bits .xor .u32 _ 4294967295))=_;have:=M8 ((t.data.toList.take k).foldl FD 0xFFFFFFFF#32) 4294967295;rw [show (((4294967295:Nat):Int) % 4294967296)=4294967295 from rfl] at this;rw [this,m.out];rfl
def Kj (a b c d:Int):ByteArray:=⟨#[UInt8.ofNat a.toNat,UInt8.ofNat b.toNat,UInt8.ofNat c.toNat,UInt8.ofNat d.toNat]⟩
theorem SA (w:jj) (a b c d:Int):(convert 78 9 (.slice (some ⟨w.heap.size,0,none⟩) 4 4)).run Tryz.prog (w.alloc (.cells #[.int .u8 a,.int .u8 b,.int .u8 c,.int .u8 d] 5))= .ok (.string (Kj a b c d)) (w.alloc (.cells #[.int .u8 a,.int .u8 b,.int .u8 c,.int .u8 d] 5)):=by
 rw [run_convert_bytes_string _ 78 9 5 _ 4 4 Tryz.underlying78 Tryz.underlying5 Tryz.underlying9];rw [run_bytesToString _ _ 4 4 [a,b,c,d] (by simp [loadCells,loadCellsFrom,go_sem])];rfl
def Cn (x:BitVec 32):List UInt8:=[UInt8.ofNat x.toNat,UInt8.ofNat (x.toNat / 256),UInt8.ofNat (x.toNat / 65536),UInt8.ofNat (x.toNat / 16777216)]
theorem MH (n:Nat):UInt8.ofNat ((n:Int) % 256).toNat=UInt8.ofNat n:=by
 have:((n:Int) % 256).toNat=n % 256:=jo
 rw [this];apply UInt8.toNat_inj.1;simp
theorem Vi (x:BitVec 32):Kj ((x.toNat:Int) % 256) ((x.toNat:Int) / 256 % 256) ((x.toNat:Int) / 65536 % 256) ((x.toNat:Int) / 16777216)=Ai (Cn x):=by
 have c:=MH x.toNat;have a:=MH (x.toNat / 256);have b:=MH (x.toNat / 65536);rw [show ((x.toNat / 256:Nat):Int)=(x.toNat:Int) / 256 by omega] at a;rw [show ((x.toNat / 65536:Nat):Int)=(x.toNat:Int) / 65536 by omega] at b;have d:((x.toNat:Int) / 16777216).toNat=x.toNat / 16777216:=jo
 unfold Kj Ai Cn;rw [c,a,b,d]
def DE (w:jj) (l:jy) (e:Ending) (w':jj):Prop:=e= .returned (.string (Ai l))/\Aa w w'
theorem Nf (t:jt) (w:jj) (b:t.size<=1099511627776):
  Calls Tryz.prog 170 #[.string t] w (DE w (Cn (CB t.data.toList))):=by
 have a:=PU t w b;have c:=SA w;generalize CB t.data.toList=x at *;go_enter Tryz.func170,Tryz.ntmps170;go_wp2_with fail;refine a.mono ?_;rintro e d ⟨rfl,rfl⟩;have hx:=x.isLt;clear a;go_wp2;go_ret;refine ⟨?_,jq⟩;show Ending.returned (.string (Kj _ _ _ _))=_;rw [Vi]
theorem Jd (t:jt) (w:jj) (b:t.size<=1099511627776):
  Calls Tryz.prog 130 #[.string t] w (DE w (t.data.toList++Cn (CB t.data.toList))):=by
 have a:=Nf t w b;have c:(Ai (Cn (CB t.data.toList))).size=4:=rfl
 have d:Hid (t++Ai (Cn (CB t.data.toList))=Ai (t.data.toList++Cn (CB t.data.toList))):=by
  show _=_;apply ByteArray.ext;simp [Ai]
 unfold DE at a;generalize Ai (Cn (CB t.data.toList))=y at *;go_enter Tryz.func130,Tryz.ntmps130;go_wp2_with fail;refine a.mono ?_;rintro e g ⟨rfl,f⟩;clear a;go_wp2;go_ret;exact ⟨by rw [<-d.out];rfl,f⟩
def CQ (l:jy):Option (List UInt8):=if l.length<=4 then none else if l.drop (l.length - 4)=Cn (CB (l.take (l.length - 4))) then some (l.take (l.length - 4)) else none
def Gr:Option (List UInt8)->Value
 |some b=> .tuple #[.string (Ai b),.bool true]
 |none=> .tuple #[.string ByteArray.empty,.bool false]
def Ga (w:jj) (o:Option (List UInt8)) (e:Ending) (w':jj):Prop:=e= .returned (Gr o)/\Aa w w'
theorem Kr (t:jt) (i j:Nat):(t.extract i j).data.toList=(t.data.toList.drop i).take (j - i):=by
 rw [ByteArray.data_extract,Array.toList_extract,List.extract_eq_take_drop]
theorem GT (t:jt) (w:jj) (u:t.size<=1099511627776):
  Calls Tryz.prog 119 #[.string t] w (Ga w (CQ t.data.toList)):=by
 have d:Hid (t.data.toList.length=t.size):=by show _=_;rw [Array.length_toList];rfl
 by_cases f:t.size<=4
 .go_enter Tryz.func119,Tryz.ntmps119;go_wp2;go_ret2;refine ⟨?_,jq⟩;unfold CQ;rw [d.out,if_pos f];rfl
 .have c:=fun m=>Nf (t.extract 0 (t.size - 4)) m jx
  have a:Hid ((t.extract 0 (t.size - 4)).data.toList=t.data.toList.take (t.size - 4)):=by show _=_;rw [Kr];simp
  have b:Hid ((t.extract (t.size - 4) t.size).data.toList=t.data.toList.drop (t.size - 4)):=by
   show _=_;rw [Kr];exact jR (by rw [jh,d.out];omega)
  rw [a.out] at c;unfold DE at c;obtain ⟨y,i⟩:∃y,y=Ai (Cn (CB (t.data.toList.take (t.size - 4)))):=⟨_,rfl⟩;rw [<-i] at c;have l:=jp i;clear i;go_enter Tryz.func119,Tryz.ntmps119;go_wp2_with fail;have n:IntKind.i64.wrap ((t.size:Int) - 4)=(t.size:Int) - 4:=by rw [IntKind.wrap_i64];omega
  have o:(0:Int)<=(t.size:Int) - 4:=jo
  have p:(t.size:Int) - 4<=(t.size:Int):=jo
  have q:((t.size:Int) - 4).toNat=t.size - 4:=jo
  obtain ⟨g,r⟩:∃g:Bool,((t.extract (t.size - 4) t.size).toList==y.toList)=g:=⟨_,rfl⟩
  have k:Hid ((g=true)↔t.data.toList.drop (t.size - 4)=Cn (CB (t.data.toList.take (t.size - 4)))):=by
   show _↔_;rw [<-r];refine FE.trans ⟨fun e=>?_,fun e=>?_⟩
   .have:=congrArg (fun z=>z.data.toList) e;rw [b.out,l.out] at this;exact this
   .apply ByteArray.ext;apply Array.toList_inj.1;rw [b.out,l.out];exact e
  go_region_with (go_at_call 170;refine (c _).mono ?_;rintro e v ⟨rfl,s⟩)
  all_goals
   cases g
   .go_wp2;go_ret2;refine ⟨?_,jq⟩;unfold CQ;rw [d.out,if_neg f,if_neg (fun e=>by have:=k.out.2 e;cases this)];rfl
   .go_wp2;go_ret2;refine ⟨?_,jq⟩;unfold CQ;rw [d.out,if_neg f,if_pos (by first|exact k.out.1 rfl|exact k.out.1 trivial),<-a.out];rfl
def countP (n:Nat):Nat:=(n+48 - 1) / 48
def YJ (n:Nat) (w:jj) (e:Ending) (w':jj):Prop:=e= .returned (.int .i64 (n:Int))/\w=w'
theorem O2 (t:jt) (w:jj) (b:t.size<=1099511627776):Calls Tryz.prog 125 #[.string t] w (YJ (countP t.size) w):=by
 have a:Hid ((countP t.size:Int)=((t.size:Int)+48 - 1) / 48):=by
  show _=_;unfold countP;omega
 go_enter Tryz.func125,Tryz.ntmps125;go_wp2;go_ret;exact ⟨by rw [a.out];rfl,rfl⟩
theorem OG (t:jt):t=Ai t.data.toList:=by apply ByteArray.ext;simp [Ai]
def Fm (l:jy) (n:Int):List UInt8:=if n<0 then [] else (l.drop (48 * n.toNat)).take 48
def Qf (l:jy) (w:jj) (e:Ending) (w':jj):Prop:=e= .returned (.string (Ai l))/\Aa w w'
theorem Sk (t:jt) (n:Int) (w:jj) (m:t.size<=1099511627776):Calls Tryz.prog 126 #[.string t,.int .i64 n] w (Qf (Fm t.data.toList n) w):=by
 have f:Hid (t.data.toList.length=t.size):=by show _=_;rw [Array.length_toList];rfl
 have a:=O2 t w m;by_cases g:n<0
 .go_enter Tryz.func126,Tryz.ntmps126;go_wp2;go_ret;exact ⟨by rw [Fm,if_pos g];rfl,jq⟩
 .obtain ⟨k,rfl⟩:∃k:Nat,n=(k:Int):=⟨n.toNat,jo⟩;have hcut:Hid (Fm t.data.toList (k:Int)=(t.data.toList.drop (48 * k)).take 48):=by show _=_;rw [Fm,if_neg g];rfl
  have b:countP t.size=(t.size+48 - 1) / 48:=rfl;have i:=jp b;generalize countP t.size=c at *;clear b;by_cases p:c<=k
  .have d:Hid ((t.data.toList.drop (48 * k)).take 48=[]):=by
    show _=_;have:=i.out;rw [List.drop_of_length_le (by rw [f.out];omega)];rfl
   go_enter Tryz.func126,Tryz.ntmps126
   go_wp2_with fail
   refine a.mono ?_
   rintro e l ⟨rfl,rfl⟩
   clear a
   go_wp2
   go_ret
   exact ⟨by rw [hcut.out,d.out];rfl,jq⟩
  .have o:48 * k<t.size:=by have:=i.out;omega
   have q:k<=1099511627776:=jo
   by_cases r:48 * k+48>t.size
   .go_enter Tryz.func126,Tryz.ntmps126;go_wp2_with fail;refine a.mono ?_;rintro e l ⟨rfl,rfl⟩;clear a;go_wp2;go_ret;refine ⟨?_,jq⟩;rw [hcut.out];show Ending.returned (.string (t.extract (k * 48) t.size))=_;rw [OG (t.extract (k * 48) t.size),Kr,Nat.mul_comm k 48,jR (by rw [jh,f.out];omega),jR (by rw [jh,f.out];omega)]
   .go_enter Tryz.func126,Tryz.ntmps126;go_wp2_with fail;refine a.mono ?_;rintro e l ⟨rfl,rfl⟩;clear a;go_wp2;go_ret;refine ⟨?_,jq⟩;rw [hcut.out];show Ending.returned (.string (t.extract (k * 48) (k * 48+48)))=_;rw [OG (t.extract (k * 48) (k * 48+48)),Kr,Nat.mul_comm k 48,show 48 * k+48 - 48 * k=48 by omega]
theorem Bb.new (a:jj) (b:TypeId):Bb (fun _=>none) a a.heap.size [] (a.alloc (.cells #[.slice none 0 0,.int .u8 0,.int .u64 0] b)):=
 ⟨(jD a).step_alloc _,jH _,.slice none 0 0,[],[],rfl,js,⟨js,by simp [AD],js⟩,fun j=>by simp,World.ownsRow_nil _ _ _ _,by simp [Value.ownBlock],fun k o h=>by cases h⟩
theorem Fs (l:jy):(Ai l).data.toList=l:=by simp [Ai]
theorem Gi:∀(n:Nat) (L:jz),L.length<=n->(AK L).length<=L.length:=by
 intro n
 induction n with
 |zero=>intro L h;rw [jS (by omega:L.length=0)];simp [AK]
 |succ n ih=>
  intro L h;by_cases a:L.length<8
  .by_cases b:0<L.length
   .rw [MX L b a];simp;omega
   .rw [jS (by omega:L.length=0)];simp [AK]
  .have c:(L.take 8).length=8:=by rw [jk];omega
   have e:L=BT (UInt8.ofNat (AD (L.take 8)))++L.drop 8:=by rw [Lw _ c,List.take_append_drop]
   have d:(L.drop 8).length=L.length - 8:=jh;have:=ih (L.drop 8) jo;rw [e,Nn,List.length_cons,<-e];omega
def DL (h f c m n:Nat):List Bool:=((((([]++Az [81])++Ax h (8 * 4))++Ax f (8 * 1))++Ax c (8 * 4))++Ax m (8 * 1))++Ax n (8 * 2)
theorem NR (h f c m n:Nat):(DL h f c m n).length=104:=by simp [DL,Bd,Bk]
theorem SF (h f c m n:Nat) (w:jj) (T:h<=4611686018427387904) (U:f<=4611686018427387904) (V:c<=4611686018427387904) (W:m<=4611686018427387904) (X:n<=4611686018427387904):
  Calls Tryz.prog 133 #[.agg #[.int .i64 (h:Int),.int .i64 (f:Int),.int .i64 (c:Int),.int .i64 (m:Int),.int .i64 (n:Int)]] w (DE w (AK (DL h f c m n)++Cn (CB (AK (DL h f c m n))))):=by
 obtain ⟨a,b⟩:∃a,a=w.alloc (.cells #[.int .i64 (h:Int),.int .i64 (f:Int),.int .i64 (c:Int),.int .i64 (m:Int),.int .i64 (n:Int)] 105):=⟨_,rfl⟩;have z:a.heap.size=w.heap.size+1:=by rw [b];simp
 have A:Aa w a:=by rw [b];exact (jD w).step_alloc _
 have F:a.cell? ⟨w.heap.size,0,none⟩=some (.int .i64 (h:Int)):=by rw [b];simp
 have G:a.cell? ⟨w.heap.size,1,none⟩=some (.int .i64 (f:Int)):=by rw [b];simp
 have H:a.cell? ⟨w.heap.size,2,none⟩=some (.int .i64 (c:Int)):=by rw [b];simp
 have I:a.cell? ⟨w.heap.size,3,none⟩=some (.int .i64 (m:Int)):=by rw [b];simp
 have J:a.cell? ⟨w.heap.size,4,none⟩=some (.int .i64 (n:Int)):=by rw [b];simp
 have g:=Bb.new a 166;rw [z] at g;have K:=jp (Gh a (w.heap.size+1) [] ⟨#[81]⟩ _ g (by simp [ByteArray.size]));clear g;go_enter Tryz.func133,Tryz.ntmps133;go_wp2_with fail;rw [<-b];refine K.out.mono ?_;rintro e w1 ⟨rfl,i⟩;clear K;have q:=i.1;have L:=jp (Cb a (w.heap.size+1) _ h 4 _ i (by simp [Bk]) jo T);have Y:=q.cell F;clear i;go_wp2_with fail;refine L.out.mono ?_;rintro e w2 ⟨rfl,k⟩;clear L Y q;have r:=k.1;have M:=jp (Cb a (w.heap.size+1) _ f 1 _ k (by simp [Bk,Bd]) jo U);have Z:=r.cell G;clear k;go_wp2_with fail;refine M.out.mono ?_;rintro e w3 ⟨rfl,l⟩;clear M Z r;have s:=l.1;have N:=jp (Cb a (w.heap.size+1) _ c 4 _ l (by simp [Bk,Bd]) jo V);have a2:=s.cell H;clear l;go_wp2_with fail;refine N.out.mono ?_;rintro e w4 ⟨rfl,o⟩;clear N a2 s;have t:=o.1;have O:=jp (Cb a (w.heap.size+1) _ m 1 _ o (by simp [Bk,Bd]) jo W);have a3:=t.cell I;clear o;go_wp2_with fail;refine O.out.mono ?_;rintro e w5 ⟨rfl,p⟩;clear O a3 t;have u:=p.1;have P:=jp (Cb a (w.heap.size+1) _ n 2 _ p (by simp [Bk,Bd]) jo X);have a4:=u.cell J;clear p;go_wp2_with fail;refine P.out.mono ?_;rintro e w6 ⟨rfl,v⟩;clear P a4 u;have d:Bb (fun _=>none) a (w.heap.size+1) (DL h f c m n) w6:=v;have Q:=jp (Ij a (w.heap.size+1) _ _ d (by rw [NR];omega));clear v d;go_wp2_with fail;refine Q.out.mono ?_;rintro e w7 ⟨rfl,x⟩;clear Q;have C:=jp (A.trans x.1);have R:(AK (DL h f c m n)).length<=104:=by have:=Gi _ (DL h f c m n) (jH _);rw [NR] at this;exact this
 have D:=Jd (Ai (AK (DL h f c m n))) w7 (by simp [Ai,ByteArray.size];omega);rw [Fs] at D;generalize AK (DL h f c m n)=B at *;have S:=jp D;clear D x F G H I J;go_wp2_with fail;refine S.out.mono ?_;rintro e w8 ⟨rfl,y⟩;have E:=jp (C.out.trans y);clear S y;go_wp2;go_ret;exact ⟨rfl,E.out⟩
theorem De (n l m:Int) (w:jj) (a:l<=n) (b:n<=m):
  Calls Tryz.prog 47 #[.int .i64 n,.int .i64 l,.int .i64 m] w fun e w'=>e= .returned (.bool true)/\w=w':=by
 go_enter Tryz.func47,Tryz.ntmps47;go_wp2;go_ret;exact ⟨rfl,rfl⟩
theorem G5 (n l m:Int) (w:jj) (h:¬(l<=n/\n<=m)):
  Calls Tryz.prog 47 #[.int .i64 n,.int .i64 l,.int .i64 m] w fun e w'=>e= .returned (.bool false)/\w=w':=by
 by_cases b:l<=n
 .have a:¬n<=m:=fun a=>h ⟨b,a⟩
  clear h;go_enter Tryz.func47,Tryz.ntmps47;go_wp2;go_ret;exact ⟨rfl,rfl⟩
 .clear h;go_enter Tryz.func47,Tryz.ntmps47;go_wp2;go_ret;exact ⟨rfl,rfl⟩
def SW (n:Int) (w:jj) (e:Ending) (w':jj):Prop:=∃x,e= .returned (.bool x)/\w=w'/\Co (∀d:Nat,2<=d->(d:Int)<n->n % d≠0) x
theorem Jo (n:Int) (w:jj) (b:3<=n) (c:n<=211):
  Calls Tryz.prog 85 #[.int .i64 n] w (SW n w):=by
 go_enter Tryz.func85,Tryz.ntmps85;go_wp2;go_loopg [3] 209 (fun r d wr=>w=wr/\∃k:Nat,r=211 - k/\2<=k/\(k:Int)<=n/\d= .int .i64 k/\∀e:Nat,2<=e->e<k->n % e≠0)
 case atStart=>exact ⟨rfl,2,jo,jo,jo,rfl,fun e b c=>by omega⟩
 case round=>
  obtain ⟨rfl,k,p,f,m,rfl,a⟩:=hrel;have i:Hid (∀e:Nat,2<=e->e<k->n % e≠0):=a;clear a;by_cases g:(k:Int)<n
  .cases l:(n % (k:Int)==0)
   .go_wp2;go_roundg (211 - (k+1))
    case measure=>omega
    case rel => exact ⟨rfl, k + 1, rfl, jo, jo, by go_num, fun e b c => by
      by_cases o : e = k
      . subst o; simpa using l
      . exact i.out e b jo⟩
   .go_wp2;go_ret;exact ⟨_,rfl,rfl,⟨fun h=>(by cases h),fun h=>absurd (by simpa using l) (h k f g)⟩⟩
  .go_wp2;go_ret;exact ⟨_,rfl,rfl,⟨fun _ d b c=>i.out d b jo,fun _=>rfl⟩⟩
def Ac.TOK (c:Ac):Prop:=1<=c.alg/\c.alg<=4/\3<=c.slots/\c.slots<=211/\(∀d:Nat,2<=d->(d:Int)<c.slots->c.slots % d≠0)/\1<=c.points/\c.points<=3/\1<=c.probes/\c.probes<=5/\c.key.size=16
theorem Ac.ok_iff (c:Ac):c.OK↔c.TOK/\1<=c.formats/\c.formats<=3:=
 ⟨fun ⟨f,g,i,k,l,m,n,o,p,a,b,d⟩=>⟨⟨f,g,i,k,l,m,n,o,p,a⟩,b,d⟩,fun ⟨⟨f,g,i,k,l,m,n,o,p,a⟩,b,d⟩=>⟨f,g,i,k,l,m,n,o,p,a,b,d⟩⟩
theorem OT (c:Ac) (w:jj):
  Calls Tryz.prog 45 #[.agg c.cells] w (Ew w (Co c.TOK)):=by
 obtain ⟨alg,b,l,m,key,v⟩:=c;simp only [Ac.cells];by_cases n:1<=alg/\alg<=4
 rotate_left
 .go_enter Tryz.func45,Tryz.ntmps45;go_wp2_with fail;refine (G5 _ _ _ _ n).mono ?_;rintro e w' ⟨rfl,rfl⟩;go_wp2;go_ret;exact ⟨_,rfl,jq,⟨fun h=>(by cases h),fun h=>absurd ⟨h.1,h.2.1⟩ n⟩⟩
 obtain ⟨y,z⟩:=n;by_cases i:3<=b/\b<=211
 rotate_left
 .go_enter Tryz.func45,Tryz.ntmps45;go_wp2_with fail;refine (De _ _ _ _ jo jo).mono ?_;rintro e w' ⟨rfl,rfl⟩;go_wp2_with fail;refine (G5 _ _ _ _ i).mono ?_;rintro e w' ⟨rfl,rfl⟩;go_wp2;go_ret;exact ⟨_,rfl,jq,⟨fun h=>(by cases h),fun h=>absurd ⟨h.2.2.1,h.2.2.2.1⟩ i⟩⟩
 obtain ⟨s,t⟩:=i;by_cases a:∀d:Nat,2<=d->(d:Int)<b->b % d≠0
 rotate_left
 .go_enter Tryz.func45,Tryz.ntmps45;go_wp2_with fail;refine (De _ _ _ _ jo jo).mono ?_;rintro e w' ⟨rfl,rfl⟩;go_wp2_with fail;refine (De _ _ _ _ jo jo).mono ?_;rintro e w' ⟨rfl,rfl⟩;go_wp2_with fail;refine (Jo _ _ jo jo).mono ?_;rintro e w' ⟨x,rfl,rfl,hx⟩;have A:x=false:=by cases x;rfl;exact absurd (hx.1 rfl) a
  subst A;clear hx;go_wp2;go_ret;exact ⟨_,rfl,jq,⟨fun h=>(by cases h),fun h=>absurd h.2.2.2.2.1 a⟩⟩
 replace a:Hid (∀d:Nat,2<=d->(d:Int)<b->b % d≠0):=a;by_cases f:1<=l/\l<=3
 rotate_left
 .go_enter Tryz.func45,Tryz.ntmps45;go_wp2_with fail;refine (De _ _ _ _ jo jo).mono ?_;rintro e w' ⟨rfl,rfl⟩;go_wp2_with fail;refine (De _ _ _ _ jo jo).mono ?_;rintro e w' ⟨rfl,rfl⟩;go_wp2_with fail;refine (Jo _ _ jo jo).mono ?_;rintro e w' ⟨x,rfl,rfl,hx⟩;have k:x=true:=hx.2 a.out;subst k;clear hx;go_wp2_with fail;refine (G5 _ _ _ _ f).mono ?_;rintro e w' ⟨rfl,rfl⟩;go_wp2;go_ret;exact ⟨_,rfl,jq,⟨fun h=>(by cases h),fun h=>absurd ⟨h.2.2.2.2.2.1,h.2.2.2.2.2.2.1⟩ f⟩⟩
 obtain ⟨o,p⟩:=f;by_cases g:1<=m/\m<=5
 rotate_left
 .go_enter Tryz.func45,Tryz.ntmps45;go_wp2_with fail;refine (De _ _ _ _ jo jo).mono ?_;rintro e w' ⟨rfl,rfl⟩;go_wp2_with fail;refine (De _ _ _ _ jo jo).mono ?_;rintro e w' ⟨rfl,rfl⟩;go_wp2_with fail;refine (Jo _ _ jo jo).mono ?_;rintro e w' ⟨x,rfl,rfl,hx⟩;have k:x=true:=hx.2 a.out;subst k;clear hx;go_wp2_with fail;refine (De _ _ _ _ jo jo).mono ?_;rintro e w' ⟨rfl,rfl⟩;go_wp2_with fail;refine (G5 _ _ _ _ g).mono ?_;rintro e w' ⟨rfl,rfl⟩;go_wp2;go_ret;exact ⟨_,rfl,jq,⟨fun h=>(by cases h),fun h=>absurd ⟨h.2.2.2.2.2.2.2.1,h.2.2.2.2.2.2.2.2.1⟩ g⟩⟩
 obtain ⟨q,r⟩:=g;by_cases u:key.size=16
 rotate_left
 .have B:((key.size:Int)==16)=false:=by rw [jI];omega
  go_enter Tryz.func45,Tryz.ntmps45;go_wp2_with fail;refine (De _ _ _ _ jo jo).mono ?_;rintro e w' ⟨rfl,rfl⟩;go_wp2_with fail;refine (De _ _ _ _ jo jo).mono ?_;rintro e w' ⟨rfl,rfl⟩;go_wp2_with fail;refine (Jo _ _ jo jo).mono ?_;rintro e w' ⟨x,rfl,rfl,hx⟩;have k:x=true:=hx.2 a.out;subst k;clear hx;go_wp2_with fail;refine (De _ _ _ _ jo jo).mono ?_;rintro e w' ⟨rfl,rfl⟩;go_wp2_with fail;refine (De _ _ _ _ jo jo).mono ?_;rintro e w' ⟨rfl,rfl⟩;go_wp2;go_ret;exact ⟨_,rfl,jq,⟨fun h=>(by cases h),fun h=>absurd h.2.2.2.2.2.2.2.2.2 u⟩⟩
 go_enter Tryz.func45,Tryz.ntmps45;go_wp2_with fail;refine (De _ _ _ _ jo jo).mono ?_;rintro e w' ⟨rfl,rfl⟩;go_wp2_with fail;refine (De _ _ _ _ jo jo).mono ?_;rintro e w' ⟨rfl,rfl⟩;go_wp2_with fail;refine (Jo _ _ jo jo).mono ?_;rintro e w' ⟨x,rfl,rfl,hx⟩;have k:x=true:=hx.2 a.out;subst k;clear hx;go_wp2_with fail;refine (De _ _ _ _ jo jo).mono ?_;rintro e w' ⟨rfl,rfl⟩;go_wp2_with fail;refine (De _ _ _ _ jo jo).mono ?_;rintro e w' ⟨rfl,rfl⟩;go_wp2;go_ret;exact ⟨_,rfl,jq,⟨fun _=>⟨y,z,s,t,a.out,o,p,q,r,u⟩,fun _=>rfl⟩⟩
def Hd (n l m:Int):Prop:=l<=n/\n<=m
theorem L9 (n l m:Int) (w:jj):Calls Tryz.prog 47 #[.int .i64 n,.int .i64 l,.int .i64 m] w fun e w'=>∃x:Bool,e= .returned (.bool x)/\w=w'/\Co (Hd n l m) x:=by
 by_cases h:l<=n/\n<=m
 .refine (De n l m w h.1 h.2).mono ?_;rintro e w' ⟨rfl,rfl⟩;exact ⟨true,rfl,rfl,⟨fun _=>h,fun _=>rfl⟩⟩
 .refine (G5 n l m w h).mono ?_;rintro e w' ⟨rfl,rfl⟩;exact ⟨false,rfl,rfl,⟨fun e=>(by cases e),fun e=>absurd e h⟩⟩
def Mc (n l m:Int) (w:jj) (e:Ending) (w':jj):Prop:=∃x:Bool,e= .returned (.bool x)/\w=w'/\Co (Hd n l m) x
theorem Kx (n:Int) (w:jj):Calls Tryz.prog 46 #[.int .i64 n] w (Mc n 1 3 w):=by
 go_enter Tryz.func46,Tryz.ntmps46;go_wp2_with fail;refine (L9 n 1 3 _).mono ?_;rintro e a ⟨x,rfl,rfl,hx⟩;have HX:=jp hx;clear hx;go_wp2;go_ret;exact ⟨_,rfl,rfl,HX.out⟩
theorem Pb (n:Int) (w:jj):Calls Tryz.prog 112 #[.int .i64 n] w (Mc n 1 2 w):=by
 go_enter Tryz.func112,Tryz.ntmps112;go_wp2_with fail;refine (L9 n 1 2 _).mono ?_;rintro e a ⟨x,rfl,rfl,hx⟩;have HX:=jp hx;clear hx;go_wp2;go_ret;exact ⟨_,rfl,rfl,HX.out⟩
theorem RP (n:Int) (w:jj):Calls Tryz.prog 183 #[.int .i64 n] w (Mc n 1 1073741824 w):=by
 go_enter Tryz.func183,Tryz.ntmps183;go_wp2_with fail;refine (L9 n 1 1073741824 _).mono ?_;rintro e a ⟨x,rfl,rfl,hx⟩;have HX:=jp hx;clear hx;go_wp2;go_ret;exact ⟨_,rfl,rfl,HX.out⟩
theorem OI (c:Ac) (w:jj):
  Calls Tryz.prog 24 #[.agg c.cells] w (Ew w (Co c.OK)):=by
 have b:=fun o=>OT c o
 have d:=jp c.ok_iff;have g:=fun o=>Kx c.formats o
 obtain ⟨A,i⟩:∃P,P=c.TOK:=⟨_,rfl⟩;obtain ⟨r,k⟩:∃P,P=c.OK:=⟨_,rfl⟩;rw [<-i] at b d;rw [<-k] at d |-;clear i k;obtain ⟨alg,p,m,n,key,a⟩:=c;simp only [Ac.cells] at *;go_enter Tryz.func24,Tryz.ntmps24;go_wp2_with fail;refine (b _).mono ?_;rintro e s ⟨x,rfl,f,hx⟩;have B:s.cell? ⟨w.heap.size,5,none⟩=some (.int .i64 a):=f.cell js;have l:Aa w s:=(Aa.step_alloc (jD w) _).trans f;clear b f;cases x
 .have t:¬r:=fun h=>by have:=hx.2 (d.out.1 h).1;cases this
  have v:=jp t;clear hx t d;go_wp2;go_ret;exact ⟨_,rfl,l,⟨fun h=>(by cases h),fun h=>absurd h v.out⟩⟩
 .have u:=jp (hx.1 rfl);clear hx;go_wp2_with fail;refine (g _).mono ?_;rintro e C ⟨y,rfl,rfl,q⟩;have z:Hid (Co r y):=⟨fun h=>d.out.2 ⟨u.out,q.1 h⟩,fun h=>q.2 (d.out.1 h).2⟩;clear q g d u;go_wp2;go_ret;exact ⟨_,rfl,l,z.out⟩
end Go.Proofs.YtpapdkhjdelfcaaGreat
