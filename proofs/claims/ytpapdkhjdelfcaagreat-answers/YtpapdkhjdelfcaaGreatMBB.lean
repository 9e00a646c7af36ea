import Derived.Test.YtpapdkhjdelfcaaGreatMAJ
import Derived.Test.YtpapdkhjdelfcaaGreatMBA
namespace Go.Proofs.YtpapdkhjdelfcaaGreat
open Go.RowKit
set_option maxRecDepth 100000
set_option maxHeartbeats 4000000
theorem KH:GP ⟨#[52,49,50,50]⟩:=IH [52,49,50,50] ji
theorem Aj.four {a b c d:Int} (f:Aj a) (g:Aj b) (i:Aj c) (k:Aj d):∀t,Aj ([a,b,c,d].getD t 0):=by
 intro t
 match t with
 |0=>exact f
 |1=>exact g
 |2=>exact i
 |3=>exact k
 |_+4=>exact (show Aj 0 from ⟨ji,ji⟩)
def DF (v:Int):Nat->ByteArray
 |0=>ByteArray.empty
 |n+1=>DF (v / 256) n++BH (v % 256)
def TQ (t s:jt):Prop:=s=t
theorem Ka (v:Int) (n:Nat) (w:jj) (f: -9223372036854775808<=v) (c:v<=9223372036854775807) (g:n<=100):
  Calls Tryz.prog 92 #[.int .i64 v,.int .i64 n] w (En w (TQ (DF v n))):=by
 obtain ⟨R,d⟩:∃R,R=DF v n:=⟨_,rfl⟩;rw [<-d];have i:Hid (DF v n++ByteArray.empty=R):=by show _=R;rw [d,ByteArray.append_empty]
 clear d;go_enter Tryz.func92,Tryz.ntmps92;go_wp2;go_loopw [0,1,5] (fun x k t wr=>∃(s:jt) (q:Nat) (u:Int),q<=n/\t= .string s/\x= .int .i64 u/\k= .int .i64 q/\s.size<=100 - q/\ -9223372036854775808<=u/\u<=9223372036854775807/\Aa w wr/\DF u q++s=R) (fun _ k _ _=>(intOf k).toNat)
 case atStart=>exact ⟨ByteArray.empty,n,v,jH _,rfl,rfl,rfl,js,f,c,jD _,i.out⟩
 case round=>
  obtain ⟨s,q,u,C,rfl,rfl,rfl,l,m,o,p,b⟩:=hrel;have a:=jp b;clear b;by_cases r:0<q
  .obtain ⟨q,rfl⟩:∃y,q=y+1:=⟨q - 1,jo⟩
   have z:Hid (DF (u / 256) q++(BH (u % 256)++s)=R):=by
    show _=R;rw [<-a.out,DF,ByteArray.append_assoc]
   have A:=Kn;have B:=EU;have D:decide (((q+1:Nat):Int)>0)=true:=jL jo;clear a;go_wp2;go_roundw
   case rel=>exact ⟨_,q,u / 256,jo,rfl,rfl,by go_num,by simp [EU];omega,jo,jo,jq,z.out⟩
   case measure=>first|(simp [intOf];done)|(simp [intOf];omega)
  .obtain rfl:q=0:=jo
   go_wp2;go_ret;exact ⟨_,rfl,p,by have:=a.out;rw [DF,ByteArray.empty_append] at this;exact this⟩
theorem N8 (n:Nat):BH ((n:Int) % 256)=⟨#[UInt8.ofNat n]⟩:=by
 unfold BH;congr 2;have:((n:Int) % 256).toNat=n % 256:=jo
 rw [this];congr 1;apply UInt8.toNat_inj.1;simp
theorem Hm (n:Nat):DF n 2=⟨#[UInt8.ofNat (n / 256),UInt8.ofNat n]⟩:=by
 have h:((n:Int) / 256)=((n / 256:Nat):Int):=jo
 show (ByteArray.empty++BH ((n:Int) / 256 % 256))++BH ((n:Int) % 256)=_;rw [h,N8,N8];rfl
theorem Ki (key:jt) (letter:UInt8) (t:jt):Cs key (⟨#[letter]⟩++t)=Al key letter [] t:=rfl
theorem Og (key:jt) (letter:UInt8) (k:Nat) (t:jt):Cs key ((⟨#[letter]⟩++DF k 2)++t)=Al key letter [k] t:=by
 rw [Hm];rfl
theorem So (key:jt) (letter:UInt8) (s k:Nat) (t:jt):Cs key (((⟨#[letter]⟩++DF s 2)++DF k 2)++t)=Al key letter [s,k] t:=by
 rw [Hm,Hm];rfl
theorem Zbu (Q:BitVec 32):(Q.toNat:Int) / 2147483648=(Q.msb.toNat:Int):=by
 rw [BitVec.msb_eq_decide];have:=Q.isLt;by_cases h:2147483648<=Q.toNat
 .have:decide (2 ^ (32 - 1)<=Q.toNat)=true:=by simpa using h
  rw [this];simp only [Bool.toNat_true];omega
 .have:decide (2 ^ (32 - 1)<=Q.toNat)=false:=by simpa using h
  rw [this];simp only [Bool.toNat_false];omega
theorem ZbT (Q:BitVec 32):(Q.toNat:Int) * (2:Int) % (4294967296:Int)=((Q<<<1).toNat:Int):=by
 have e:(Q<<<1).toNat=Q.toNat * 2 % 4294967296:=by
  rw [BitVec.toNat_shiftLeft,Nat.shiftLeft_eq]
 rw [e];generalize Q.toNat=a;omega
theorem Zb5 (n k:Nat):(BitVec.ofNat 32 n).getLsbD k=(decide (k<32) && n.testBit k):=by
 rw [BitVec.getLsbD_ofNat]
theorem Zcm (b:UInt8) (k:Nat) (a:k<8):((b.toNat:Int) / 2 ^ k % 2)=(((BitVec.ofNat 32 b.toNat).getLsbD k).toNat:Int):=by
 rw [Zb5,show decide (k<32)=true from jL jo,Bool.true_and,Nat.toNat_testBit];push_cast;rfl
theorem ZbO (P:BitVec 32):bits .xor .i64 (P.toNat:Int) 79764919=((P ^^^ 0x04c11db7#32).toNat:Int):=by
 have e:(79764919:Int)=((79764919:Nat):Int):=rfl;rw [e,Va _ _ P.isLt ji,BitVec.toNat_xor];rfl
theorem ZbP (l:jy) (k:Nat) (a:k<l.length) (c:BitVec 32):(l.take (k+1)).foldl Zac c=Zac ((l.take k).foldl Zac c) l[k]:=by
 rw [jQ a,List.foldl_append];rfl
def Zaq (Q:BitVec 32) (b:UInt8) (k:Nat):BitVec 32:=(List.range k).foldl (fun r k=>Zaj r ((BitVec.ofNat 32 b.toNat).getLsbD k)) Q
theorem Zch (Q:BitVec 32) (b:UInt8) (k:Nat):Zaq Q b (k+1)=Zaj (Zaq Q b k) ((BitVec.ofNat 32 b.toNat).getLsbD k):=by
 unfold Zaq;rw [List.range_succ,List.foldl_append];rfl
theorem Zck {Q:BitVec 32} {d:Bool} (h:Q.msb=d):Zaj Q d=Q<<<1:=by
 unfold Zaj;rw [h];simp
theorem ZbV {Q:BitVec 32} {d:Bool} (h:Q.msb≠d):Zaj Q d=(Q<<<1) ^^^ 0x04c11db7#32:=by
 unfold Zaj;rw [if_pos (by simpa using h)]
def Zaz (R:BitVec 32):Nat->Int
 |0=>0
 |k+1=>Zaz R k * 2+(1 - (R.toNat:Int) / 2 ^ k % 2)
theorem Zba (X:BitVec 32) (m:Nat):X.toNat / 2 ^ m % 2=(X.getLsbD m).toNat:=by
 rw [BitVec.getLsbD,Nat.toNat_testBit]
theorem Zbx (R:BitVec 32) (k:Nat) (a:k<32):(R.reverse ^^^ 0xFFFFFFFF#32).getLsbD (31 - k)=!R.getLsbD k:=by
 have b:(0xFFFFFFFF#32).getLsbD (31 - k)=true:=by
  have:∀j:Fin 32,(0xFFFFFFFF#32).getLsbD (31 - j.val)=true:=ji
  exact this ⟨k,a⟩
 rw [BitVec.getLsbD_xor,b,BitVec.getLsbD_reverse,BitVec.getMsbD_eq_getLsbD];have c:(32 - 1 - (31 - k))=k:=jo
 rw [c,show decide (31 - k<32)=true from jL jo];simp
theorem Zbe (R:BitVec 32):∀k,k<=32->Zaz R k=(((R.reverse ^^^ 0xFFFFFFFF#32).toNat / 2 ^ (32 - k):Nat):Int)
 |0,_=>by
  have:=(R.reverse ^^^ 0xFFFFFFFF#32).isLt;rw [Nat.div_eq_of_lt this];rfl
 |k+1,hk=>by
  have c:=Zbe R k jo;unfold Zaz;rw [c];have d:=Zbx R k jo;have a:=Zba (R.reverse ^^^ 0xFFFFFFFF#32) (31 - k);have f:=Zba R k;rw [d] at a;have g:32 - (k+1)=31 - k:=jo
  have i:32 - k=31 - k+1:=jo
  rw [g,i,Nat.pow_succ,<-Nat.div_div_eq_div_mul];have l:(R.toNat:Int) / 2 ^ k % 2=((R.getLsbD k).toNat:Int):=by rw [<-f];push_cast;rfl
  rw [l];generalize (R.reverse ^^^ 0xFFFFFFFF#32).toNat / 2 ^ (31 - k)=n at *;cases b:R.getLsbD k
  .rw [b] at a;simp only [Bool.not_false,Bool.toNat_true] at a;simp only [Bool.toNat_false];omega
  .rw [b] at a;simp only [Bool.not_true,Bool.toNat_false] at a;simp only [Bool.toNat_true];omega
theorem Zb4 (l:jy):Zaz (l.foldl Zac 0xFFFFFFFF#32) 32=((CB l).toNat:Int):=by
 rw [Zbe _ 32 (jH _),ZbJ];simp only [Nat.sub_self,Nat.pow_zero,Nat.div_one];rfl
theorem ZbW (Q:BitVec 32) (b:UInt8) (q:Nat) (a:q<8):(((Q.toNat:Int) / 2147483648 !=(b.toNat:Int) / 2 ^ q % 2)=false->((Zaj Q ((BitVec.ofNat 32 b.toNat).getLsbD q)).toNat:Int)=(Q.toNat:Int) * 2 % 4294967296)/\(((Q.toNat:Int) / 2147483648 !=(b.toNat:Int) / 2 ^ q % 2)=true->((Zaj Q ((BitVec.ofNat 32 b.toNat).getLsbD q)).toNat:Int)=bits .xor .i64 ((Q.toNat:Int) * 2 % 4294967296) 79764919):=by
 rw [Zbu,Zcm b q a,ZbT,ZbO];generalize (BitVec.ofNat 32 b.toNat).getLsbD q=d;refine ⟨fun h=>?_,fun h=>?_⟩
 .rw [Zck];cases c:Q.msb <;>cases d <;>simp_all
 .rw [ZbV];cases c:Q.msb <;>cases d <;>simp_all
theorem Zbm (s:jt) (w:jj) (H:s.size<=maxLen):
  Calls Tryz.prog 91 #[.string s] w (KG w (fun v=>v=((CB s.data.toList).toNat:Int))):=by
 unfold maxLen at H;have I:=Li;have d:s.data.toList.length=s.size:=rfl;obtain ⟨R,m⟩:∃R,R=((CB s.data.toList).toNat:Int):=⟨_,rfl⟩;rw [<-m];have J:=jp m;clear m;go_enter Tryz.func91,Tryz.ntmps91;go_wp2;go_loopw [3,4] (fun r i wr=>∃(x:Int) (n:Nat),n<=s.size/\r= .int .i64 x/\i= .int .i64 n/\Af x/\Aa w wr/\Hid (x=(((s.data.toList.take n).foldl Zac 0xFFFFFFFF#32).toNat:Int))) (fun _ i _=>s.size - (intOf i).toNat)
 case atStart=>exact ⟨4294967295,0,Nat.zero_le _,rfl,rfl,⟨ji,ji⟩,jD _,rfl⟩
 case round=>
  obtain ⟨x,n,M,rfl,rfl,hx,B,l⟩:=hrel;by_cases K:n<s.size
  .have f:s.data.toList[n]'jo=s[n]:=by rw [Array.getElem_toList];rfl
   have C:Hid (Zaq ((s.data.toList.take n).foldl Zac 0xFFFFFFFF#32) s[n] 8=(s.data.toList.take (n+1)).foldl Zac 0xFFFFFFFF#32):=by
    show _=_;rw [ZbP _ _ jo,f];rfl
   have D:Hid (∀q:Nat,q<8->∀Q:BitVec 32,(((Q.toNat:Int) / 2147483648 !=(s[n].toNat:Int) / 2 ^ q % 2)=false->((Zaj Q ((BitVec.ofNat 32 s[n].toNat).getLsbD q)).toNat:Int)=(Q.toNat:Int) * 2 % 4294967296)/\(((Q.toNat:Int) / 2147483648 !=(s[n].toNat:Int) / 2 ^ q % 2)=true->((Zaj Q ((BitVec.ofNat 32 s[n].toNat).getLsbD q)).toNat:Int)=bits .xor .i64 ((Q.toNat:Int) * 2 % 4294967296) 79764919)):=fun q p Q=>ZbW Q s[n] q p
   have E:(s[n].toNat:Int)<256:=by have:=s[n].toNat_lt;omega
   clear f;go_wp2;go_loopw [3,5] (fun r k wr=>∃(x:Int) (q:Nat),q<=8/\r= .int .i64 x/\k= .int .i64 q/\Af x/\Aa w wr/\Hid (x=((Zaq ((s.data.toList.take n).foldl Zac 0xFFFFFFFF#32) s[n] q).toNat:Int))) (fun _ k _=>8 - (intOf k).toNat)
   case atStart=>exact ⟨x,0,jo,rfl,rfl,hx,B,l.out⟩
   case round=>
    obtain ⟨y,q,p,rfl,rfl,t,a,c⟩:=hrel;have u:=t.1;have A:=t.2;by_cases b:q<8
    .have F:Hid (((y / 2147483648 !=(s[n].toNat:Int) / 2 ^ q % 2)=false->(y * 2 % 4294967296)=((Zaq ((s.data.toList.take n).foldl Zac 0xFFFFFFFF#32) s[n] (q+1)).toNat:Int))/\((y / 2147483648 !=(s[n].toNat:Int) / 2 ^ q % 2)=true->bits .xor .i64 (y * 2 % 4294967296) 79764919=((Zaq ((s.data.toList.take n).foldl Zac 0xFFFFFFFF#32) s[n] (q+1)).toNat:Int))):=by
      show _/\_;rw [Zch,c.out];have:=D.out q b (Zaq ((s.data.toList.take n).foldl Zac 0xFFFFFFFF#32) s[n] q);exact ⟨fun h=>(this.1 h).symm,fun h=>(this.2 h).symm⟩
     clear D C l c
     go_wp2
     all_goals
      go_roundw
      case rel=>exact ⟨_,q+1,jo,rfl,by go_num,by first|exact Af.turn ⟨jo,jo⟩|exact ⟨jo,jo⟩,a,by first|exact F.out.1 (by assumption)|exact F.out.2 (by assumption)⟩
      case measure=>simp [intOf];omega
    .obtain rfl:q=8:=jo
     go_wp2;go_roundw
     case rel=>exact ⟨y,n+1,jo,rfl,by go_num,t,a,by show _=_;rw [<-C.out];exact c.out⟩
     case measure=>simp [intOf];omega
  .obtain rfl:n=s.size:=jo
   have g:Hid (x=((s.data.toList.foldl Zac 0xFFFFFFFF#32).toNat:Int)):=by
    show _=_;rw [l.out,<-d,List.take_length]
   clear l;go_wp2;go_loopw [7,8] (fun o k wr=>∃(y:Int) (q:Nat),q<=32/\o= .int .i64 y/\k= .int .i64 q/\0<=y/\y<2 ^ q/\Aa w wr/\Hid (y=Zaz (s.data.toList.foldl Zac 0xFFFFFFFF#32) q)) (fun _ k _=>32 - (intOf k).toNat)
   case atStart=>exact ⟨0,0,jo,rfl,rfl,jo,ji,B,rfl⟩
   case round=>
    obtain ⟨y,q,p,rfl,rfl,u,A,a,c⟩:=hrel;have N:=Nk q jo;by_cases b:q<32
    .have G:∀z:Int,0<=z % 2/\z % 2<2:=fun z=>⟨Int.emod_nonneg _ ji,Int.emod_lt_of_pos _ ji⟩
     have O:=G (x / 2 ^ q)
     have L:Hid (y * 2+(1 - x / 2 ^ q % 2)=Zaz (s.data.toList.foldl Zac 0xFFFFFFFF#32) (q+1)):=by
      show _=_;rw [c.out,g.out];rfl
     clear G c g;go_wp2;go_roundw
     case rel=>exact ⟨_,q+1,jo,rfl,by go_num,jo,by rw [Int.pow_succ];omega,a,by have:=L.out;show _=_;omega⟩
     case measure=>simp [intOf];omega
    .have:q=32:=jo
     subst this;go_wp2;go_ret;exact ⟨_,rfl,a,by rw [J.out,c.out,Zb4]⟩
def Zat (C:Int):Nat->ByteArray
 |0=>ByteArray.empty
 |q+1=>Zat C q++DF (C / 2 ^ (8 * q)) 1
theorem Zar (n:Nat):DF n 1=⟨#[UInt8.ofNat n]⟩:=by
 show ByteArray.empty++BH ((n:Int) % 256)=_;rw [N8,ByteArray.empty_append]
theorem Zcc (x:BitVec 32):Zat (x.toNat:Int) 4=Ai (Cn x):=by
 have e:∀q:Nat,(x.toNat:Int) / 2 ^ (8 * q)=((x.toNat / 2 ^ (8 * q):Nat):Int):=fun q=>by push_cast;rfl
 simp only [Zat];rw [e 0,e 1,e 2,e 3,Zar,Zar,Zar,Zar];simp only [Nat.mul_zero,Nat.pow_zero,Nat.div_one,Nat.mul_one,Nat.reduceMul,Nat.reducePow];rfl
theorem ZaE (a:jt) (l:jy):a++Ai l=Ai (a.data.toList++l):=by
 apply ByteArray.ext;simp [Ai]
theorem Zau (l:jy):(Ai l).data.toList=l:=rfl
theorem Zbd (a:jt):Ai a.data.toList=a:=by
 apply ByteArray.ext;simp [Ai]
def Zad (l:jy):List UInt8:=l++Cn (CB l)
theorem Ze4 (l:jy):(Zad l).length=l.length+4:=by unfold Zad;rw [jO];rfl
theorem ZaH (s:jt) (w:jj) (E:s.size<=1099511627776):
  Calls Tryz.prog 51 #[.string s] w (En w (TQ (Ai (Zad s.data.toList)))):=by
 have a:=Zbm s w (by unfold maxLen;omega);obtain ⟨R,g⟩:∃R,R=Ai (Zad s.data.toList):=⟨_,rfl⟩;rw [<-g];obtain ⟨c,i⟩:∃c,c=((CB s.data.toList).toNat:Int):=⟨_,rfl⟩
 have p:Hid (s++Zat c 4=R):=by
  show _=_;rw [g,i,Zcc,ZaE];rfl
 have b:0<=c:=jo
 have r:c<4294967296:=by have:=(CB s.data.toList).isLt;omega
 rw [<-i] at a;clear g i;go_enter Tryz.func51,Tryz.ntmps51;go_wp2_with fail;refine a.mono ?_;rintro e F ⟨v,rfl,l,d⟩;have m:v=c:=d;clear d;subst v;clear a;go_wp2;go_loopw [0,4] (fun t k wr=>∃(x:jt) (q:Nat),q<=4/\t= .string x/\k= .int .i64 q/\x.size=s.size+q/\Aa w wr/\Hid (x=s++Zat c q)) (fun _ k _=>4 - (intOf k).toNat)
 case atStart=>exact ⟨s,0,jo,rfl,rfl,rfl,l,by show s=s++ByteArray.empty;rw [ByteArray.append_empty]⟩
 case round=>
  obtain ⟨x,q,G,rfl,rfl,hx,u,n⟩:=hrel;by_cases y:q<4
  .have z:x.size<=1099511627790:=jo
   have HX:Hid (x.size=s.size+q):=hx;clear hx;have H:0<=c / 2 ^ (8 * q):=Int.ediv_nonneg b (Int.le_of_lt (Int.pow_pos ji));have I:c / 2 ^ (8 * q)<=c:=Int.ediv_le_self _ b;have f:=fun A=>Ka (c / 2 ^ (8 * q)) 1 A jo jo jo
   have B:Hid (x++DF (c / 2 ^ (8 * q)) 1=s++Zat c (q+1)):=by
    show _=s++(Zat c q++DF (c / 2 ^ (8 * q)) 1);rw [n.out,ByteArray.append_assoc]
   have C:(DF (c / 2 ^ (8 * q)) 1).size=1:=by
    show (ByteArray.empty++BH _).size=1;rw [jY,EU];rfl
   generalize DF (c / 2 ^ (8 * q)) 1=o at *;clear n p;go_wp2_with fail;refine (f _).mono ?_;rintro e J ⟨v,rfl,D,d⟩;have m:v=o:=d;clear d;subst v;clear f;go_wp2;go_roundw
   case rel=>exact ⟨_,q+1,jo,rfl,by go_num,by have:=HX.out;simp [C];omega,jq,B.out⟩
   case measure=>simp [intOf];omega
  .obtain rfl:q=4:=jo
   go_wp2;go_ret;exact ⟨_,rfl,u,by show x=R;rw [n.out];exact p.out⟩
theorem ZbM {l:jy} (h:5<=l.length):CQ l=if Zad (l.take (l.length - 4))=l then some (l.take (l.length - 4)) else none:=by
 unfold CQ Zad;rw [if_neg jo];by_cases e:l.drop (l.length - 4)=Cn (CB (l.take (l.length - 4)))
 .rw [if_pos e,if_pos (by rw [<-e,List.take_append_drop])]
 .rw [if_neg e,if_neg (fun a=>e ?_)];have b:l.take (l.length - 4)++l.drop (l.length - 4)=l.take (l.length - 4)++Cn (CB (l.take (l.length - 4))):=by rw [List.take_append_drop];exact a.symm
  exact List.append_cancel_left b
theorem Zay (s:jt) (k:Nat):s.extract 0 k=Ai (s.data.toList.take k):=by
 apply ByteArray.ext;rw [ByteArray.data_extract];apply Array.toList_inj.1;simp [Ai]
def ZaO (w:jj) (l:jy) (e:Ending) (w':jj):Prop:=∃(a:jt) (b:Bool),e= .returned (.tuple #[.string a,.bool b])/\Aa w w'/\(b=true↔∃m,CQ l=some m)/\∀m,CQ l=some m->a=Ai m
theorem ZbL (s:jt) (w:jj) (y:s.size<=1099511627776):
  Calls Tryz.prog 74 #[.string s] w (ZaO w s.data.toList):=by
 have c:s.data.toList.length=s.size:=rfl;by_cases h:s.size<5
 .have f:Hid (CQ s.data.toList=none):=by
   show _=_;unfold CQ;rw [if_pos jo]
  go_enter Tryz.func74,Tryz.ntmps74
  go_wp2
  go_ret2
  exact ⟨_,_,rfl,jD _,⟨fun h=>(by cases h),fun ⟨m,b⟩=>by rw [f.out] at b;cases b⟩,fun m b=>by rw [f.out] at b;cases b⟩
 .have f:=jp (ZbM (l:=s.data.toList) jo);have z:(s.extract 0 (s.size - 4)).size=s.size - 4:=js
  have g:=Zay s (s.size - 4);have n:=jp g;have d:=fun o=>ZaH (s.extract 0 (s.size - 4)) o jo
  obtain ⟨t,i⟩:∃t,t=Ai (Zad (s.extract 0 (s.size - 4)).data.toList):=⟨_,rfl⟩;rw [<-i] at d;have p:Hid ((t.toList==s.toList)=true↔t=s):=FE
  have q:Hid (t=s↔Zad (s.data.toList.take (s.size - 4))=s.data.toList):=by
   show _↔_;rw [i,g];refine ⟨fun e=>congrArg (fun x:ByteArray=>x.data.toList) e,fun e=>?_⟩;show Ai (Zad (s.data.toList.take (s.size - 4)))=s;rw [e,Zbd]
  clear i g;go_enter Tryz.func74,Tryz.ntmps74;go_wp2_with fail;generalize s.extract 0 (s.size - 4)=a at *;refine (d _).mono ?_;rintro e A ⟨v,rfl,r,k⟩;have u:v=t:=k;clear k;subst v;clear d;go_wp2;go_ret2;refine ⟨_,_,rfl,jq,?_,fun m b=>?_⟩
  .rw [p.out,q.out,f.out,c];refine ⟨fun e=>⟨_,if_pos e⟩,fun ⟨m,b⟩=>?_⟩;split at b
   .assumption
   .cases b
  .rw [f.out,c] at b;split at b
   .rw [n.out,<-Option.some.inj b]
   .cases b
theorem Zae (v:Int) (n:Nat):(DF v n).size=n:=by
 induction n generalizing v with
 |zero=>rfl
 |succ n ih=>
  show (DF (v / 256) n++BH (v % 256)).size=_;rw [jY,ih,EU]
theorem Zbj (v a b:Nat):Ax v (a+b)=Ax (v / 2 ^ b) a++Ax v b:=by
 induction b generalizing v with
 |zero=>simp [Ax]
 |succ b ih=>
  show Ax (v / 2) (a+b)++[v % 2==1]=_;rw [ih (v / 2)];show _=Ax (v / 2 ^ (b+1)) a++(Ax (v / 2) b++[v % 2==1]);rw [List.append_assoc,Nat.pow_succ,Nat.mul_comm,Nat.div_div_eq_div_mul]
theorem ZaY (v b:Nat):Ax (v % 2 ^ b) b=Ax v b:=by
 have a:=Pg (Ax v b);rw [M5,Bd] at a;exact a
theorem Zam (v n:Nat):Az (DF (v:Int) n).data.toList=Ax v (8 * n):=by
 induction n generalizing v with
 |zero=>rfl
 |succ n ih=>
  have e:((v:Int) / 256)=((v / 256:Nat):Int):=jo
  have a:DF (v:Int) (n+1)=DF ((v / 256:Nat):Int) n++Ai [UInt8.ofNat v]:=by
   show DF ((v:Int) / 256) n++BH ((v:Int) % 256)=_;rw [e,N8];rfl
  rw [a,ZaE,Zau,WH,ih];have b:8 * (n+1)=8 * n+8:=jo
  rw [b,Zbj];congr 1;show BT (UInt8.ofNat v)++[]=_;rw [List.append_nil];unfold BT;rw [UInt8.toNat_ofNat',ZaY]
def Zaa (a:List Int) (n:jt):Nat->ByteArray
 |0=>ByteArray.empty
 |k+1=>Zaa a n k++DF (a.getD k 0) ((n.data.toList.getD k 48).toNat - 48)
theorem Zas (b l cap:Nat) (n:jt) (a:List Int) (w:jj) (Q:n.size=l) (S:l<=16) (B:GP n)
  (C:∀t,t<l->w.cell? ⟨b,t,none⟩=some (.int .i64 (a.getD t 0))) (D:∀t,Aj (a.getD t 0)):
  Calls Tryz.prog 76 #[.slice (some ⟨b,0,none⟩) l cap,.string n] w (En w (TQ (Zaa a n l))):=by
 obtain ⟨R,g⟩:∃R,R=Zaa a n l:=⟨_,rfl⟩;rw [<-g];have E:=jp g;clear g;go_enter Tryz.func76,Tryz.ntmps76;go_wp2;go_loopw [5,6] (fun t i wr=>∃(x:jt) (k:Nat),k<=l/\t= .string x/\i= .int .i64 k/\x.size<=9 * k/\Aa w wr/\Hid (x=Zaa a n k)) (fun _ i _=>l - (intOf i).toNat)
 case atStart=>exact ⟨_,0,jo,rfl,rfl,Nat.zero_le _,jD _,rfl⟩
 case round=>
  obtain ⟨x,k,T,rfl,rfl,hx,c,HX⟩:=hrel;by_cases p:k<l
  .have q:=c.cell (C k p);obtain ⟨r,s⟩:=D k;have d:k<n.size:=jo
   obtain ⟨u,v⟩:=B k d
   have f:n.data.toList.getD k 48=n[k]:=by
    rw [jV,jG (show k<n.data.toList.length from d),Option.getD_some,Array.getElem_toList];rfl
   obtain ⟨m,F⟩:∃m:Nat,m=n[k].toNat - 48:=⟨_,rfl⟩
   have I:Hid (x++DF (a.getD k 0) m=Zaa a n (k+1)):=by
    show _=Zaa a n k++DF (a.getD k 0) ((n.data.toList.getD k 48).toNat - 48);rw [HX.out,f,F]
   have J:=Zae (a.getD k 0) m;have K:m<=9:=jo
   have A:=fun L=>Ka (a.getD k 0) m L r s jo
   have M:IntKind.u8.wrap ((n[k].toNat:Int) - 48)=(m:Int):=by rw [IntKind.wrap_u8];omega
   have G:IntKind.i64.wrap (m:Int)=(m:Int):=by rw [IntKind.wrap_i64];omega
   clear B D C f HX E F u v;generalize DF (a.getD k 0) m=o at *;generalize a.getD k 0=z at *;have N:x.size<=1000:=jo
   go_wp2_with fail;go_region_with (go_at_call 92;refine (A _).mono ?_;rintro e U ⟨y,rfl,O,H⟩;have P:y=o:=H;clear H;subst y)
   all_goals
    go_wp2;go_roundw
    case rel=>exact ⟨_,k+1,jo,rfl,by go_num,jx,jq,I.out⟩
    case measure=>simp [intOf];omega
  .obtain rfl:k=l:=jo
   go_wp2;go_ret;exact ⟨_,rfl,c,by show x=R;rw [HX.out,E.out]⟩
def Zag (B:List BK):Nat->ByteArray
 |0=>DF B.length 1
 |k+1=>Zag B k++DF ((B.getD k (ByteArray.empty,0)).1.size:Int) 1++(B.getD k (ByteArray.empty,0)).1++DF (B.getD k (ByteArray.empty,0)).2 1
theorem ZbS (l:List BK) (v:ju) (w:jj) (Q:Am w v l) (z:AL l):
  Calls Tryz.prog 102 #[v] w (En w (TQ (Zag l l.length))):=by
 obtain ⟨R,A⟩:∃R,R=Zag l l.length:=⟨_,rfl⟩;rw [<-A];have B:=jp A;clear A;obtain ⟨h8,b⟩:=z;rcases Q.form with ⟨rfl,rfl⟩|⟨g,cap,rfl,G,hg,H⟩
 .have a:=Ka 0 1 w ji ji ji;go_enter Tryz.func102,Tryz.ntmps102;go_wp2_with fail;refine a.mono ?_;rintro e S ⟨s,rfl,f,y⟩;go_wp2;refine wp_loop_rounds 1 ?_;rw [rounds_succ];go_wp2;go_ret;exact ⟨_,rfl,f,by show s=R;rw [B.out];exact y⟩
 .have a:=Ka (l.length:Int) 1 w jo jo ji;have I:Hid (Zag l 0=DF (l.length:Int) 1):=rfl;have T:=Zae (l.length:Int) 1;generalize DF (l.length:Int) 1=o at *;go_enter Tryz.func102,Tryz.ntmps102;go_wp2_with fail;refine a.mono ?_;rintro e S ⟨s,rfl,f,y⟩;have U:s=o:=y;clear y a;subst s;go_wp2;go_loopw [3,4] (fun t i wr=>∃(x:jt) (k:Nat),k<=l.length/\t= .string x/\i= .int .i64 k/\x.size<=1+10 * k/\Aa w wr/\Hid (x=Zag l k)) (fun _ i _=>l.length - (intOf i).toNat)
  case atStart=>exact ⟨o,0,jo,rfl,rfl,jo,f,I.out.symm⟩
  case round=>
   obtain ⟨x,k,hk,rfl,rfl,hx,C,HX⟩:=hrel;by_cases m:k<l.length
   .obtain ⟨J,K⟩:=H k m;have n:=C.cell J;have p:=C.cell K;obtain ⟨V,W,X,Y⟩:=b _ (jJ m)
    have L:Hid (x++DF (l[k].1.size:Int) 1++l[k].1++DF l[k].2 1=Zag l (k+1)):=by
     show _=Zag l k++DF ((l.getD k (ByteArray.empty,0)).1.size:Int) 1++(l.getD k (ByteArray.empty,0)).1++DF (l.getD k (ByteArray.empty,0)).2 1;have e:l.getD k (ByteArray.empty,0)=l[k]:=by rw [jV,jG m,Option.getD_some]
     rw [HX.out,e]
    clear H b HX B I J K;generalize l[k]=Z at *;obtain ⟨id,D⟩:=Z;simp only at n p V W X Y;have c:=fun E=>Ka (id.size:Int) 1 E jo jo ji
    have d:=fun E=>Ka D 1 E jo jo ji
    have aa:=Zae (id.size:Int) 1;have ab:=Zae D 1;simp only at L;generalize DF (id.size:Int) 1=o1 at *;generalize DF D 1=o2 at *;go_wp2_with fail;refine (c _).mono ?_;rintro e w2 ⟨M,rfl,q,r⟩;have r1:=q.cell n;have r2:=q.cell p;have N:M=o1:=r;clear r;subst M;go_wp2_with fail;refine (d _).mono ?_;rintro e w3 ⟨O,rfl,F,u⟩;have r3:=F.cell r1;have P:O=o2:=u;clear u c d;subst O;have ac:x.size<=81:=jo
    go_wp2;go_roundw
    case rel=>exact ⟨_,k+1,jo,rfl,by go_num,jx,jq,L.out⟩
    case measure=>simp [intOf];omega
   .obtain rfl:k=l.length:=jo
    go_wp2;go_ret;exact ⟨_,rfl,C,by show x=R;rw [HX.out,B.out]⟩
def Z8 (L:jz):ByteArray:=Ai (L.map fun b=>if b then 49 else 48)
theorem Zaf (L:jz):(Z8 L).size=L.length:=by rw [Z8,show (Ai _).size=_ from (by simp [Ai,ByteArray.size]:(Ai (L.map fun b=>if b then 49 else 48)).size=(L.map fun b=>if b then (49:UInt8) else 48).length),je]
theorem Zao (L M:jz):Z8 (L++M)=Z8 L++Z8 M:=by
 unfold Z8;rw [ZaE,Zau,List.map_append]
theorem Zbp (n:Nat):Z8 [n % 2==1]=BH (48+(n:Int) % 2):=by
 unfold Z8 BH Ai;rcases Nat.mod_two_eq_zero_or_one n with h|h
 .have e:(48+(n:Int) % 2).toNat=48:=jo
  rw [e,h];rfl
 .have e:(48+(n:Int) % 2).toNat=49:=jo
  rw [e,h];rfl
theorem Zan (v n:Nat) (w:jj) (g:n<=62):
  Calls Tryz.prog 154 #[.int .i64 (v:Int),.int .i64 (n:Int)] w (En w (TQ (Z8 (Ax v n)))):=by
 obtain ⟨R,b⟩:∃R,R=Z8 (Ax v n):=⟨_,rfl⟩;rw [<-b];have d:=jp b;clear b;go_enter Tryz.func154,Tryz.ntmps154;go_wp2;go_loopw [5,6] (fun t k wr=>∃(s:jt) (q:Nat),q<=n/\t= .string s/\k= .int .i64 ((n:Int) - 1 - (q:Int))/\s.size=q/\Aa w wr/\Hid (s=Z8 (Ax (v / 2 ^ (n - q)) q))) (fun _ k _=>(intOf k+1).toNat)
 case atStart=>exact ⟨ByteArray.empty,0,Nat.zero_le _,rfl,js,rfl,jD _,rfl⟩
 case round=>
  obtain ⟨s,q,D,rfl,rfl,c,i,HX⟩:=hrel;by_cases l:q<n
  .have m:Hid (s++BH (48+(v:Int) / 2 ^ (n - 1 - q) % 2)=Z8 (Ax (v / 2 ^ (n - (q+1))) (q+1))):=by
    show _=_;have o:n - (q+1)=n - 1 - q:=jo
    have p:n - q=n - 1 - q+1:=jo
    have r:((v:Int) / 2 ^ (n - 1 - q))=((v / 2 ^ (n - 1 - q):Nat):Int):=by push_cast;rfl
    rw [HX.out,o,r];show _=Z8 (Ax (v / 2 ^ (n - 1 - q) / 2) q++[v / 2 ^ (n - 1 - q) % 2==1]);rw [Zao,Zbp,p,Nat.pow_succ,Nat.div_div_eq_div_mul]
   have u:0<=(n:Int) - 1 - (q:Int):=jo
   have x:(n:Int) - 1 - (q:Int)<64:=jo
   have y:Hid (((n:Int) - 1 - (q:Int)).toNat=n - 1 - q):=by show _=_;omega
   generalize a:(n:Int) - 1 - (q:Int)=k at *
   have z:Hid ((n:Int) - 1 - (q:Int)=k):=a
   clear a HX d
   have A:=Kn
   have B:=EU
   have C:=Li
   have f:s.size<=62:=jo
   go_wp2
   go_roundw
   case rel=>
    refine ⟨_,q+1,jo,rfl,by rw [show k - 1=(n:Int) - 1 - ((q+1:Nat):Int) from by have:=z.out;omega],by simp [EU,c],jq,?_⟩
    show _=_
    rw [<-m.out,<-y.out]
   case measure=>simp [intOf];omega
  .obtain rfl:q=n:=jo
   go_wp2;go_ret;exact ⟨_,rfl,i,by show s=R;rw [HX.out,d.out,Nat.sub_self,Nat.pow_zero,Nat.div_one]⟩
theorem ZaI (p:Nat) (c:Ac) (i:Int) (B:List BK) (E:List EN) (id:jt) (w:jj) (h:Bz w p c i B E) (D:B.length<=8) (l:∃b∈B,b.1=id):
  Calls Tryz.prog 153 #[.pointer (some ⟨p,0,none⟩),.string id] w (KG w fun m=>m=(Bq id B:Int)):=by
 obtain ⟨F,G,_,_,H,_,x,_⟩:=h;have u:=Lh l;have n:=Ho u
 have v:Hid (∀q,q<Bq id B->∀(o:q<B.length),B[q].1≠id):=fun q o y e=>by
  have:=List.not_of_lt_findIdx (p:=fun b:BK=>b.1.toList==id.toList) o;rw [show (B[q].1.toList==id.toList)=true from FE.2 e] at this;cases this
 generalize Bq id B=m at *;subst n;rcases x.form with ⟨_,rfl⟩|⟨g,cap,rfl,_,I,s⟩
 .exact absurd u js
 .go_enter Tryz.func153,Tryz.ntmps153;go_wp2;go_loopg [5] m (fun r k wr=>w=wr/\∃q:Nat,q<=m/\r=m - q/\k= .int .i64 q)
  case atStart=>exact ⟨rfl,0,jo,jo,rfl⟩
  case round=>
   obtain ⟨rfl,q,o,J,rfl⟩:=hrel;have d:q<B.length:=jo
   have a:=(s q d).1;by_cases f:B[q].1=B[m].1
   .have t:Hid (q=m):=by
     show q=m;rcases Nat.lt_or_ge q m with h|h
     .exact absurd f (v.out q h d)
     .omega
    rw [f] at a
    clear v
    generalize B[m].1=id at *
    clear s
    go_wp2
    go_ret
    exact ⟨_,rfl,jq,by rw [t.out]⟩
   .have z:=Rw f
    have A:q<m:=by
     rcases Nat.lt_or_ge q m with h|h
     .exact h
     .have:q=m:=jo
      subst this;exact absurd rfl f
    clear s;generalize B[m].1=id at *;generalize B[q].1=C at *;go_wp2;go_roundg (m - (q+1))
    case measure=>omega
    case rel=>exact ⟨rfl,q+1,jo,rfl,by go_num⟩
theorem ZaF {c:Ac} {b:Bool} (h:Co (EV c) b):Fq c.alg=b:=by
 have a:b=true↔EV c:=h;unfold EV at a;unfold Fq;cases b
 .have:¬(c.alg=2\/c.alg=4):=fun e=>absurd (a.2 e) ji
  simp only [not_or] at this;simp [this.1,this.2]
 .rcases a.1 rfl with e|e <;>simp [e]
def Zal (pt:Bool) (B:List BK) (x:EN):ByteArray:=if pt then Zaa [x.2.1,x.2.2,(Bq x.1 B:Int)] ⟨#[52,52,49]⟩ 3 else DF (Bq x.1 B:Int) 2
def Zah (pt:Bool) (B:List BK) (L:List EN):Nat->ByteArray
 |0=>ByteArray.empty
 |k+1=>Zah pt B L k++Zal pt B (L.getD k (ByteArray.empty,0,0))
theorem Za6 (a b c:Int):(Zaa [a,b,c] ⟨#[52,52,49]⟩ 3).size=9:=by
 show (((ByteArray.empty++DF a 4)++DF b 4)++DF c 1).size=9;rw [jY,jY,jY,Zae,Zae,Zae];rfl
theorem ZbN (p:Nat) (c:Ac) (q:Int) (B:List BK) (E L:List EN) (v:ju) (w:jj) (h:Bz w p c q B E) (hB:B.length<=8) (hv:Eb w v L) (hL:L.length<=140000) (A:∀x∈L,(∃b∈B,b.1=x.1)/\Aj x.2.1/\Aj x.2.2):
  Calls Tryz.prog 103 #[.pointer (some ⟨p,0,none⟩),v] w (En w (TQ (Zah (Fq c.alg) B L L.length))):=by
 obtain ⟨R,P⟩:∃R,R=Zah (Fq c.alg) B L L.length:=⟨_,rfl⟩;rw [<-P];have Q:=jp P;clear P;obtain ⟨ao,cap,rfl,U⟩:=hv;go_enter Tryz.func103,Tryz.ntmps103;go_wp2_with fail;refine (Jq p c q B E _ h).mono ?_;rintro e w1 ⟨pb,rfl,S,C⟩;have n:Fq c.alg=pb:=ZaF C;rw [n] at Q;clear C n;go_wp2;go_loopg [5,7] L.length (fun r t i wr=>∃(x:jt) (k:Nat),k<=L.length/\r=L.length - k/\t= .string x/\i= .int .i64 k/\x.size<=27 * k/\Aa w wr/\Hid (x=Zah pb B L k))
 case atStart=>exact ⟨_,0,jo,jo,rfl,rfl,Nat.zero_le _,S,rfl⟩
 case round=>
  obtain ⟨x,k,hk,hr,rfl,rfl,hx,D,HX⟩:=hrel;by_cases s:k<L.length
  .obtain ⟨g,F,rfl,V,W,X⟩:=U k s;have r0:=D.cell V;have Y:=D.cell W;have Z:=D.cell X;obtain ⟨l,⟨b1,b2⟩,⟨b3,b4⟩⟩:=A _ (jJ s)
   have HN:Hid (x++Zal pb B L[k]=Zah pb B L (k+1)):=by
    show _=Zah pb B L k++Zal pb B (L.getD k (ByteArray.empty,0,0));rw [HX.out,jV,jG s,Option.getD_some]
   clear U A V W X HX Q;generalize L[k]=N at *;obtain ⟨id,d,f⟩:=N;simp only at r0 Y Z l b1 b2 b3 b4;have aa:Bq id B<B.length:=Lh l;have G:=fun O (b:Aa w O)=>ZaI p c q B E id O (h.later b) hB l
   have HE:Hid (Zal pb B (id,d,f)=if pb then Zaa [d,f,(Bq id B:Int)] ⟨#[52,52,49]⟩ 3 else DF (Bq id B:Int) 2):=rfl;generalize Zal pb B (id,d,f)=N at *;generalize Bq id B=m at *;have H:=fun O=>Ka (m:Int) 2 O jo jo ji
   have ab:=Zae (m:Int) 2;have ac:x.size<=9000000:=jo
   go_wp2_with fail;refine (G _ D).mono ?_;rintro e w2 ⟨m',rfl,I,J⟩;have ad:m'=(m:Int):=J;clear J G;subst m';have s1:=I.cell Y;have s2:=I.cell Z;go_wp2_with fail;generalize DF (m:Int) 2=o at *;refine (H _).mono ?_;rintro e w3 ⟨y,rfl,K,hy⟩;have ae:y=o:=hy;clear hy H;subst y;have t1:=K.cell s1;have t2:=K.cell s2;cases pb
   .have u:Hid (N=o):=HE.out;go_wp2;go_roundg (L.length - (k+1))
    case measure=>omega
    case rel=>exact ⟨_,k+1,jo,rfl,rfl,by go_num,jx,jq,by show _=_;rw [<-HN.out,u.out]⟩
   .have u:Hid (N=Zaa [d,f,(m:Int)] ⟨#[52,52,49]⟩ 3):=HE.out;have af:=Za6 d f (m:Int);generalize M:Zaa [d,f,(m:Int)] ⟨#[52,52,49]⟩ 3=fq at *;have T:=jp M;clear M;go_upto_region 9 with fail
    go_cut [9] (fun a wc=>a= .string fq/\Aa w3 wc)
    case first=>
     go_region_held3 (fun w'=>Aa w3 w'/\w'.cell? ⟨g,F+k * 3+1,none⟩=some (.int .i64 d)/\w'.cell? ⟨g,F+k * 3+2,none⟩=some (.int .i64 f)) ((refine Jj ?_ t1 t2;exact jq)) ((go_at_call 76;refine (Zas _ 3 _ _ [d,f,(m:Int)] _ rfl ji U7 (by intro t ht;match t,ht with|0,_=>simp|1,_=>simp|2,_=>simp) (Aj.three ⟨b1,b2⟩ ⟨b3,b4⟩ ⟨jo,jo⟩)).mono ?_;rintro e w4 ⟨z,rfl,ag,hz⟩;have ah:z=fq:=(show z=Zaa [d,f,(m:Int)] ⟨#[52,52,49]⟩ 3 from hz).trans T.out;clear hz;subst z))
     all_goals
      go_wp2;go_meet
      case rel=>exact ⟨rfl,jq⟩
    case rest=>
     obtain ⟨rfl,ai⟩:=hcut;go_wp2;go_roundg (L.length - (k+1))
     case measure=>omega
     case rel=>exact ⟨_,k+1,jo,rfl,rfl,by go_num,jx,jq,by show _=_;rw [<-HN.out,u.out]⟩
  .obtain rfl:k=L.length:=jo
   go_wp2;go_ret;exact ⟨_,rfl,D,by show x=R;rw [HX.out,Q.out]⟩
end Go.Proofs.YtpapdkhjdelfcaaGreat
