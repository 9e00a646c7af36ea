import Derived.Test.YtpapdkhjdelfcaaGreatLBT
namespace Go.Proofs.YtpapdkhjdelfcaaGreat
open Go.RowKit
set_option maxRecDepth 100000
set_option maxHeartbeats 4000000
theorem Zc (Q:Aw) (s:Nat) (x:WG) (w:World) (h:Ao Q s x w) (hs:s<=150000):
  Calls Tryz.prog 23 #[.pointer (some ⟨x.p,0,none⟩)] w (Ew w fun b=>b=true):=by
 have l:=h.2.2.2.2.2.2.2.2.2.1;have m:=h.2.2.2.2.2.2.2.2.2.2.1;have hn:=h.2.2.2.2.2.2.2.2.2.2.2.1.2.2;have G:=h.1.1 8 _ rfl;have N:=h.1.1 9 _ rfl;obtain ⟨R,S,o⟩:=CP l;obtain ⟨U,V,q⟩:=CP m
 have t:Hid (∀j,j<x.lss.length->∃u v D E L,R=some ⟨u,0,none⟩/\U=some ⟨v,0,none⟩/\w.cell? ⟨u,j,none⟩=some (.slice (some ⟨D,0,none⟩) L L)/\w.cell? ⟨v,j,none⟩=some (.slice (some ⟨E,0,none⟩) L L)/\∀f,Aa w f->Calls Tryz.prog 44 #[.slice (some ⟨D,0,none⟩) L L,.slice (some ⟨E,0,none⟩) L L] f (Ew f (Co True))):=fun j z=>by
  obtain ⟨u,W,c, -, -,H⟩:=Fo l jo;obtain ⟨v,X,d, -, -,I⟩:=Fo m jo;rw [o] at c;rw [q] at d;simp only [Value.slice.injEq,true_and] at c d;have F:=h.2.2.2.2.2.2.2.2.2.2.2.2.1 _ (jJ z);refine ⟨u,v,(x.lss[j]).g1,(x.lss[j]).g2,(x.lss[j]).T.length,c.1,d.1,(H j z).trans (by simp [z,sl]),(I j z).trans (by simp [z,sl]),fun f b=>?_⟩;refine (LQ (x.lss[j]).T (x.lss[j]).T _ _ f (Ap.of_owns (BG F.1 b)) (Ap.of_owns (BG F.2.1 b)) F.2.2 F.2.2).mono ?_;rintro e w' ⟨Y,Z,h2,h3⟩;exact ⟨Y,Z,h2,⟨fun _=>trivial,fun _=>h3.2 rfl⟩⟩
 rw [o] at G;rw [q] at N;generalize x.p=p at *;generalize x.lss.length=n at *;have aa:=jF G;clear h l m o q;go_enter Tryz.func23,Tryz.ntmps23;go_wp2;go_loopg [3] n (fun r i wr=>Aa w wr/\∃k:Nat,r=n - k/\k<=n/\i= .int .i64 k)
 case atStart=>exact ⟨jD _,0,jo,jo,rfl⟩
 case round=>
  obtain ⟨y,k,hr,hk,rfl⟩:=hrel;have d8:=y.cell G;have d9:=y.cell N;by_cases J:k<n
  .have A:decide ((k:Int)<(n:Int))=true:=jL jo;obtain ⟨u,v,D,E,L,rfl,rfl,O,P,B⟩:=t.out k J;have r1:=y.cell O;have r2:=y.cell P;have g:=fun f (b:Aa wr f)=>B f (y.trans b)
   clear t B O P;go_wp2_with fail;go_region_held3 (fun w'=>Aa wr w'/\w'.cell? ⟨p,8,none⟩=some (.slice (some ⟨u,0,none⟩) n S)/\w'.cell? ⟨p,9,none⟩=some (.slice (some ⟨v,0,none⟩) n V)/\w'.cell? ⟨u,k,none⟩=some (.slice (some ⟨D,0,none⟩) L L)/\w'.cell? ⟨v,k,none⟩=some (.slice (some ⟨E,0,none⟩) L L)) ((exact ⟨jq,Aa.cell (a:=wr) jq d8,Aa.cell (a:=wr) jq d9,Aa.cell (a:=wr) jq r1,Aa.cell (a:=wr) jq r2⟩)) ((go_at_call 44;refine (g _ jq).mono ?_;rintro e w2 ⟨b,rfl,ab,C⟩;obtain rfl:b=true:=(by first|exact C.2 trivial|simpa [Co] using C)));have K:Aa wr w2:=jq
   have M:=y.trans K;clear g;go_wp2;go_roundg (n - (k+1))
   case measure=>omega
   case rel=>exact ⟨M,k+1,rfl,jo,by go_num⟩
  .have A:decide ((k:Int)<(n:Int))=false:=jK jo;clear t;go_wp2;go_ret;exact ⟨_,rfl,y,rfl⟩
theorem Zbu (Q:BitVec 32):(Q.toNat:Int) / 2147483648=(Q.msb.toNat:Int):=by
 rw [BitVec.msb_eq_decide];have:=Q.isLt;by_cases h:2147483648<=Q.toNat
 .have:decide (2 ^ (32 - 1)<=Q.toNat)=true:=by simpa using h
  rw [this];simp only [Bool.toNat_true];omega
 .have:decide (2 ^ (32 - 1)<=Q.toNat)=false:=by simpa using h
  rw [this];simp only [Bool.toNat_false];omega
theorem ZbT (Q:BitVec 32):(Q.toNat:Int) * (2:Int) % (4294967296:Int)=((Q<<<1).toNat:Int):=by
 have e:(Q<<<1).toNat=Q.toNat * 2 % 4294967296:=by
  rw [BitVec.toNat_shiftLeft,Nat.shiftLeft_eq]
 rw [e];generalize Q.toNat=a;omega
theorem Zb5 (n k:Nat):(BitVec.ofNat 32 n).getLsbD k=(decide (k<32) && n.testBit k):=by
 rw [BitVec.getLsbD_ofNat]
theorem Zcm (b:UInt8) (k:Nat) (a:k<8):((b.toNat:Int) / 2 ^ k % 2)=(((BitVec.ofNat 32 b.toNat).getLsbD k).toNat:Int):=by
 rw [Zb5,show decide (k<32)=true from jL jo,Bool.true_and,Nat.toNat_testBit];push_cast;rfl
theorem ZbO (P:BitVec 32):bits .xor .i64 (P.toNat:Int) 79764919=((P ^^^ 0x04c11db7#32).toNat:Int):=by
 have e:(79764919:Int)=((79764919:Nat):Int):=rfl;rw [e,Va _ _ P.isLt ji,BitVec.toNat_xor];rfl
theorem ZbP (l:List UInt8) (k:Nat) (a:k<l.length) (c:BitVec 32):(l.take (k+1)).foldl Zac c=Zac ((l.take k).foldl Zac c) l[k]:=by
 rw [jQ a,List.foldl_append];rfl
def Zaq (Q:BitVec 32) (b:UInt8) (k:Nat):BitVec 32:=(List.range k).foldl (fun r k=>Zaj r ((BitVec.ofNat 32 b.toNat).getLsbD k)) Q
theorem Zch (Q:BitVec 32) (b:UInt8) (k:Nat):Zaq Q b (k+1)=Zaj (Zaq Q b k) ((BitVec.ofNat 32 b.toNat).getLsbD k):=by
 unfold Zaq;rw [List.range_succ,List.foldl_append];rfl
theorem Zck {Q:BitVec 32} {d:Bool} (h:Q.msb=d):Zaj Q d=Q<<<1:=by
 unfold Zaj;rw [h];simp
theorem ZbV {Q:BitVec 32} {d:Bool} (h:Q.msb≠d):Zaj Q d=(Q<<<1) ^^^ 0x04c11db7#32:=by
 unfold Zaj;rw [if_pos (by simpa using h)]
def Zaz (R:BitVec 32):Nat->Int
 |0=>0
 |k+1=>Zaz R k * 2+(1 - (R.toNat:Int) / 2 ^ k % 2)
theorem Zba (X:BitVec 32) (m:Nat):X.toNat / 2 ^ m % 2=(X.getLsbD m).toNat:=by
 rw [BitVec.getLsbD,Nat.toNat_testBit]
theorem Zbx (R:BitVec 32) (k:Nat) (a:k<32):(R.reverse ^^^ 0xFFFFFFFF#32).getLsbD (31 - k)=!R.getLsbD k:=by
 have b:(0xFFFFFFFF#32).getLsbD (31 - k)=true:=by
  have:∀j:Fin 32,(0xFFFFFFFF#32).getLsbD (31 - j.val)=true:=ji
  exact this ⟨k,a⟩
 rw [BitVec.getLsbD_xor,b,BitVec.getLsbD_reverse,BitVec.getMsbD_eq_getLsbD];have c:(32 - 1 - (31 - k))=k:=jo
 rw [c,show decide (31 - k<32)=true from jL jo];simp
theorem Zbe (R:BitVec 32):∀k,k<=32->Zaz R k=(((R.reverse ^^^ 0xFFFFFFFF#32).toNat / 2 ^ (32 - k):Nat):Int)
 |0,_=>by
  have:=(R.reverse ^^^ 0xFFFFFFFF#32).isLt;rw [Nat.div_eq_of_lt this];rfl
 |k+1,hk=>by
  have c:=Zbe R k jo;unfold Zaz;rw [c];have d:=Zbx R k jo;have a:=Zba (R.reverse ^^^ 0xFFFFFFFF#32) (31 - k);have f:=Zba R k;rw [d] at a;have g:32 - (k+1)=31 - k:=jo
  have i:32 - k=31 - k+1:=jo
  rw [g,i,Nat.pow_succ,<-Nat.div_div_eq_div_mul];have l:(R.toNat:Int) / 2 ^ k % 2=((R.getLsbD k).toNat:Int):=by rw [<-f];push_cast;rfl
  rw [l];generalize (R.reverse ^^^ 0xFFFFFFFF#32).toNat / 2 ^ (31 - k)=n at *;cases b:R.getLsbD k
  .rw [b] at a;simp only [Bool.not_false,Bool.toNat_true] at a;simp only [Bool.toNat_false];omega
  .rw [b] at a;simp only [Bool.not_true,Bool.toNat_false] at a;simp only [Bool.toNat_true];omega
theorem Zb4 (l:List UInt8):Zaz (l.foldl Zac 0xFFFFFFFF#32) 32=((CB l).toNat:Int):=by
 rw [Zbe _ 32 (jH _),ZbJ];simp only [Nat.sub_self,Nat.pow_zero,Nat.div_one];rfl
theorem ZbW (Q:BitVec 32) (b:UInt8) (q:Nat) (a:q<8):(((Q.toNat:Int) / 2147483648 !=(b.toNat:Int) / 2 ^ q % 2)=false->((Zaj Q ((BitVec.ofNat 32 b.toNat).getLsbD q)).toNat:Int)=(Q.toNat:Int) * 2 % 4294967296)/\(((Q.toNat:Int) / 2147483648 !=(b.toNat:Int) / 2 ^ q % 2)=true->((Zaj Q ((BitVec.ofNat 32 b.toNat).getLsbD q)).toNat:Int)=bits .xor .i64 ((Q.toNat:Int) * 2 % 4294967296) 79764919):=by
 rw [Zbu,Zcm b q a,ZbT,ZbO];generalize (BitVec.ofNat 32 b.toNat).getLsbD q=d;refine ⟨fun h=>?_,fun h=>?_⟩
 .rw [Zck];cases c:Q.msb <;>cases d <;>simp_all
 .rw [ZbV];cases c:Q.msb <;>cases d <;>simp_all
theorem Zbm (s:ByteArray) (w:World) (H:s.size<=maxLen):
  Calls Tryz.prog 91 #[.string s] w (KG w (fun v=>v=((CB s.data.toList).toNat:Int))):=by
 unfold maxLen at H;have I:=Li;have d:s.data.toList.length=s.size:=rfl;obtain ⟨R,m⟩:∃R,R=((CB s.data.toList).toNat:Int):=⟨_,rfl⟩;rw [<-m];have J:=jp m;clear m;go_enter Tryz.func91,Tryz.ntmps91;go_wp2;go_loopw [3,4] (fun r i wr=>∃(x:Int) (n:Nat),n<=s.size/\r= .int .i64 x/\i= .int .i64 n/\Af x/\Aa w wr/\Hid (x=(((s.data.toList.take n).foldl Zac 0xFFFFFFFF#32).toNat:Int))) (fun _ i _=>s.size - (intOf i).toNat)
 case atStart=>exact ⟨4294967295,0,Nat.zero_le _,rfl,rfl,⟨ji,ji⟩,jD _,rfl⟩
 case round=>
  obtain ⟨x,n,N,rfl,rfl,K,B,l⟩:=hrel;by_cases L:n<s.size
  .have f:s.data.toList[n]'jo=s[n]:=by rw [Array.getElem_toList];rfl
   have C:Hid (Zaq ((s.data.toList.take n).foldl Zac 0xFFFFFFFF#32) s[n] 8=(s.data.toList.take (n+1)).foldl Zac 0xFFFFFFFF#32):=by
    show _=_;rw [ZbP _ _ jo,f];rfl
   have D:Hid (∀q:Nat,q<8->∀Q:BitVec 32,(((Q.toNat:Int) / 2147483648 !=(s[n].toNat:Int) / 2 ^ q % 2)=false->((Zaj Q ((BitVec.ofNat 32 s[n].toNat).getLsbD q)).toNat:Int)=(Q.toNat:Int) * 2 % 4294967296)/\(((Q.toNat:Int) / 2147483648 !=(s[n].toNat:Int) / 2 ^ q % 2)=true->((Zaj Q ((BitVec.ofNat 32 s[n].toNat).getLsbD q)).toNat:Int)=bits .xor .i64 ((Q.toNat:Int) * 2 % 4294967296) 79764919)):=fun q p Q=>ZbW Q s[n] q p
   have E:(s[n].toNat:Int)<256:=by have:=s[n].toNat_lt;omega
   clear f;go_wp2;go_loopw [3,5] (fun r k wr=>∃(x:Int) (q:Nat),q<=8/\r= .int .i64 x/\k= .int .i64 q/\Af x/\Aa w wr/\Hid (x=((Zaq ((s.data.toList.take n).foldl Zac 0xFFFFFFFF#32) s[n] q).toNat:Int))) (fun _ k _=>8 - (intOf k).toNat)
   case atStart=>exact ⟨x,0,jo,rfl,rfl,K,B,l.out⟩
   case round=>
    obtain ⟨y,q,p,rfl,rfl,t,a,c⟩:=hrel;have u:=t.1;have A:=t.2;by_cases b:q<8
    .have F:Hid (((y / 2147483648 !=(s[n].toNat:Int) / 2 ^ q % 2)=false->(y * 2 % 4294967296)=((Zaq ((s.data.toList.take n).foldl Zac 0xFFFFFFFF#32) s[n] (q+1)).toNat:Int))/\((y / 2147483648 !=(s[n].toNat:Int) / 2 ^ q % 2)=true->bits .xor .i64 (y * 2 % 4294967296) 79764919=((Zaq ((s.data.toList.take n).foldl Zac 0xFFFFFFFF#32) s[n] (q+1)).toNat:Int))):=by
      show _/\_;rw [Zch,c.out];have:=D.out q b (Zaq ((s.data.toList.take n).foldl Zac 0xFFFFFFFF#32) s[n] q);exact ⟨fun h=>(this.1 h).symm,fun h=>(this.2 h).symm⟩
     clear D C l c
     go_wp2
     all_goals
      go_roundw
      case rel=>exact ⟨_,q+1,jo,rfl,by go_num,by first|exact Af.turn ⟨jo,jo⟩|exact ⟨jo,jo⟩,a,by first|exact F.out.1 (by assumption)|exact F.out.2 (by assumption)⟩
      case measure=>simp [intOf];omega
    .obtain rfl:q=8:=jo
     go_wp2;go_roundw
     case rel=>exact ⟨y,n+1,jo,rfl,by go_num,t,a,by show _=_;rw [<-C.out];exact c.out⟩
     case measure=>simp [intOf];omega
  .obtain rfl:n=s.size:=jo
   have g:Hid (x=((s.data.toList.foldl Zac 0xFFFFFFFF#32).toNat:Int)):=by
    show _=_;rw [l.out,<-d,List.take_length]
   clear l;go_wp2;go_loopw [7,8] (fun o k wr=>∃(y:Int) (q:Nat),q<=32/\o= .int .i64 y/\k= .int .i64 q/\0<=y/\y<2 ^ q/\Aa w wr/\Hid (y=Zaz (s.data.toList.foldl Zac 0xFFFFFFFF#32) q)) (fun _ k _=>32 - (intOf k).toNat)
   case atStart=>exact ⟨0,0,jo,rfl,rfl,jo,ji,B,rfl⟩
   case round=>
    obtain ⟨y,q,p,rfl,rfl,u,A,a,c⟩:=hrel;have O:=Nk q jo;by_cases b:q<32
    .have G:∀z:Int,0<=z % 2/\z % 2<2:=fun z=>⟨Int.emod_nonneg _ ji,Int.emod_lt_of_pos _ ji⟩
     have P:=G (x / 2 ^ q)
     have M:Hid (y * 2+(1 - x / 2 ^ q % 2)=Zaz (s.data.toList.foldl Zac 0xFFFFFFFF#32) (q+1)):=by
      show _=_;rw [c.out,g.out];rfl
     clear G c g;go_wp2;go_roundw
     case rel=>exact ⟨_,q+1,jo,rfl,by go_num,jo,by rw [Int.pow_succ];omega,a,by have:=M.out;show _=_;omega⟩
     case measure=>simp [intOf];omega
    .have:q=32:=jo
     subst this;go_wp2;go_ret;exact ⟨_,rfl,a,by rw [J.out,c.out,Zb4]⟩
def Zat (C:Int):Nat->ByteArray
 |0=>ByteArray.empty
 |q+1=>Zat C q++DF (C / 2 ^ (8 * q)) 1
theorem Zar (n:Nat):DF n 1=⟨#[UInt8.ofNat n]⟩:=by
 show ByteArray.empty++BH ((n:Int) % 256)=_;rw [N8,ByteArray.empty_append]
theorem Zcc (x:BitVec 32):Zat (x.toNat:Int) 4=Ai (Cn x):=by
 have e:∀q:Nat,(x.toNat:Int) / 2 ^ (8 * q)=((x.toNat / 2 ^ (8 * q):Nat):Int):=fun q=>by push_cast;rfl
 simp only [Zat];rw [e 0,e 1,e 2,e 3,Zar,Zar,Zar,Zar];simp only [Nat.mul_zero,Nat.pow_zero,Nat.div_one,Nat.mul_one,Nat.reduceMul,Nat.reducePow];rfl
theorem ZaE (a:ByteArray) (l:List UInt8):a++Ai l=Ai (a.data.toList++l):=by
 apply ByteArray.ext;simp [Ai]
theorem Zau (l:List UInt8):(Ai l).data.toList=l:=rfl
theorem Zbd (a:ByteArray):Ai a.data.toList=a:=by
 apply ByteArray.ext;simp [Ai]
def Zad (l:List UInt8):List UInt8:=l++Cn (CB l)
theorem ZaH (s:ByteArray) (w:World) (G:s.size<=1099511627776):
  Calls Tryz.prog 51 #[.string s] w (En w (TQ (Ai (Zad s.data.toList)))):=by
 have a:=Zbm s w (by unfold maxLen;omega);obtain ⟨R,g⟩:∃R,R=Ai (Zad s.data.toList):=⟨_,rfl⟩;rw [<-g];obtain ⟨c,i⟩:∃c,c=((CB s.data.toList).toNat:Int):=⟨_,rfl⟩
 have p:Hid (s++Zat c 4=R):=by
  show _=_;rw [g,i,Zcc,ZaE];rfl
 have b:0<=c:=jo
 have u:c<4294967296:=by have:=(CB s.data.toList).isLt;omega
 rw [<-i] at a;clear g i;go_enter Tryz.func51,Tryz.ntmps51;go_wp2_with fail;refine a.mono ?_;rintro e H ⟨v,rfl,l,d⟩;have m:v=c:=d;clear d;subst v;clear a;go_wp2;go_loopw [0,4] (fun t k wr=>∃(x:ByteArray) (q:Nat),q<=4/\t= .string x/\k= .int .i64 q/\x.size=s.size+q/\Aa w wr/\Hid (x=s++Zat c q)) (fun _ k _=>4 - (intOf k).toNat)
 case atStart=>exact ⟨s,0,jo,rfl,rfl,rfl,l,by show s=s++ByteArray.empty;rw [ByteArray.append_empty]⟩
 case round=>
  obtain ⟨x,q,I,rfl,rfl,r,y,n⟩:=hrel;by_cases z:q<4
  .have A:x.size<=1099511627790:=jo
   have B:Hid (x.size=s.size+q):=r;clear r;have J:0<=c / 2 ^ (8 * q):=Int.ediv_nonneg b (Int.le_of_lt (Int.pow_pos ji));have K:c / 2 ^ (8 * q)<=c:=Int.ediv_le_self _ b;have f:=fun C=>Ka (c / 2 ^ (8 * q)) 1 C jo jo jo
   have D:Hid (x++DF (c / 2 ^ (8 * q)) 1=s++Zat c (q+1)):=by
    show _=s++(Zat c q++DF (c / 2 ^ (8 * q)) 1);rw [n.out,ByteArray.append_assoc]
   have E:(DF (c / 2 ^ (8 * q)) 1).size=1:=by
    show (ByteArray.empty++BH _).size=1;rw [jY,EU];rfl
   generalize DF (c / 2 ^ (8 * q)) 1=o at *;clear n p;go_wp2_with fail;refine (f _).mono ?_;rintro e L ⟨v,rfl,F,d⟩;have m:v=o:=d;clear d;subst v;clear f;go_wp2;go_roundw
   case rel=>exact ⟨_,q+1,jo,rfl,by go_num,by have:=B.out;simp [E];omega,jq,D.out⟩
   case measure=>simp [intOf];omega
  .obtain rfl:q=4:=jo
   go_wp2;go_ret;exact ⟨_,rfl,y,by show x=R;rw [n.out];exact p.out⟩
theorem ZbM {l:List UInt8} (h:5<=l.length):CQ l=if Zad (l.take (l.length - 4))=l then some (l.take (l.length - 4)) else none:=by
 unfold CQ Zad;rw [if_neg jo];by_cases e:l.drop (l.length - 4)=Cn (CB (l.take (l.length - 4)))
 .rw [if_pos e,if_pos (by rw [<-e,List.take_append_drop])]
 .rw [if_neg e,if_neg (fun a=>e ?_)];have b:l.take (l.length - 4)++l.drop (l.length - 4)=l.take (l.length - 4)++Cn (CB (l.take (l.length - 4))):=by rw [List.take_append_drop];exact a.symm
  exact List.append_cancel_left b
theorem Zay (s:ByteArray) (k:Nat):s.extract 0 k=Ai (s.data.toList.take k):=by
 apply ByteArray.ext;rw [ByteArray.data_extract];apply Array.toList_inj.1;simp [Ai]
def ZaO (w:World) (l:List UInt8) (e:Ending) (w':World):Prop:=∃(a:ByteArray) (b:Bool),e= .returned (.tuple #[.string a,.bool b])/\Aa w w'/\(b=true↔∃m,CQ l=some m)/\∀m,CQ l=some m->a=Ai m
theorem ZbL (s:ByteArray) (w:World) (y:s.size<=1099511627776):
  Calls Tryz.prog 74 #[.string s] w (ZaO w s.data.toList):=by
 have c:s.data.toList.length=s.size:=rfl;by_cases h:s.size<5
 .have f:Hid (CQ s.data.toList=none):=by
   show _=_;unfold CQ;rw [if_pos jo]
  go_enter Tryz.func74,Tryz.ntmps74
  go_wp2
  go_ret2
  exact ⟨_,_,rfl,jD _,⟨fun h=>(by cases h),fun ⟨m,b⟩=>by rw [f.out] at b;cases b⟩,fun m b=>by rw [f.out] at b;cases b⟩
 .have f:=jp (ZbM (l:=s.data.toList) jo);have z:(s.extract 0 (s.size - 4)).size=s.size - 4:=js
  have g:=Zay s (s.size - 4);have n:=jp g;have d:=fun o=>ZaH (s.extract 0 (s.size - 4)) o jo
  obtain ⟨t,i⟩:∃t,t=Ai (Zad (s.extract 0 (s.size - 4)).data.toList):=⟨_,rfl⟩;rw [<-i] at d;have p:Hid ((t.toList==s.toList)=true↔t=s):=FE
  have q:Hid (t=s↔Zad (s.data.toList.take (s.size - 4))=s.data.toList):=by
   show _↔_;rw [i,g];refine ⟨fun e=>congrArg (fun x:ByteArray=>x.data.toList) e,fun e=>?_⟩;show Ai (Zad (s.data.toList.take (s.size - 4)))=s;rw [e,Zbd]
  clear i g;go_enter Tryz.func74,Tryz.ntmps74;go_wp2_with fail;generalize s.extract 0 (s.size - 4)=a at *;refine (d _).mono ?_;rintro e A ⟨v,rfl,r,k⟩;have u:v=t:=k;clear k;subst v;clear d;go_wp2;go_ret2;refine ⟨_,_,rfl,jq,?_,fun m b=>?_⟩
  .rw [p.out,q.out,f.out,c];refine ⟨fun e=>⟨_,if_pos e⟩,fun ⟨m,b⟩=>?_⟩;split at b
   .assumption
   .cases b
  .rw [f.out,c] at b;split at b
   .rw [n.out,<-Option.some.inj b]
   .cases b
theorem Zae (v:Int) (n:Nat):(DF v n).size=n:=by
 induction n generalizing v with
 |zero=>rfl
 |succ n ih=>
  show (DF (v / 256) n++BH (v % 256)).size=_;rw [jY,ih,EU]
theorem Zbj (v a b:Nat):Ax v (a+b)=Ax (v / 2 ^ b) a++Ax v b:=by
 induction b generalizing v with
 |zero=>simp [Ax]
 |succ b ih=>
  show Ax (v / 2) (a+b)++[v % 2==1]=_;rw [ih (v / 2)];show _=Ax (v / 2 ^ (b+1)) a++(Ax (v / 2) b++[v % 2==1]);rw [List.append_assoc,Nat.pow_succ,Nat.mul_comm,Nat.div_div_eq_div_mul]
theorem ZaY (v b:Nat):Ax (v % 2 ^ b) b=Ax v b:=by
 have a:=Pg (Ax v b);rw [M5,Bd] at a;exact a
theorem Zam (v n:Nat):Az (DF (v:Int) n).data.toList=Ax v (8 * n):=by
 induction n generalizing v with
 |zero=>rfl
 |succ n ih=>
  have e:((v:Int) / 256)=((v / 256:Nat):Int):=jo
  have a:DF (v:Int) (n+1)=DF ((v / 256:Nat):Int) n++Ai [UInt8.ofNat v]:=by
   show DF ((v:Int) / 256) n++BH ((v:Int) % 256)=_;rw [e,N8];rfl
  rw [a,ZaE,Zau,WH,ih];have b:8 * (n+1)=8 * n+8:=jo
  rw [b,Zbj];congr 1;show BT (UInt8.ofNat v)++[]=_;rw [List.append_nil];unfold BT;rw [UInt8.toNat_ofNat',ZaY]
def Zaa (a:List Int) (n:ByteArray):Nat->ByteArray
 |0=>ByteArray.empty
 |k+1=>Zaa a n k++DF (a.getD k 0) ((n.data.toList.getD k 48).toNat - 48)
theorem Zas (b l cap:Nat) (n:ByteArray) (a:List Int) (w:World) (S:n.size=l) (T:l<=16) (C:GP n)
  (D:∀t,t<l->w.cell? ⟨b,t,none⟩=some (.int .i64 (a.getD t 0))) (E:∀t,Aj (a.getD t 0)):
  Calls Tryz.prog 76 #[.slice (some ⟨b,0,none⟩) l cap,.string n] w (En w (TQ (Zaa a n l))):=by
 obtain ⟨R,g⟩:∃R,R=Zaa a n l:=⟨_,rfl⟩;rw [<-g];have F:=jp g;clear g;go_enter Tryz.func76,Tryz.ntmps76;go_wp2;go_loopw [5,6] (fun t i wr=>∃(x:ByteArray) (k:Nat),k<=l/\t= .string x/\i= .int .i64 k/\x.size<=9 * k/\Aa w wr/\Hid (x=Zaa a n k)) (fun _ i _=>l - (intOf i).toNat)
 case atStart=>exact ⟨_,0,jo,rfl,rfl,Nat.zero_le _,jD _,rfl⟩
 case round=>
  obtain ⟨x,k,U,rfl,rfl,V,c,p⟩:=hrel;by_cases q:k<l
  .have r:=c.cell (D k q);obtain ⟨s,u⟩:=E k;have d:k<n.size:=jo
   obtain ⟨v,A⟩:=C k d
   have f:n.data.toList.getD k 48=n[k]:=by
    rw [jV,jG (show k<n.data.toList.length from d),Option.getD_some,Array.getElem_toList];rfl
   obtain ⟨m,G⟩:∃m:Nat,m=n[k].toNat - 48:=⟨_,rfl⟩
   have J:Hid (x++DF (a.getD k 0) m=Zaa a n (k+1)):=by
    show _=Zaa a n k++DF (a.getD k 0) ((n.data.toList.getD k 48).toNat - 48);rw [p.out,f,G]
   have K:=Zae (a.getD k 0) m;have L:m<=9:=jo
   have B:=fun M=>Ka (a.getD k 0) m M s u jo
   have N:IntKind.u8.wrap ((n[k].toNat:Int) - 48)=(m:Int):=by rw [IntKind.wrap_u8];omega
   have H:IntKind.i64.wrap (m:Int)=(m:Int):=by rw [IntKind.wrap_i64];omega
   clear C E D f p F G v A;generalize DF (a.getD k 0) m=o at *;generalize a.getD k 0=z at *;have O:x.size<=1000:=jo
   go_wp2_with fail;go_region_with (go_at_call 92;refine (B _).mono ?_;rintro e W ⟨y,rfl,P,I⟩;have Q:y=o:=I;clear I;subst y)
   all_goals
    go_wp2;go_roundw
    case rel=>exact ⟨_,k+1,jo,rfl,by go_num,jx,jq,J.out⟩
    case measure=>simp [intOf];omega
  .obtain rfl:k=l:=jo
   go_wp2;go_ret;exact ⟨_,rfl,c,by show x=R;rw [p.out,F.out]⟩
def Zag (B:List BK):Nat->ByteArray
 |0=>DF B.length 1
 |k+1=>Zag B k++DF ((B.getD k (ByteArray.empty,0)).1.size:Int) 1++(B.getD k (ByteArray.empty,0)).1++DF (B.getD k (ByteArray.empty,0)).2 1
theorem ZbS (l:List BK) (v:Value) (w:World) (S:Am w v l) (z:AL l):
  Calls Tryz.prog 102 #[v] w (En w (TQ (Zag l l.length))):=by
 obtain ⟨R,A⟩:∃R,R=Zag l l.length:=⟨_,rfl⟩;rw [<-A];have B:=jp A;clear A;obtain ⟨h8,b⟩:=z;rcases S.form with ⟨rfl,rfl⟩|⟨g,cap,rfl,H,hg,I⟩
 .have a:=Ka 0 1 w ji ji ji;go_enter Tryz.func102,Tryz.ntmps102;go_wp2_with fail;refine a.mono ?_;rintro e T ⟨s,rfl,f,y⟩;go_wp2;refine wp_loop_rounds 1 ?_;rw [rounds_succ];go_wp2;go_ret;exact ⟨_,rfl,f,by show s=R;rw [B.out];exact y⟩
 .have a:=Ka (l.length:Int) 1 w jo jo ji;have J:Hid (Zag l 0=DF (l.length:Int) 1):=rfl;have U:=Zae (l.length:Int) 1;generalize DF (l.length:Int) 1=o at *;go_enter Tryz.func102,Tryz.ntmps102;go_wp2_with fail;refine a.mono ?_;rintro e T ⟨s,rfl,f,y⟩;have V:s=o:=y;clear y a;subst s;go_wp2;go_loopw [3,4] (fun t i wr=>∃(x:ByteArray) (k:Nat),k<=l.length/\t= .string x/\i= .int .i64 k/\x.size<=1+10 * k/\Aa w wr/\Hid (x=Zag l k)) (fun _ i _=>l.length - (intOf i).toNat)
  case atStart=>exact ⟨o,0,jo,rfl,rfl,jo,f,J.out.symm⟩
  case round=>
   obtain ⟨x,k,hk,rfl,rfl,hx,C,D⟩:=hrel;by_cases m:k<l.length
   .obtain ⟨K,L⟩:=I k m;have n:=C.cell K;have p:=C.cell L;obtain ⟨W,X,Y,Z⟩:=b _ (jJ m)
    have M:Hid (x++DF (l[k].1.size:Int) 1++l[k].1++DF l[k].2 1=Zag l (k+1)):=by
     show _=Zag l k++DF ((l.getD k (ByteArray.empty,0)).1.size:Int) 1++(l.getD k (ByteArray.empty,0)).1++DF (l.getD k (ByteArray.empty,0)).2 1;have e:l.getD k (ByteArray.empty,0)=l[k]:=by rw [jV,jG m,Option.getD_some]
     rw [D.out,e]
    clear I b D B J K L;generalize l[k]=bk at *;obtain ⟨id,E⟩:=bk;simp only at n p W X Y Z;have c:=fun F=>Ka (id.size:Int) 1 F jo jo ji
    have d:=fun F=>Ka E 1 F jo jo ji
    have aa:=Zae (id.size:Int) 1;have ab:=Zae E 1;simp only at M;generalize DF (id.size:Int) 1=o1 at *;generalize DF E 1=o2 at *;go_wp2_with fail;refine (c _).mono ?_;rintro e w2 ⟨N,rfl,q,r⟩;have r1:=q.cell n;have r2:=q.cell p;have O:N=o1:=r;clear r;subst N;go_wp2_with fail;refine (d _).mono ?_;rintro e w3 ⟨P,rfl,G,u⟩;have r3:=G.cell r1;have Q:P=o2:=u;clear u c d;subst P;have ac:x.size<=81:=jo
    go_wp2;go_roundw
    case rel=>exact ⟨_,k+1,jo,rfl,by go_num,jx,jq,M.out⟩
    case measure=>simp [intOf];omega
   .obtain rfl:k=l.length:=jo
    go_wp2;go_ret;exact ⟨_,rfl,C,by show x=R;rw [D.out,B.out]⟩
def Z8 (L:List Bool):ByteArray:=Ai (L.map fun b=>if b then 49 else 48)
theorem Zaf (L:List Bool):(Z8 L).size=L.length:=by rw [Z8,show (Ai _).size=_ from (by simp [Ai,ByteArray.size]:(Ai (L.map fun b=>if b then 49 else 48)).size=(L.map fun b=>if b then (49:UInt8) else 48).length),je]
theorem Zao (L M:List Bool):Z8 (L++M)=Z8 L++Z8 M:=by
 unfold Z8;rw [ZaE,Zau,List.map_append]
theorem Zbp (n:Nat):Z8 [n % 2==1]=BH (48+(n:Int) % 2):=by
 unfold Z8 BH Ai;rcases Nat.mod_two_eq_zero_or_one n with h|h
 .have e:(48+(n:Int) % 2).toNat=48:=jo
  rw [e,h];rfl
 .have e:(48+(n:Int) % 2).toNat=49:=jo
  rw [e,h];rfl
theorem Zan (v n:Nat) (w:World) (i:n<=62):
  Calls Tryz.prog 154 #[.int .i64 (v:Int),.int .i64 (n:Int)] w (En w (TQ (Z8 (Ax v n)))):=by
 obtain ⟨R,b⟩:∃R,R=Z8 (Ax v n):=⟨_,rfl⟩;rw [<-b];have f:=jp b;clear b;go_enter Tryz.func154,Tryz.ntmps154;go_wp2;go_loopw [5,6] (fun t k wr=>∃(s:ByteArray) (q:Nat),q<=n/\t= .string s/\k= .int .i64 ((n:Int) - 1 - (q:Int))/\s.size=q/\Aa w wr/\Hid (s=Z8 (Ax (v / 2 ^ (n - q)) q))) (fun _ k _=>(intOf k+1).toNat)
 case atStart=>exact ⟨ByteArray.empty,0,Nat.zero_le _,rfl,js,rfl,jD _,rfl⟩
 case round=>
  obtain ⟨s,q,E,rfl,rfl,c,l,d⟩:=hrel;by_cases m:q<n
  .have o:Hid (s++BH (48+(v:Int) / 2 ^ (n - 1 - q) % 2)=Z8 (Ax (v / 2 ^ (n - (q+1))) (q+1))):=by
    show _=_;have p:n - (q+1)=n - 1 - q:=jo
    have r:n - q=n - 1 - q+1:=jo
    have u:((v:Int) / 2 ^ (n - 1 - q))=((v / 2 ^ (n - 1 - q):Nat):Int):=by push_cast;rfl
    rw [d.out,p,u];show _=Z8 (Ax (v / 2 ^ (n - 1 - q) / 2) q++[v / 2 ^ (n - 1 - q) % 2==1]);rw [Zao,Zbp,r,Nat.pow_succ,Nat.div_div_eq_div_mul]
   have x:0<=(n:Int) - 1 - (q:Int):=jo
   have y:(n:Int) - 1 - (q:Int)<64:=jo
   have z:Hid (((n:Int) - 1 - (q:Int)).toNat=n - 1 - q):=by show _=_;omega
   generalize a:(n:Int) - 1 - (q:Int)=k at *
   have A:Hid ((n:Int) - 1 - (q:Int)=k):=a
   clear a d f
   have B:=Kn
   have C:=EU
   have D:=Li
   have g:s.size<=62:=jo
   go_wp2
   go_roundw
   case rel=>
    refine ⟨_,q+1,jo,rfl,by rw [show k - 1=(n:Int) - 1 - ((q+1:Nat):Int) from by have:=A.out;omega],by simp [EU,c],jq,?_⟩
    show _=_
    rw [<-o.out,<-z.out]
   case measure=>simp [intOf];omega
  .obtain rfl:q=n:=jo
   go_wp2;go_ret;exact ⟨_,rfl,l,by show s=R;rw [d.out,f.out,Nat.sub_self,Nat.pow_zero,Nat.div_one]⟩
theorem ZaI (p:Nat) (c:Ac) (gen:Int) (B:List BK) (E:List EN) (id:ByteArray) (w:World) (h:Bz w p c gen B E) (hB:B.length<=8) (hid:∃b∈B,b.1=id):
  Calls Tryz.prog 153 #[.pointer (some ⟨p,0,none⟩),.string id] w (KG w fun m=>m=(Bq id B:Int)):=by
 obtain ⟨vB,vE,_,_,h7,_,hp,_⟩:=h;have hm:=Lh hid;have hat:=Ho hm
 have HF:Hid (∀q,q<Bq id B->∀(hq:q<B.length),B[q].1≠id):=fun q hq hq2 e=>by
  have:=List.not_of_lt_findIdx (p:=fun b:BK=>b.1.toList==id.toList) hq;rw [show (B[q].1.toList==id.toList)=true from FE.2 e] at this;cases this
 generalize Bq id B=m at *;subst hat;rcases hp.form with ⟨_,rfl⟩|⟨g,cap,rfl,_,hg,hc⟩
 .exact absurd hm (by simp)
 .go_enter Tryz.func153,Tryz.ntmps153;go_wp2;go_loopg [5] m (fun r k wr=>w=wr/\∃q:Nat,q<=m/\r=m - q/\k= .int .i64 q)
  case atStart=>exact ⟨rfl,0,by omega,by omega,rfl⟩
  case round=>
   obtain ⟨rfl,q,hq,hr,rfl⟩:=hrel;have hq':q<B.length:=by omega
   have hcell:=(hc q hq').1;by_cases he:B[q].1=B[m].1
   .have HEQ:Hid (q=m):=by
     show q=m;rcases Nat.lt_or_ge q m with h|h
     .exact absurd he (HF.out q h hq')
     .omega
    rw [he] at hcell
    clear HF
    generalize B[m].1=id at *
    clear hc
    go_wp2
    go_ret
    exact ⟨_,rfl,by (repeat (first|exact jD _|assumption|refine jA ?_|refine jB ?_|refine jC ?_|refine Aa.step_set ?_ (by simp <;>omega) _|refine jE ?_ (by assumption))),by rw [HEQ.out]⟩
   .have he':=Rw he
    have hlt:q<m:=by
     rcases Nat.lt_or_ge q m with h|h
     .exact h
     .have:q=m:=by omega
      subst this;exact absurd rfl he
    clear hc;generalize B[m].1=id at *;generalize B[q].1=idq at *;go_wp2;go_roundg (m - (q+1))
    case measure=>omega
    case rel=>exact ⟨rfl,q+1,by omega,rfl,by go_num⟩
theorem ZaF {c:Ac} {b:Bool} (h:Co (EV c) b):Fq c.alg=b:=by
 have a:b=true↔EV c:=h;unfold EV at a;unfold Fq;cases b
 .have:¬(c.alg=2\/c.alg=4):=fun e=>absurd (a.2 e) ji
  simp only [not_or] at this;simp [this.1,this.2]
 .rcases a.1 rfl with e|e <;>simp [e]
def Zal (a:Bool) (B:List BK) (x:EN):ByteArray:=if a then Zaa [x.2.1,x.2.2,(Bq x.1 B:Int)] ⟨#[52,52,49]⟩ 3 else DF (Bq x.1 B:Int) 2
def Zah (a:Bool) (B:List BK) (L:List EN):Nat->ByteArray
 |0=>ByteArray.empty
 |k+1=>Zah a B L k++Zal a B (L.getD k (ByteArray.empty,0,0))
theorem Za6 (a b c:Int):(Zaa [a,b,c] ⟨#[52,52,49]⟩ 3).size=9:=by
 show (((ByteArray.empty++DF a 4)++DF b 4)++DF c 1).size=9;rw [jY,jY,jY,Zae,Zae,Zae];rfl
theorem ZbN (p:Nat) (c:Ac) (gen:Int) (B:List BK) (E L:List EN) (v:Value) (w:World) (h:Bz w p c gen B E) (hB:B.length<=8) (hv:Eb w v L) (hL:L.length<=140000) (hid:∀x∈L,(∃b∈B,b.1=x.1)/\Aj x.2.1/\Aj x.2.2):
  Calls Tryz.prog 103 #[.pointer (some ⟨p,0,none⟩),v] w (En w (TQ (Zah (Fq c.alg) B L L.length))):=by
 obtain ⟨R,hR⟩:∃R,R=Zah (Fq c.alg) B L L.length:=⟨_,rfl⟩;rw [<-hR];have HR:=jp hR;clear hR;obtain ⟨ao,cap,rfl,hc⟩:=hv;go_enter Tryz.func103,Tryz.ntmps103;go_wp2_with fail;refine (Jq p c gen B E _ h).mono ?_;rintro e w1 ⟨pb,rfl,hb1,hpb⟩;have hpb2:Fq c.alg=pb:=ZaF hpb;rw [hpb2] at HR;clear hpb hpb2;go_wp2_with fail;go_loopg [5,7] L.length (fun r t i wr=>∃(x:ByteArray) (k:Nat),k<=L.length/\r=L.length - k/\t= .string x/\i= .int .i64 k/\x.size<=27 * k/\Aa w wr/\Hid (x=Zah pb B L k))
 case atStart=>exact ⟨_,0,by omega,by omega,rfl,rfl,Nat.zero_le _,hb1,rfl⟩
 case round=>
  obtain ⟨x,k,hk,hr,rfl,rfl,hx,hb,HX⟩:=hrel;by_cases hlt:k<L.length
  .obtain ⟨g,off,rfl,q0,q1,q2⟩:=hc k hlt;have r0:=hb.cell q0;have r1:=hb.cell q1;have r2:=hb.cell q2;obtain ⟨hidk,⟨b1,b2⟩,⟨b3,b4⟩⟩:=hid _ (jJ hlt)
   have HN:Hid (x++Zal pb B L[k]=Zah pb B L (k+1)):=by
    show _=Zah pb B L k++Zal pb B (L.getD k (ByteArray.empty,0,0));rw [HX.out,jV,jG hlt,Option.getD_some]
   clear hc hid q0 q1 q2 HX HR;generalize L[k]=en at *;obtain ⟨id,ehi,elo⟩:=en;simp only at r0 r1 r2 hidk b1 b2 b3 b4;have hm2:Bq id B<B.length:=Lh hidk;have hpl:=fun wx (b:Aa w wx)=>ZaI p c gen B E id wx (h.later b) hB hidk
   have HE:Hid (Zal pb B (id,ehi,elo)=if pb then Zaa [ehi,elo,(Bq id B:Int)] ⟨#[52,52,49]⟩ 3 else DF (Bq id B:Int) 2):=rfl;generalize Zal pb B (id,ehi,elo)=en at *;generalize Bq id B=m at *;have hon:=fun wx=>Ka (m:Int) 2 wx (by omega) (by omega) (by decide)
   have hoz:=Zae (m:Int) 2;have hx2:x.size<=9000000:=by omega
   go_wp2_with fail;refine (hpl _ hb).mono ?_;rintro e w2 ⟨m',rfl,hb2,hm'⟩;have hm3:m'=(m:Int):=hm';clear hm' hpl;subst m';have s1:=hb2.cell r1;have s2:=hb2.cell r2;go_wp2_with fail;generalize DF (m:Int) 2=o at *;refine (hon _).mono ?_;rintro e w3 ⟨y,rfl,hb3,hy⟩;have hy2:y=o:=hy;clear hy hon;subst y;have t1:=hb3.cell s1;have t2:=hb3.cell s2;cases pb
   .have HE2:Hid (en=o):=HE.out;go_wp2_with fail;go_roundg (L.length - (k+1))
    case measure=>omega
    case rel=>exact ⟨_,k+1,by omega,rfl,rfl,by go_num,by simp;omega,by (repeat (first|exact jD _|assumption|refine jA ?_|refine jB ?_|refine jC ?_|refine Aa.step_set ?_ (by simp <;>omega) _|refine jE ?_ (by assumption))),by show _=_;rw [<-HN.out,HE2.out]⟩
   .have HE2:Hid (en=Zaa [ehi,elo,(m:Int)] ⟨#[52,52,49]⟩ 3):=HE.out;have hfz:=Za6 ehi elo (m:Int);generalize hfq:Zaa [ehi,elo,(m:Int)] ⟨#[52,52,49]⟩ 3=fq at *;have HFQ:=jp hfq;clear hfq;go_upto_region 9 with fail
    go_cut [9] (fun a wc=>a= .string fq/\Aa w3 wc)
    case first=>
     go_region_held3 (fun w'=>Aa w3 w'/\w'.cell? ⟨g,off+k * 3+1,none⟩=some (.int .i64 ehi)/\w'.cell? ⟨g,off+k * 3+2,none⟩=some (.int .i64 elo)) ((refine Jj ?_ t1 t2;(repeat (first|exact jD _|assumption|refine jA ?_|refine jB ?_|refine jC ?_|refine Aa.step_set ?_ (by simp <;>omega) _|refine jE ?_ (by assumption))))) ((go_at_call 76;refine (Zas _ 3 _ _ [ehi,elo,(m:Int)] _ rfl (by decide) U7 (by intro t ht;match t,ht with|0,_=>simp|1,_=>simp|2,_=>simp) (Aj.three ⟨b1,b2⟩ ⟨b3,b4⟩ ⟨by omega,by omega⟩)).mono ?_;rintro e w4 ⟨z,rfl,hb4,hz⟩;have hzq:z=fq:=(show z=Zaa [ehi,elo,(m:Int)] ⟨#[52,52,49]⟩ 3 from hz).trans HFQ.out;clear hz;subst z))
     all_goals
      go_wp2_with fail;go_meet
      case rel=>exact ⟨rfl,by (repeat (first|exact jD _|assumption|refine jA ?_|refine jB ?_|refine jC ?_|refine Aa.step_set ?_ (by simp <;>omega) _|refine jE ?_ (by assumption)))⟩
    case rest=>
     obtain ⟨rfl,hbc⟩:=hcut;go_wp2_with fail;go_roundg (L.length - (k+1))
     case measure=>omega
     case rel=>exact ⟨_,k+1,by omega,rfl,rfl,by go_num,by simp;omega,by (repeat (first|exact jD _|assumption|refine jA ?_|refine jB ?_|refine jC ?_|refine Aa.step_set ?_ (by simp <;>omega) _|refine jE ?_ (by assumption))),by show _=_;rw [<-HN.out,HE2.out]⟩
  .obtain rfl:k=L.length:=by omega
   go_wp2;go_ret;exact ⟨_,rfl,hb,by show x=R;rw [HX.out,HR.out]⟩
end Go.Proofs.YtpapdkhjdelfcaaGreat
