import Derived.Test.YtpapdkhjdelfcaaGreatLBW
namespace Go.Proofs.YtpapdkhjdelfcaaGreat
open Go.RowKit
set_option maxRecDepth 100000
set_option maxHeartbeats 4000000
def Z9 (a:Bool) (n:Nat) (B:List BK) (x:EN):List Bool:=(if a then Ax x.2.1.toNat 32++Ax x.2.2.toNat 32 else [])++Ax (Bq x.1 B) n
theorem ZaL (a:Bool) (n:Nat) (B:List BK) (id:ByteArray) (b c:Nat):Z8 (Z9 a n B (id,(b:Int),(c:Int)))=if a then (Z8 (Ax b 32)++Z8 (Ax c 32))++Z8 (Ax (Bq id B) n) else Z8 (Ax (Bq id B) n):=by
 unfold Z9;cases a
 .simp
 .simp [Zao,ByteArray.append_assoc]
theorem ZaR:Z8 [false]=⟨#[48]⟩:=rfl
theorem ZaU {Y:List Bool} {y:ByteArray} (h:y=Z8 Y) {i:Nat} (a:i<y.size) (b:i<Y.length):(y[i]'a).toNat=48+Y[i].toNat:=by
 subst h
 have:(Z8 Y)[i]'a=if Y[i] then 49 else 48:=by
  show (Z8 Y).data[i]'_=_;simp [Z8,Ai]
 rw [this];cases Y[i] <;>rfl
theorem Zbi:∀(n:Nat) (X:List Bool),X.length=8 * n->Az (AK X)=X
 |0,X,h=>by
  obtain rfl:X=[]:=jS jo;rfl
 |n+1,X,h=>by
  match X,h with
  |a::b::c::d::e::f::g::k::l,h=>
   have i:l.length=8 * n:=by simp only [List.length_cons] at h;omega
   rw [AK];show BT (UInt8.ofNat (AD [a,b,c,d,e,f,g,k]))++Az (AK l)=_;rw [Lw _ rfl,Zbi n l i];rfl
theorem ZaG {X:List Bool} (h:X.length % 8=0) (C:List Bool):AK (X++C)=AK X++AK C:=by
 have b:=Zbi (X.length / 8) X jo;have a:=J4 (AK X) C;rw [b] at a;exact a
theorem ZaQ {C:List Bool} (h:C.length=8):AK C=[UInt8.ofNat (AD C)]:=by
 match C,h with
 |[a,b,c,d,e,f,g,k],_=>rfl
theorem ZaK (Y:List Bool) (k:Nat) (h:8 * k+8<=Y.length):Ai (AK (Y.take (8 * k)))++⟨#[UInt8.ofNat (AD ((Y.drop (8 * k)).take 8))]⟩=Ai (AK (Y.take (8 * (k+1)))):=by
 have e:Y.take (8 * (k+1))=Y.take (8 * k)++(Y.drop (8 * k)).take 8:=by
  rw [show 8 * (k+1)=8 * k+8 by omega,List.take_add]
 rw [e,ZaG (by rw [jk];omega),ZaQ (C:=(Y.drop (8 * k)).take 8) (by rw [jk,jh];omega)];exact ZaE _ [_]
theorem ZbH (R:List Bool) (j:Nat):AD (R++List.replicate j false)=AD R * 2 ^ j:=by
 induction j with
 |zero=>simp
 |succ j ih=>
  rw [List.replicate_succ',<-List.append_assoc,Ht,ih,Nat.pow_succ];simp only [Bool.toNat_false];rw [Nat.add_zero,Nat.mul_comm 2,Nat.mul_assoc]
theorem ZaV (X:List Bool) (j:Nat) (f:j<8) (h:(X.length+j) % 8=0):AK (X++List.replicate j false)=AK X:=by
 rcases Nat.eq_zero_or_pos j with rfl|c
 .simp
 have d:X=X.take (8 * (X.length / 8))++X.drop (8 * (X.length / 8)):=(List.take_append_drop _ _).symm;have a:(X.take (8 * (X.length / 8))).length % 8=0:=by rw [jk];omega
 have b:(X.drop (8 * (X.length / 8))).length=8 - j:=by rw [jh];omega
 generalize X.take (8 * (X.length / 8))=A at *;generalize X.drop (8 * (X.length / 8))=R at *;rw [d,List.append_assoc,ZaG a,ZaG a];congr 1;rw [MX R jo jo,ZaQ (by rw [jO,List.length_replicate];omega),ZbH,b];congr 4;omega
theorem Zcd (p:Nat) (c:Ac) (H:Int) (B:List BK) (E:List EN) (w:World) (h:Bz w p c H B E) (a5:0<=B.length) (hB:B.length<=2) (hL:E.length<=140000) (I:∀x∈E,(∃b∈B,b.1=x.1)) (hW:∀x∈E,Af x.2.1/\Af x.2.2):
  Calls Tryz.prog 104 #[.pointer (some ⟨p,0,none⟩)] w (En w (TQ (Ai (AK (E.flatMap (Z9 (Fq c.alg) 1 B)))))):=by
 obtain ⟨R,hR⟩:∃R,R=Ai (AK (E.flatMap (Z9 (Fq c.alg) 1 B))):=⟨_,rfl⟩;rw [<-hR];have HR:=jp hR;clear hR;have h0:=h;obtain ⟨vB,vE,_,_,h7,h8,O,P⟩:=h
 obtain ⟨a6,a1,rfl⟩:∃ao cap,vB= .slice ao B.length cap:=by
  rcases O.form with ⟨rfl,rfl⟩|⟨g,cap,rfl,_⟩
  .exact ⟨_,_,rfl⟩
  .exact ⟨_,_,rfl⟩
 obtain ⟨ao,cap,rfl,hc⟩:=P.off;clear O P;go_enter Tryz.func104,Tryz.ntmps104;go_wp2;refine wp_loop_rounds 1 ?_;rw [rounds_succ];go_wp2_with fail;go_quiet (fail);go_wp2_with fail;refine (Jq p c H B E _ (h0.later jq)).mono ?_;rintro e w1 ⟨J,rfl,af,Q⟩;have C:Fq c.alg=J:=ZaF Q;rw [C] at HR;clear Q C;have ag:Aa w w1:=jq
 clear af;go_wp2_with fail;go_loopg [5,6] E.length (fun r t i wr=>∃(x:ByteArray) (k:Nat),k<=E.length/\r=E.length - k/\t= .string x/\i= .int .i64 k/\x.size<=67 * k/\Aa w wr/\Hid (x=Z8 ((E.take k).flatMap (Z9 J 1 B))))
 case atStart=>exact ⟨_,0,jo,jo,rfl,rfl,Nat.zero_le _,ag,rfl⟩
 case round=>
  obtain ⟨x,k,hk,hr,rfl,rfl,hx,K,HX⟩:=hrel;have q8:=K.cell h8;by_cases d:k<E.length
  .obtain ⟨g,a7,rfl,q0,q1,q2⟩:=hc k d;have r0:=K.cell q0;have r1:=K.cell q1;have r2:=K.cell q2;have f:=I _ (jJ d);have S:=hW _ (jJ d)
   have HN:Hid (x++Z8 (Z9 J 1 B E[k])=Z8 ((E.take (k+1)).flatMap (Z9 J 1 B))):=by
    show _=_;rw [HX.out,jQ d,List.flatMap_append,Zao];simp
   clear hc I hW q0 q1 q2 HX HR;generalize E[k]=en at *;obtain ⟨id,a8,a9⟩:=en;simp only at r0 r1 r2 f S;obtain ⟨⟨ah,ba⟩,ai,bb⟩:=S;obtain ⟨hi,rfl⟩:=jM ah;obtain ⟨lo,rfl⟩:=jM ai;have n:=fun a (b:Aa w a)=>ZaI p c H B E id a (h0.later b) jo f
   have T:=ZaL J 1 B id hi lo;rw [T] at HN;clear T;have bc:Bq id B<B.length:=Lh f;generalize Bq id B=m at *;have o:=fun a=>Zan m 1 a ji
   have D:=fun a=>Zan hi 32 a ji
   have F:=fun a=>Zan lo 32 a ji
   have z0:(Z8 (Ax m 1)).size=1:=by rw [Zaf,Bd]
   have z1:(Z8 (Ax hi 32)).size=32:=by rw [Zaf,Bd]
   have z2:(Z8 (Ax lo 32)).size=32:=by rw [Zaf,Bd]
   generalize Z8 (Ax m 1)=om at *;generalize Z8 (Ax hi 32)=aj at *;generalize Z8 (Ax lo 32)=ak at *;have bd:x.size<=9380000:=jo
   cases J
   .go_wp2_with fail;refine (n _ K).mono ?_;rintro e w2 ⟨U,rfl,al,l⟩;have am:U=(m:Int):=l;clear l n;subst U;go_wp2_with fail;refine (o _).mono ?_;rintro e w3 ⟨y,rfl,an,L⟩;have ap:y=om:=L;clear L o;subst y;go_wp2_with fail;go_roundg (E.length - (k+1))
    case measure=>omega
    case rel=>exact ⟨_,k+1,jo,rfl,rfl,by go_num,jx,jq,HN.out⟩
   .go_wp2_with fail;refine (D _).mono ?_;rintro e w4 ⟨y1,rfl,s,V⟩;have a2:y1=aj:=V;clear V D;subst y1;have s8:=s.cell q8;have s2:=s.cell r2;go_wp2_with fail;refine (F _).mono ?_;rintro e w5 ⟨y2,rfl,M,W⟩;have a3:y2=ak:=W;clear W F;subst y2;have t8:=M.cell s8;have t0:=M.cell (s.cell r0);have Z:=(K.trans s).trans M;go_wp2_with fail;refine (n _ Z).mono ?_;rintro e w2 ⟨U,rfl,al,l⟩;have am:U=(m:Int):=l;clear l n;subst U;go_wp2_with fail;refine (o _).mono ?_;rintro e w3 ⟨y,rfl,an,L⟩;have ap:y=om:=L;clear L o;subst y;go_wp2_with fail;go_roundg (E.length - (k+1))
    case measure=>omega
    case rel=>exact ⟨_,k+1,jo,rfl,rfl,by go_num,jx,jq,by have h9:Hid _:=HN.out;show _=_;rw [<-h9.out];simp only [if_true,ByteArray.append_assoc]⟩
  .have be:x.size<=9380000:=jo
   obtain rfl:k=E.length:=jo
   obtain ⟨X,hX⟩:∃X,X=E.flatMap (Z9 J 1 B):=⟨_,rfl⟩
   have N:Hid (x=Z8 X):=by
    show _=_;rw [HX.out,hX,List.take_length]
   have aq:Hid (R=Ai (AK X)):=by
    show _=_;rw [HR.out,hX]
   clear hx HX HR hX hc I hW;go_wp2_with fail;go_loopg [5] 8 (fun r t a=>wr=a/\∃(y:ByteArray),t= .string y/\y.size<=9380000+(8 - r)/\r<=8/\(y.size % 8=0\/y.size % 8+r>=8)/\Hid (∃j:Nat,y=Z8 (X++List.replicate j false)/\y.size=X.length+j/\(j=0\/(0<X.length % 8/\X.length % 8+j<=8))))
   case atStart=>exact ⟨rfl,x,rfl,jo,jo,jo,0,by rw [List.replicate_zero,List.append_nil];exact N.out,by rw [N.out,Zaf];rfl,Or.inl rfl⟩
   case round=>
    obtain ⟨rfl,y,rfl,L,ar,au,HJ⟩:=hrel;have bf:y.size<=9380008:=jo
    by_cases aa:0<y.size % 8
    .go_wp2_with fail;go_roundg (gk - 1)
     case measure=>omega
     case rel => exact ⟨rfl, _, rfl, by rw [jY, show (⟨#[48]⟩ : ByteArray).size = 1 from rfl]; omega, jo, by rw [jY, show (⟨#[48]⟩ : ByteArray).size = 1 from rfl]; omega, by
       obtain ⟨j, A, av, aw⟩ := HJ.out
       refine ⟨j + 1, ?_, ?_, ?_⟩
       . rw [A, <- ZaR, <- Zao, List.append_assoc, <- List.replicate_succ']
       . rw [jY, show (⟨#[48]⟩ : ByteArray).size = 1 from rfl]
         omega
       . right
         omega⟩
    .have HY:Hid (y.size % 8=0):=by have h:=aa;show _=_;omega
     have bg:decide ((0:Int)<(y.size:Int) % 8)=false:=jx
     have HP:Hid (∃Y:List Bool,y=Z8 Y/\Y.length=y.size/\AK Y=AK X):=by
      obtain ⟨j,A,av,aw⟩:=HJ.out;have bh:=HY.out;exact ⟨_,A,by rw [A,Zaf],ZaV X j jo jo⟩
     clear au L ar HJ N;go_wp2_with fail;clear aa;obtain ⟨Y,ab,bi,ac⟩:=HP.out;have ax:=jp ac;have G:∀i (h:i<y.size) (h2:i<Y.length),(y[i]'h).toNat=48+Y[i].toNat:=fun i h h2=>ZaU ab h h2
     have HG:=jp G;clear HP ab ac G;go_loopg [11,12] (y.size / 8) (fun r t i a=>∃(z:ByteArray) (k:Nat),k+r=y.size / 8/\t= .string z/\i= .int .i64 (8 * k)/\z.size<=k/\Aa w a/\Hid (z=Ai (AK (Y.take (8 * k)))))
     case atStart=>exact ⟨_,0,jo,rfl,rfl,Nat.zero_le _,K,rfl⟩
     case round=>
      obtain ⟨z,k,bj,rfl,rfl,hz,ay,HZ⟩:=hrel;by_cases d:8 * k<y.size
      .have a4:decide (8 * (k:Int)<(y.size:Int))=true:=jL jo;go_wp2_with fail;go_loopg [13,14] 8 (fun r v i a=>wr=a/\∃(u:Int) (q:Nat),q<=8/\r=8 - q/\v= .int .i64 u/\i= .int .i64 q/\0<=u/\u<2 ^ q/\Hid (u=(AD ((Y.drop (8 * k)).take q):Int)))
       case atStart=>exact ⟨rfl,0,0,jo,jo,rfl,rfl,jo,ji,rfl⟩
       case round=>
        obtain ⟨rfl,u,q,hq,hr,rfl,rfl,bk,bl,HU⟩:=hrel;have bm:=Qu q hq;by_cases bn:q<8
        .have az:8 * k+q<y.size:=by have hY:=HY.out;omega
         have ad:=HG.out (8 * k+q) az jo;have a0:=Bool.toNat_le (Y[8 * k+q]'jo);have h5:(48:Int)<=(y[8 * k+q].toNat:Int):=jo
         have h6:(y[8 * k+q].toNat:Int)<=49:=jo
         have HV:Hid (2 * u+((y[8 * k+q].toNat:Int) - 48)=(AD ((Y.drop (8 * k)).take (q+1)):Int)):=by
          show _=_;have hd:q<(Y.drop (8 * k)).length:=by rw [jh];omega
          rw [jQ hd,Ht,HU.out,ad,List.getElem_drop];push_cast;omega
         clear ad HU a0;go_wp2_with fail;go_roundg (8 - (q+1))
         case measure=>omega
         case rel=>exact ⟨rfl,_,q+1,jo,rfl,rfl,by go_num,jo,by rw [Int.pow_succ];omega,by have h9:=HV.out;show _=_;omega⟩
        .obtain rfl:q=8:=jo
         have HV:Hid (z++DF u 1=Ai (AK (Y.take (8 * (k+1))))):=by
          show _=_;rw [HZ.out,HU.out,Zar];exact ZaK Y k (by have hY:=HY.out;omega)
         have ae:=fun a=>Ka u 1 a jo jo ji
         have bo:=Zae u 1;generalize DF u 1=ou at *;clear HU HZ;go_wp2_with fail;refine (ae _).mono ?_;rintro e w7 ⟨o1,rfl,bp,ho⟩;have bq:o1=ou:=ho;clear ho ae;subst o1;have br:z.size<=9380008:=jo
         go_wp2_with fail;go_roundg (y.size / 8 - (k+1))
         case measure=>have hY:=HY.out;omega
         case rel=>exact ⟨_,k+1,by have hY:=HY.out;omega,rfl,by go_num,jx,jq,HV.out⟩
      .have HF:Hid (z=R):=by
        show _=_;rw [HZ.out,aq.out,<-ax.out,jR jo]
       go_wp2
       go_ret
       exact ⟨_,rfl,ay,HF.out⟩
theorem ZbE (p:Nat) (c:Ac) (H:Int) (B:List BK) (E:List EN) (w:World) (h:Bz w p c H B E) (a5:3<=B.length) (hB:B.length<=4) (hL:E.length<=140000) (I:∀x∈E,(∃b∈B,b.1=x.1)) (hW:∀x∈E,Af x.2.1/\Af x.2.2):
  Calls Tryz.prog 104 #[.pointer (some ⟨p,0,none⟩)] w (En w (TQ (Ai (AK (E.flatMap (Z9 (Fq c.alg) 2 B)))))):=by
 obtain ⟨R,hR⟩:∃R,R=Ai (AK (E.flatMap (Z9 (Fq c.alg) 2 B))):=⟨_,rfl⟩;rw [<-hR];have HR:=jp hR;clear hR;have h0:=h;obtain ⟨vB,vE,_,_,h7,h8,O,P⟩:=h
 obtain ⟨a6,a1,rfl⟩:∃ao cap,vB= .slice ao B.length cap:=by
  rcases O.form with ⟨rfl,rfl⟩|⟨g,cap,rfl,_⟩
  .exact ⟨_,_,rfl⟩
  .exact ⟨_,_,rfl⟩
 obtain ⟨ao,cap,rfl,hc⟩:=P.off;clear O P;go_enter Tryz.func104,Tryz.ntmps104;go_wp2;refine wp_loop_rounds 2 ?_;rw [rounds_succ];go_wp2_with fail;go_quiet (fail);go_wp2_with fail;rw [rounds_succ];go_wp2_with fail;go_quiet (fail);go_wp2_with fail;refine (Jq p c H B E _ (h0.later (by (repeat (first|exact jD _|assumption|refine jA ?_|refine jB ?_|refine jC ?_|refine Aa.step_set ?_ (by simp <;>omega) _|refine jE ?_ (by assumption)))))).mono ?_;rintro e w1 ⟨J,rfl,af,Q⟩;have C:Fq c.alg=J:=ZaF Q;rw [C] at HR;clear Q C;have ag:Aa w w1:=by (repeat (first|exact jD _|assumption|refine jA ?_|refine jB ?_|refine jC ?_|refine Aa.step_set ?_ (by simp <;>omega) _|refine jE ?_ (by assumption)))
 clear af;go_wp2_with fail;go_loopg [5,6] E.length (fun r t i wr=>∃(x:ByteArray) (k:Nat),k<=E.length/\r=E.length - k/\t= .string x/\i= .int .i64 k/\x.size<=67 * k/\Aa w wr/\Hid (x=Z8 ((E.take k).flatMap (Z9 J 2 B))))
 case atStart=>exact ⟨_,0,by omega,by omega,rfl,rfl,Nat.zero_le _,ag,rfl⟩
 case round=>
  obtain ⟨x,k,hk,hr,rfl,rfl,hx,K,HX⟩:=hrel;have q8:=K.cell h8;by_cases d:k<E.length
  .obtain ⟨g,a7,rfl,q0,q1,q2⟩:=hc k d;have r0:=K.cell q0;have r1:=K.cell q1;have r2:=K.cell q2;have f:=I _ (jJ d);have S:=hW _ (jJ d)
   have HN:Hid (x++Z8 (Z9 J 2 B E[k])=Z8 ((E.take (k+1)).flatMap (Z9 J 2 B))):=by
    show _=_;rw [HX.out,jQ d,List.flatMap_append,Zao];simp
   clear hc I hW q0 q1 q2 HX HR;generalize E[k]=en at *;obtain ⟨id,a8,a9⟩:=en;simp only at r0 r1 r2 f S;obtain ⟨⟨ah,ba⟩,ai,bb⟩:=S;obtain ⟨hi,rfl⟩:=jM ah;obtain ⟨lo,rfl⟩:=jM ai;have n:=fun a (b:Aa w a)=>ZaI p c H B E id a (h0.later b) (by omega) f
   have T:=ZaL J 2 B id hi lo;rw [T] at HN;clear T;have bc:Bq id B<B.length:=Lh f;generalize Bq id B=m at *;have o:=fun a=>Zan m 2 a (by decide)
   have D:=fun a=>Zan hi 32 a (by decide)
   have F:=fun a=>Zan lo 32 a (by decide)
   have z0:(Z8 (Ax m 2)).size=2:=by rw [Zaf,Bd]
   have z1:(Z8 (Ax hi 32)).size=32:=by rw [Zaf,Bd]
   have z2:(Z8 (Ax lo 32)).size=32:=by rw [Zaf,Bd]
   generalize Z8 (Ax m 2)=om at *;generalize Z8 (Ax hi 32)=aj at *;generalize Z8 (Ax lo 32)=ak at *;have bd:x.size<=9380000:=by omega
   cases J
   .go_wp2_with fail;refine (n _ K).mono ?_;rintro e w2 ⟨U,rfl,al,l⟩;have am:U=(m:Int):=l;clear l n;subst U;go_wp2_with fail;refine (o _).mono ?_;rintro e w3 ⟨y,rfl,an,L⟩;have ap:y=om:=L;clear L o;subst y;go_wp2_with fail;go_roundg (E.length - (k+1))
    case measure=>omega
    case rel=>exact ⟨_,k+1,by omega,rfl,rfl,by go_num,by simp;omega,by (repeat (first|exact jD _|assumption|refine jA ?_|refine jB ?_|refine jC ?_|refine Aa.step_set ?_ (by simp <;>omega) _|refine jE ?_ (by assumption))),HN.out⟩
   .go_wp2_with fail;refine (D _).mono ?_;rintro e w4 ⟨y1,rfl,s,V⟩;have a2:y1=aj:=V;clear V D;subst y1;have s8:=s.cell q8;have s2:=s.cell r2;go_wp2_with fail;refine (F _).mono ?_;rintro e w5 ⟨y2,rfl,M,W⟩;have a3:y2=ak:=W;clear W F;subst y2;have t8:=M.cell s8;have t0:=M.cell (s.cell r0);have Z:=(K.trans s).trans M;go_wp2_with fail;refine (n _ Z).mono ?_;rintro e w2 ⟨U,rfl,al,l⟩;have am:U=(m:Int):=l;clear l n;subst U;go_wp2_with fail;refine (o _).mono ?_;rintro e w3 ⟨y,rfl,an,L⟩;have ap:y=om:=L;clear L o;subst y;go_wp2_with fail;go_roundg (E.length - (k+1))
    case measure=>omega
    case rel=>exact ⟨_,k+1,by omega,rfl,rfl,by go_num,by simp;omega,by (repeat (first|exact jD _|assumption|refine jA ?_|refine jB ?_|refine jC ?_|refine Aa.step_set ?_ (by simp <;>omega) _|refine jE ?_ (by assumption))),by have h9:Hid _:=HN.out;show _=_;rw [<-h9.out];simp only [if_true,ByteArray.append_assoc]⟩
  .have be:x.size<=9380000:=by omega
   obtain rfl:k=E.length:=by omega
   obtain ⟨X,hX⟩:∃X,X=E.flatMap (Z9 J 2 B):=⟨_,rfl⟩
   have N:Hid (x=Z8 X):=by
    show _=_;rw [HX.out,hX,List.take_length]
   have aq:Hid (R=Ai (AK X)):=by
    show _=_;rw [HR.out,hX]
   clear hx HX HR hX hc I hW;go_wp2_with fail;go_loopg [5] 8 (fun r t a=>wr=a/\∃(y:ByteArray),t= .string y/\y.size<=9380000+(8 - r)/\r<=8/\(y.size % 8=0\/y.size % 8+r>=8)/\Hid (∃j:Nat,y=Z8 (X++List.replicate j false)/\y.size=X.length+j/\(j=0\/(0<X.length % 8/\X.length % 8+j<=8))))
   case atStart=>exact ⟨rfl,x,rfl,by omega,by omega,by omega,0,by rw [List.replicate_zero,List.append_nil];exact N.out,by rw [N.out,Zaf];rfl,Or.inl rfl⟩
   case round=>
    obtain ⟨rfl,y,rfl,L,ar,au,HJ⟩:=hrel;have bf:y.size<=9380008:=by omega
    by_cases aa:0<y.size % 8
    .go_wp2_with fail;go_roundg (gk - 1)
     case measure=>omega
     case rel => exact ⟨rfl, _, rfl, by rw [jY, show (⟨#[48]⟩ : ByteArray).size = 1 from rfl]; omega, by omega, by rw [jY, show (⟨#[48]⟩ : ByteArray).size = 1 from rfl]; omega, by
       obtain ⟨j, A, av, aw⟩ := HJ.out
       refine ⟨j + 1, ?_, ?_, ?_⟩
       . rw [A, <- ZaR, <- Zao, List.append_assoc, <- List.replicate_succ']
       . rw [jY, show (⟨#[48]⟩ : ByteArray).size = 1 from rfl]
         omega
       . right
         omega⟩
    .have HY:Hid (y.size % 8=0):=by have h:=aa;show _=_;omega
     have bg:decide ((0:Int)<(y.size:Int) % 8)=false:=by simp;omega
     have HP:Hid (∃Y:List Bool,y=Z8 Y/\Y.length=y.size/\AK Y=AK X):=by
      obtain ⟨j,A,av,aw⟩:=HJ.out;have bh:=HY.out;exact ⟨_,A,by rw [A,Zaf],ZaV X j (by omega) (by omega)⟩
     clear au L ar HJ N;go_wp2_with fail;clear aa;obtain ⟨Y,ab,bi,ac⟩:=HP.out;have ax:=jp ac;have G:∀i (h:i<y.size) (h2:i<Y.length),(y[i]'h).toNat=48+Y[i].toNat:=fun i h h2=>ZaU ab h h2
     have HG:=jp G;clear HP ab ac G;go_loopg [11,12] (y.size / 8) (fun r t i a=>∃(z:ByteArray) (k:Nat),k+r=y.size / 8/\t= .string z/\i= .int .i64 (8 * k)/\z.size<=k/\Aa w a/\Hid (z=Ai (AK (Y.take (8 * k)))))
     case atStart=>exact ⟨_,0,by omega,rfl,rfl,Nat.zero_le _,K,rfl⟩
     case round=>
      obtain ⟨z,k,bj,rfl,rfl,hz,ay,HZ⟩:=hrel;by_cases d:8 * k<y.size
      .have a4:decide (8 * (k:Int)<(y.size:Int))=true:=jL (by omega);go_wp2_with fail;go_loopg [13,14] 8 (fun r v i a=>wr=a/\∃(u:Int) (q:Nat),q<=8/\r=8 - q/\v= .int .i64 u/\i= .int .i64 q/\0<=u/\u<2 ^ q/\Hid (u=(AD ((Y.drop (8 * k)).take q):Int)))
       case atStart=>exact ⟨rfl,0,0,by omega,by omega,rfl,rfl,by omega,by decide,rfl⟩
       case round=>
        obtain ⟨rfl,u,q,hq,hr,rfl,rfl,bk,bl,HU⟩:=hrel;have bm:=Qu q hq;by_cases bn:q<8
        .have az:8 * k+q<y.size:=by have hY:=HY.out;omega
         have ad:=HG.out (8 * k+q) az (by omega);have a0:=Bool.toNat_le (Y[8 * k+q]'(by omega));have h5:(48:Int)<=(y[8 * k+q].toNat:Int):=by omega
         have h6:(y[8 * k+q].toNat:Int)<=49:=by omega
         have HV:Hid (2 * u+((y[8 * k+q].toNat:Int) - 48)=(AD ((Y.drop (8 * k)).take (q+1)):Int)):=by
          show _=_;have hd:q<(Y.drop (8 * k)).length:=by rw [jh];omega
          rw [jQ hd,Ht,HU.out,ad,List.getElem_drop];push_cast;omega
         clear ad HU a0;go_wp2_with fail;go_roundg (8 - (q+1))
         case measure=>omega
         case rel=>exact ⟨rfl,_,q+1,by omega,rfl,rfl,by go_num,by omega,by rw [Int.pow_succ];omega,by have h9:=HV.out;show _=_;omega⟩
        .obtain rfl:q=8:=by omega
         have HV:Hid (z++DF u 1=Ai (AK (Y.take (8 * (k+1))))):=by
          show _=_;rw [HZ.out,HU.out,Zar];exact ZaK Y k (by have hY:=HY.out;omega)
         have ae:=fun a=>Ka u 1 a (by omega) (by omega) (by decide)
         have bo:=Zae u 1;generalize DF u 1=ou at *;clear HU HZ;go_wp2_with fail;refine (ae _).mono ?_;rintro e w7 ⟨o1,rfl,bp,ho⟩;have bq:o1=ou:=ho;clear ho ae;subst o1;have br:z.size<=9380008:=by omega
         go_wp2_with fail;go_roundg (y.size / 8 - (k+1))
         case measure=>have hY:=HY.out;omega
         case rel=>exact ⟨_,k+1,by have hY:=HY.out;omega,rfl,by go_num,by simp;omega,by (repeat (first|exact jD _|assumption|refine jA ?_|refine jB ?_|refine jC ?_|refine Aa.step_set ?_ (by simp <;>omega) _|refine jE ?_ (by assumption))),HV.out⟩
      .have HF:Hid (z=R):=by
        show _=_;rw [HZ.out,aq.out,<-ax.out,jR (by omega)]
       go_wp2
       go_ret
       exact ⟨_,rfl,ay,HF.out⟩
theorem Zb9 (p:Nat) (c:Ac) (H:Int) (B:List BK) (E:List EN) (w:World) (h:Bz w p c H B E) (a5:5<=B.length) (hB:B.length<=8) (hL:E.length<=140000) (I:∀x∈E,(∃b∈B,b.1=x.1)) (hW:∀x∈E,Af x.2.1/\Af x.2.2):
  Calls Tryz.prog 104 #[.pointer (some ⟨p,0,none⟩)] w (En w (TQ (Ai (AK (E.flatMap (Z9 (Fq c.alg) 3 B)))))):=by
 obtain ⟨R,hR⟩:∃R,R=Ai (AK (E.flatMap (Z9 (Fq c.alg) 3 B))):=⟨_,rfl⟩;rw [<-hR];have HR:=jp hR;clear hR;have h0:=h;obtain ⟨vB,vE,_,_,h7,h8,O,P⟩:=h
 obtain ⟨a6,a1,rfl⟩:∃ao cap,vB= .slice ao B.length cap:=by
  rcases O.form with ⟨rfl,rfl⟩|⟨g,cap,rfl,_⟩
  .exact ⟨_,_,rfl⟩
  .exact ⟨_,_,rfl⟩
 obtain ⟨ao,cap,rfl,hc⟩:=P.off;clear O P;go_enter Tryz.func104,Tryz.ntmps104;go_wp2;refine wp_loop_rounds 3 ?_;rw [rounds_succ];go_wp2_with fail;go_quiet (fail);go_wp2_with fail;rw [rounds_succ];go_wp2_with fail;go_quiet (fail);go_wp2_with fail;rw [rounds_succ];go_wp2_with fail;go_quiet (fail);go_wp2_with fail;refine (Jq p c H B E _ (h0.later (by (repeat (first|exact jD _|assumption|refine jA ?_|refine jB ?_|refine jC ?_|refine Aa.step_set ?_ (by simp <;>omega) _|refine jE ?_ (by assumption)))))).mono ?_;rintro e w1 ⟨J,rfl,af,Q⟩;have C:Fq c.alg=J:=ZaF Q;rw [C] at HR;clear Q C;have ag:Aa w w1:=by (repeat (first|exact jD _|assumption|refine jA ?_|refine jB ?_|refine jC ?_|refine Aa.step_set ?_ (by simp <;>omega) _|refine jE ?_ (by assumption)))
 clear af;go_wp2_with fail;go_loopg [5,6] E.length (fun r t i wr=>∃(x:ByteArray) (k:Nat),k<=E.length/\r=E.length - k/\t= .string x/\i= .int .i64 k/\x.size<=67 * k/\Aa w wr/\Hid (x=Z8 ((E.take k).flatMap (Z9 J 3 B))))
 case atStart=>exact ⟨_,0,by omega,by omega,rfl,rfl,Nat.zero_le _,ag,rfl⟩
 case round=>
  obtain ⟨x,k,hk,hr,rfl,rfl,hx,K,HX⟩:=hrel;have q8:=K.cell h8;by_cases d:k<E.length
  .obtain ⟨g,a7,rfl,q0,q1,q2⟩:=hc k d;have r0:=K.cell q0;have r1:=K.cell q1;have r2:=K.cell q2;have f:=I _ (jJ d);have S:=hW _ (jJ d)
   have HN:Hid (x++Z8 (Z9 J 3 B E[k])=Z8 ((E.take (k+1)).flatMap (Z9 J 3 B))):=by
    show _=_;rw [HX.out,jQ d,List.flatMap_append,Zao];simp
   clear hc I hW q0 q1 q2 HX HR;generalize E[k]=en at *;obtain ⟨id,a8,a9⟩:=en;simp only at r0 r1 r2 f S;obtain ⟨⟨ah,ba⟩,ai,bb⟩:=S;obtain ⟨hi,rfl⟩:=jM ah;obtain ⟨lo,rfl⟩:=jM ai;have n:=fun a (b:Aa w a)=>ZaI p c H B E id a (h0.later b) (by omega) f
   have T:=ZaL J 3 B id hi lo;rw [T] at HN;clear T;have bc:Bq id B<B.length:=Lh f;generalize Bq id B=m at *;have o:=fun a=>Zan m 3 a (by decide)
   have D:=fun a=>Zan hi 32 a (by decide)
   have F:=fun a=>Zan lo 32 a (by decide)
   have z0:(Z8 (Ax m 3)).size=3:=by rw [Zaf,Bd]
   have z1:(Z8 (Ax hi 32)).size=32:=by rw [Zaf,Bd]
   have z2:(Z8 (Ax lo 32)).size=32:=by rw [Zaf,Bd]
   generalize Z8 (Ax m 3)=om at *;generalize Z8 (Ax hi 32)=aj at *;generalize Z8 (Ax lo 32)=ak at *;have bd:x.size<=9380000:=by omega
   cases J
   .go_wp2_with fail;refine (n _ K).mono ?_;rintro e w2 ⟨U,rfl,al,l⟩;have am:U=(m:Int):=l;clear l n;subst U;go_wp2_with fail;refine (o _).mono ?_;rintro e w3 ⟨y,rfl,an,L⟩;have ap:y=om:=L;clear L o;subst y;go_wp2_with fail;go_roundg (E.length - (k+1))
    case measure=>omega
    case rel=>exact ⟨_,k+1,by omega,rfl,rfl,by go_num,by simp;omega,by (repeat (first|exact jD _|assumption|refine jA ?_|refine jB ?_|refine jC ?_|refine Aa.step_set ?_ (by simp <;>omega) _|refine jE ?_ (by assumption))),HN.out⟩
   .go_wp2_with fail;refine (D _).mono ?_;rintro e w4 ⟨y1,rfl,s,V⟩;have a2:y1=aj:=V;clear V D;subst y1;have s8:=s.cell q8;have s2:=s.cell r2;go_wp2_with fail;refine (F _).mono ?_;rintro e w5 ⟨y2,rfl,M,W⟩;have a3:y2=ak:=W;clear W F;subst y2;have t8:=M.cell s8;have t0:=M.cell (s.cell r0);have Z:=(K.trans s).trans M;go_wp2_with fail;refine (n _ Z).mono ?_;rintro e w2 ⟨U,rfl,al,l⟩;have am:U=(m:Int):=l;clear l n;subst U;go_wp2_with fail;refine (o _).mono ?_;rintro e w3 ⟨y,rfl,an,L⟩;have ap:y=om:=L;clear L o;subst y;go_wp2_with fail;go_roundg (E.length - (k+1))
    case measure=>omega
    case rel=>exact ⟨_,k+1,by omega,rfl,rfl,by go_num,by simp;omega,by (repeat (first|exact jD _|assumption|refine jA ?_|refine jB ?_|refine jC ?_|refine Aa.step_set ?_ (by simp <;>omega) _|refine jE ?_ (by assumption))),by have h9:Hid _:=HN.out;show _=_;rw [<-h9.out];simp only [if_true,ByteArray.append_assoc]⟩
  .have be:x.size<=9380000:=by omega
   obtain rfl:k=E.length:=by omega
   obtain ⟨X,hX⟩:∃X,X=E.flatMap (Z9 J 3 B):=⟨_,rfl⟩
   have N:Hid (x=Z8 X):=by
    show _=_;rw [HX.out,hX,List.take_length]
   have aq:Hid (R=Ai (AK X)):=by
    show _=_;rw [HR.out,hX]
   clear hx HX HR hX hc I hW;go_wp2_with fail;go_loopg [5] 8 (fun r t a=>wr=a/\∃(y:ByteArray),t= .string y/\y.size<=9380000+(8 - r)/\r<=8/\(y.size % 8=0\/y.size % 8+r>=8)/\Hid (∃j:Nat,y=Z8 (X++List.replicate j false)/\y.size=X.length+j/\(j=0\/(0<X.length % 8/\X.length % 8+j<=8))))
   case atStart=>exact ⟨rfl,x,rfl,by omega,by omega,by omega,0,by rw [List.replicate_zero,List.append_nil];exact N.out,by rw [N.out,Zaf];rfl,Or.inl rfl⟩
   case round=>
    obtain ⟨rfl,y,rfl,L,ar,au,HJ⟩:=hrel;have bf:y.size<=9380008:=by omega
    by_cases aa:0<y.size % 8
    .go_wp2_with fail;go_roundg (gk - 1)
     case measure=>omega
     case rel => exact ⟨rfl, _, rfl, by rw [jY, show (⟨#[48]⟩ : ByteArray).size = 1 from rfl]; omega, by omega, by rw [jY, show (⟨#[48]⟩ : ByteArray).size = 1 from rfl]; omega, by
       obtain ⟨j, A, av, aw⟩ := HJ.out
       refine ⟨j + 1, ?_, ?_, ?_⟩
       . rw [A, <- ZaR, <- Zao, List.append_assoc, <- List.replicate_succ']
       . rw [jY, show (⟨#[48]⟩ : ByteArray).size = 1 from rfl]
         omega
       . right
         omega⟩
    .have HY:Hid (y.size % 8=0):=by have h:=aa;show _=_;omega
     have bg:decide ((0:Int)<(y.size:Int) % 8)=false:=by simp;omega
     have HP:Hid (∃Y:List Bool,y=Z8 Y/\Y.length=y.size/\AK Y=AK X):=by
      obtain ⟨j,A,av,aw⟩:=HJ.out;have bh:=HY.out;exact ⟨_,A,by rw [A,Zaf],ZaV X j (by omega) (by omega)⟩
     clear au L ar HJ N;go_wp2_with fail;clear aa;obtain ⟨Y,ab,bi,ac⟩:=HP.out;have ax:=jp ac;have G:∀i (h:i<y.size) (h2:i<Y.length),(y[i]'h).toNat=48+Y[i].toNat:=fun i h h2=>ZaU ab h h2
     have HG:=jp G;clear HP ab ac G;go_loopg [11,12] (y.size / 8) (fun r t i a=>∃(z:ByteArray) (k:Nat),k+r=y.size / 8/\t= .string z/\i= .int .i64 (8 * k)/\z.size<=k/\Aa w a/\Hid (z=Ai (AK (Y.take (8 * k)))))
     case atStart=>exact ⟨_,0,by omega,rfl,rfl,Nat.zero_le _,K,rfl⟩
     case round=>
      obtain ⟨z,k,bj,rfl,rfl,hz,ay,HZ⟩:=hrel;by_cases d:8 * k<y.size
      .have a4:decide (8 * (k:Int)<(y.size:Int))=true:=jL (by omega);go_wp2_with fail;go_loopg [13,14] 8 (fun r v i a=>wr=a/\∃(u:Int) (q:Nat),q<=8/\r=8 - q/\v= .int .i64 u/\i= .int .i64 q/\0<=u/\u<2 ^ q/\Hid (u=(AD ((Y.drop (8 * k)).take q):Int)))
       case atStart=>exact ⟨rfl,0,0,by omega,by omega,rfl,rfl,by omega,by decide,rfl⟩
       case round=>
        obtain ⟨rfl,u,q,hq,hr,rfl,rfl,bk,bl,HU⟩:=hrel;have bm:=Qu q hq;by_cases bn:q<8
        .have az:8 * k+q<y.size:=by have hY:=HY.out;omega
         have ad:=HG.out (8 * k+q) az (by omega);have a0:=Bool.toNat_le (Y[8 * k+q]'(by omega));have h5:(48:Int)<=(y[8 * k+q].toNat:Int):=by omega
         have h6:(y[8 * k+q].toNat:Int)<=49:=by omega
         have HV:Hid (2 * u+((y[8 * k+q].toNat:Int) - 48)=(AD ((Y.drop (8 * k)).take (q+1)):Int)):=by
          show _=_;have hd:q<(Y.drop (8 * k)).length:=by rw [jh];omega
          rw [jQ hd,Ht,HU.out,ad,List.getElem_drop];push_cast;omega
         clear ad HU a0;go_wp2_with fail;go_roundg (8 - (q+1))
         case measure=>omega
         case rel=>exact ⟨rfl,_,q+1,by omega,rfl,rfl,by go_num,by omega,by rw [Int.pow_succ];omega,by have h9:=HV.out;show _=_;omega⟩
        .obtain rfl:q=8:=by omega
         have HV:Hid (z++DF u 1=Ai (AK (Y.take (8 * (k+1))))):=by
          show _=_;rw [HZ.out,HU.out,Zar];exact ZaK Y k (by have hY:=HY.out;omega)
         have ae:=fun a=>Ka u 1 a (by omega) (by omega) (by decide)
         have bo:=Zae u 1;generalize DF u 1=ou at *;clear HU HZ;go_wp2_with fail;refine (ae _).mono ?_;rintro e w7 ⟨o1,rfl,bp,ho⟩;have bq:o1=ou:=ho;clear ho ae;subst o1;have br:z.size<=9380008:=by omega
         go_wp2_with fail;go_roundg (y.size / 8 - (k+1))
         case measure=>have hY:=HY.out;omega
         case rel=>exact ⟨_,k+1,by have hY:=HY.out;omega,rfl,by go_num,by simp;omega,by (repeat (first|exact jD _|assumption|refine jA ?_|refine jB ?_|refine jC ?_|refine Aa.step_set ?_ (by simp <;>omega) _|refine jE ?_ (by assumption))),HV.out⟩
      .have HF:Hid (z=R):=by
        show _=_;rw [HZ.out,aq.out,<-ax.out,jR (by omega)]
       go_wp2
       go_ret
       exact ⟨_,rfl,ay,HF.out⟩
theorem Zb6 (p:Nat) (c:Ac) (a:Int) (B:List BK) (E:List EN) (w:World) (h:Bz w p c a B E) (l:B.length<=8) (f:E.length<=140000) (d:∀x∈E,(∃b∈B,b.1=x.1)) (g:∀x∈E,Af x.2.1/\Af x.2.2):
  Calls Tryz.prog 104 #[.pointer (some ⟨p,0,none⟩)] w (En w (TQ (Ai (AK (E.flatMap (Z9 (Fq c.alg) (Gf B.length) B)))))):=by
 have i:(B.length<=2->Gf B.length=1)/\(3<=B.length/\B.length<=4->Gf B.length=2)/\(5<=B.length->Gf B.length=3):=by
  unfold Gf G3;refine ⟨fun _=>?_,fun _=>?_,fun _=>?_⟩
  .rw [if_pos jo]
  .rw [if_neg jo,if_pos jo]
  .rw [if_neg jo,if_neg jo]
 rcases (show B.length<=2\/(3<=B.length/\B.length<=4)\/5<=B.length by omega) with k|k|k
 .rw [i.1 k];exact Zcd p c a B E w h (Nat.zero_le _) k f d g
 .rw [i.2.1 k];exact ZbE p c a B E w h k.1 k.2 f d g
 .rw [i.2.2 k];exact Zb9 p c a B E w h k l f d g
end Go.Proofs.YtpapdkhjdelfcaaGreat
