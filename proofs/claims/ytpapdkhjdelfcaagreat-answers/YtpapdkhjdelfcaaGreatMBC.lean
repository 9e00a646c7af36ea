import Derived.Test.YtpapdkhjdelfcaaGreatMBB
import Derived.Deep.CutBlock
namespace Go.Proofs.YtpapdkhjdelfcaaGreat
open Go.RowKit
set_option maxRecDepth 100000
set_option maxHeartbeats 4000000
def Z9 (pt:Bool) (n:Nat) (B:List BK) (x:EN):List Bool:=(if pt then Ax x.2.1.toNat 32++Ax x.2.2.toNat 32 else [])++Ax (Bq x.1 B) n
theorem ZaL (pt:Bool) (n:Nat) (B:List BK) (id:jt) (a b:Nat):Z8 (Z9 pt n B (id,(a:Int),(b:Int)))=if pt then (Z8 (Ax a 32)++Z8 (Ax b 32))++Z8 (Ax (Bq id B) n) else Z8 (Ax (Bq id B) n):=by
 unfold Z9;cases pt
 .simp
 .simp [Zao,ByteArray.append_assoc]
theorem ZaR:Z8 [false]=⟨#[48]⟩:=rfl
theorem ZaU {Y:jz} {y:jt} (h:y=Z8 Y) {i:Nat} (a:i<y.size) (b:i<Y.length):(y[i]'a).toNat=48+Y[i].toNat:=by
 subst h
 have:(Z8 Y)[i]'a=if Y[i] then 49 else 48:=by
  show (Z8 Y).data[i]'_=_;simp [Z8,Ai]
 rw [this];cases Y[i] <;>rfl
theorem Zbi:∀(n:Nat) (X:jz),X.length=8 * n->Az (AK X)=X
 |0,X,h=>by
  obtain rfl:X=[]:=jS jo;rfl
 |n+1,X,h=>by
  match X,h with
  |a::b::c::d::e::f::g::k::l,h=>
   have i:l.length=8 * n:=by simp only [List.length_cons] at h;omega
   rw [AK];show BT (UInt8.ofNat (AD [a,b,c,d,e,f,g,k]))++Az (AK l)=_;rw [Lw _ rfl,Zbi n l i];rfl
theorem ZaG {X:jz} (h:X.length % 8=0) (C:jz):AK (X++C)=AK X++AK C:=by
 have b:=Zbi (X.length / 8) X jo;have a:=J4 (AK X) C;rw [b] at a;exact a
theorem ZaQ {C:jz} (h:C.length=8):AK C=[UInt8.ofNat (AD C)]:=by
 match C,h with
 |[a,b,c,d,e,f,g,k],_=>rfl
theorem ZaK (Y:jz) (k:Nat) (h:8 * k+8<=Y.length):Ai (AK (Y.take (8 * k)))++⟨#[UInt8.ofNat (AD ((Y.drop (8 * k)).take 8))]⟩=Ai (AK (Y.take (8 * (k+1)))):=by
 have e:Y.take (8 * (k+1))=Y.take (8 * k)++(Y.drop (8 * k)).take 8:=by
  rw [show 8 * (k+1)=8 * k+8 by omega,List.take_add]
 rw [e,ZaG (by rw [jk];omega),ZaQ (C:=(Y.drop (8 * k)).take 8) (by rw [jk,jh];omega)];exact ZaE _ [_]
theorem ZbH (R:jz) (j:Nat):AD (R++List.replicate j false)=AD R * 2 ^ j:=by
 induction j with
 |zero=>simp
 |succ j ih=>
  rw [List.replicate_succ',<-List.append_assoc,Ht,ih,Nat.pow_succ];simp only [Bool.toNat_false];rw [Nat.add_zero,Nat.mul_comm 2,Nat.mul_assoc]
theorem ZaV (X:jz) (j:Nat) (f:j<8) (h:(X.length+j) % 8=0):AK (X++List.replicate j false)=AK X:=by
 rcases Nat.eq_zero_or_pos j with rfl|c
 .simp
 have d:X=X.take (8 * (X.length / 8))++X.drop (8 * (X.length / 8)):=(List.take_append_drop _ _).symm;have a:(X.take (8 * (X.length / 8))).length % 8=0:=by rw [jk];omega
 have b:(X.drop (8 * (X.length / 8))).length=8 - j:=by rw [jh];omega
 generalize X.take (8 * (X.length / 8))=A at *;generalize X.drop (8 * (X.length / 8))=R at *;rw [d,List.append_assoc,ZaG a,ZaG a];congr 1;rw [MX R jo jo,ZaQ (by rw [jO,List.length_replicate];omega),ZbH,b];congr 4;omega
theorem ZeD (p:Nat) (c:Ac) (H:Int) (B:List BK) (E:List EN) (w:jj) (h:Bz w p c H B E) (hB:B.length<=8) (q:Nat) (hq:(q=1/\B.length<=2)\/(q=2/\3<=B.length/\B.length<=4)\/(q=3/\5<=B.length)) (hL:E.length<=140000) (I:∀x∈E,(∃b∈B,b.1=x.1)) (hW:∀x∈E,Af x.2.1/\Af x.2.2):
  Calls Tryz.prog 104 #[.pointer (some ⟨p,0,none⟩)] w (En w (TQ (Ai (AK (E.flatMap (Z9 (Fq c.alg) q B)))))):=by
 obtain ⟨R,hR⟩:∃R,R=Ai (AK (E.flatMap (Z9 (Fq c.alg) q B))):=⟨_,rfl⟩;rw [<-hR];have HR:=jp hR;clear hR;have h0:=h;obtain ⟨vB,vE,_,_,h7,h8,N,O⟩:=h
 obtain ⟨a4,a0,rfl⟩:∃ao cap,vB= .slice ao B.length cap:=by
  rcases N.form with ⟨rfl,rfl⟩|⟨g,cap,rfl,_⟩
  .exact ⟨_,_,rfl⟩
  .exact ⟨_,_,rfl⟩
 obtain ⟨ao,cap,rfl,hc⟩:=O.off;clear N O;go_enter Tryz.func104,Tryz.ntmps104;have a5:1<=q/\q<=3:=jo
 go_upto_block 0 with fail
 go_cut [3] from 16 to 25 (fun v wc=>v= .int .i64 (q:Int)/\Aa w wc)
 case first=>
  go_wp2_with fail;rcases hq with ⟨rfl,hl⟩|⟨rfl,hl⟩|⟨rfl,hl⟩
  .refine wp_loop_rounds 1 ?_;rw [rounds_succ];go_wp2_with fail;go_quiet (fail);go_wp2;go_meet
   case rel=>exact ⟨rfl,jq⟩
  .refine wp_loop_rounds 2 ?_;rw [rounds_succ];go_wp2_with fail;go_quiet (fail);go_wp2_with fail;rw [rounds_succ];go_wp2_with fail;go_quiet (fail);go_wp2;go_meet
   case rel=>exact ⟨rfl,jq⟩
  .refine wp_loop_rounds 3 ?_;rw [rounds_succ];go_wp2_with fail;go_quiet (fail);go_wp2_with fail;rw [rounds_succ];go_wp2_with fail;go_quiet (fail);go_wp2_with fail;rw [rounds_succ];go_wp2_with fail;go_quiet (fail);go_wp2;go_meet
   case rel=>exact ⟨rfl,jq⟩
 case rest=>
 obtain ⟨rfl,a6⟩:=hcut;clear hq;go_wp2_with fail;refine (Jq p c H B E _ (h0.later jq)).mono ?_;rintro e w1 ⟨pb,rfl,ae,P⟩;have C:Fq c.alg=pb:=ZaF P;rw [C] at HR;clear P C;have af:Aa w w1:=jq
 clear ae;go_wp2;go_loopg [5,6] E.length (fun r t i wr=>∃(x:jt) (k:Nat),k<=E.length/\r=E.length - k/\t= .string x/\i= .int .i64 k/\x.size<=67 * k/\Aa w wr/\Hid (x=Z8 ((E.take k).flatMap (Z9 pb q B))))
 case atStart=>exact ⟨_,0,jo,jo,rfl,rfl,Nat.zero_le _,af,rfl⟩
 case round=>
  obtain ⟨x,k,hk,hr,rfl,rfl,hx,J,HX⟩:=hrel;have q8:=J.cell h8;by_cases d:k<E.length
  .obtain ⟨g,a7,rfl,q0,q1,q2⟩:=hc k d;have r0:=J.cell q0;have r1:=J.cell q1;have r2:=J.cell q2;have f:=I _ (jJ d);have Q:=hW _ (jJ d)
   have HN:Hid (x++Z8 (Z9 pb q B E[k])=Z8 ((E.take (k+1)).flatMap (Z9 pb q B))):=by
    show _=_;rw [HX.out,jQ d,List.flatMap_append,Zao];simp
   clear hc I hW q0 q1 q2 HX HR;generalize E[k]=en at *;obtain ⟨id,a8,a9⟩:=en;simp only at r0 r1 r2 f Q;obtain ⟨⟨ag,ba⟩,ah,bb⟩:=Q;obtain ⟨hi,rfl⟩:=jM ag;obtain ⟨lo,rfl⟩:=jM ah;have n:=fun a (b:Aa w a)=>ZaI p c H B E id a (h0.later b) jo f
   have S:=ZaL pb q B id hi lo;rw [S] at HN;clear S;have bc:Bq id B<B.length:=Lh f;generalize Bq id B=m at *;have o:=fun a=>Zan m q a jo
   have D:=fun a=>Zan hi 32 a ji
   have F:=fun a=>Zan lo 32 a ji
   have z0:(Z8 (Ax m q)).size=q:=by rw [Zaf,Bd]
   have z1:(Z8 (Ax hi 32)).size=32:=by rw [Zaf,Bd]
   have z2:(Z8 (Ax lo 32)).size=32:=by rw [Zaf,Bd]
   generalize Z8 (Ax m q)=om at *;generalize Z8 (Ax hi 32)=ai at *;generalize Z8 (Ax lo 32)=aj at *;have bd:x.size<=9380000:=jo
   cases pb
   .go_wp2_with fail;refine (n _ J).mono ?_;rintro e w2 ⟨T,rfl,ak,l⟩;have al:T=(m:Int):=l;clear l n;subst T;go_wp2_with fail;refine (o _).mono ?_;rintro e w3 ⟨y,rfl,am,K⟩;have an:y=om:=K;clear K o;subst y;go_wp2;go_roundg (E.length - (k+1))
    case measure=>omega
    case rel=>exact ⟨_,k+1,jo,rfl,rfl,by go_num,jx,jq,HN.out⟩
   .go_wp2_with fail;refine (D _).mono ?_;rintro e w4 ⟨y1,rfl,s,U⟩;have a1:y1=ai:=U;clear U D;subst y1;have s8:=s.cell q8;have s2:=s.cell r2;go_wp2_with fail;refine (F _).mono ?_;rintro e w5 ⟨y2,rfl,L,V⟩;have a2:y2=aj:=V;clear V F;subst y2;have t8:=L.cell s8;have t0:=L.cell (s.cell r0);have W:=(J.trans s).trans L;go_wp2_with fail;refine (n _ W).mono ?_;rintro e w2 ⟨T,rfl,ak,l⟩;have al:T=(m:Int):=l;clear l n;subst T;go_wp2_with fail;refine (o _).mono ?_;rintro e w3 ⟨y,rfl,am,K⟩;have an:y=om:=K;clear K o;subst y;go_wp2;go_roundg (E.length - (k+1))
    case measure=>omega
    case rel=>exact ⟨_,k+1,jo,rfl,rfl,by go_num,jx,jq,by have h9:Hid _:=HN.out;show _=_;rw [<-h9.out];simp only [if_true,ByteArray.append_assoc]⟩
  .have be:x.size<=9380000:=jo
   obtain rfl:k=E.length:=jo
   obtain ⟨X,hX⟩:∃X,X=E.flatMap (Z9 pb q B):=⟨_,rfl⟩
   have M:Hid (x=Z8 X):=by
    show _=_;rw [HX.out,hX,List.take_length]
   have ap:Hid (R=Ai (AK X)):=by
    show _=_;rw [HR.out,hX]
   clear hx HX HR hX hc I hW;go_wp2;go_loopg [5] 8 (fun r t a=>wr=a/\∃(y:jt),t= .string y/\y.size<=9380000+(8 - r)/\r<=8/\(y.size % 8=0\/y.size % 8+r>=8)/\Hid (∃j:Nat,y=Z8 (X++List.replicate j false)/\y.size=X.length+j/\(j=0\/(0<X.length % 8/\X.length % 8+j<=8))))
   case atStart=>exact ⟨rfl,x,rfl,jo,jo,jo,0,by rw [List.replicate_zero,List.append_nil];exact M.out,by rw [M.out,Zaf];rfl,Or.inl rfl⟩
   case round=>
    obtain ⟨rfl,y,rfl,K,aq,ar,HJ⟩:=hrel;have bf:y.size<=9380008:=jo
    by_cases Z:0<y.size % 8
    .go_wp2;go_roundg (gk - 1)
     case measure=>omega
     case rel => exact ⟨rfl, _, rfl, by rw [jY, show (⟨#[48]⟩ :jt).size = 1 from rfl]; omega, jo, by rw [jY, show (⟨#[48]⟩ :jt).size = 1 from rfl]; omega, by
       obtain ⟨j, A, au, av⟩ := HJ.out
       refine ⟨j + 1, ?_, ?_, ?_⟩
       . rw [A, <- ZaR, <- Zao, List.append_assoc, <- List.replicate_succ']
       . rw [jY, show (⟨#[48]⟩ :jt).size = 1 from rfl]
         omega
       . right
         omega⟩
    .have HY:Hid (y.size % 8=0):=by have h:=Z;show _=_;omega
     have bg:decide ((0:Int)<(y.size:Int) % 8)=false:=jx
     have HP:Hid (∃Y:jz,y=Z8 Y/\Y.length=y.size/\AK Y=AK X):=by
      obtain ⟨j,A,au,av⟩:=HJ.out;have bh:=HY.out;exact ⟨_,A,by rw [A,Zaf],ZaV X j jo jo⟩
     clear ar K aq HJ M;go_wp2_with fail;clear Z;obtain ⟨Y,aa,bi,ab⟩:=HP.out;have aw:=jp ab;have G:∀i (h:i<y.size) (h2:i<Y.length),(y[i]'h).toNat=48+Y[i].toNat:=fun i h h2=>ZaU aa h h2
     have HG:=jp G;clear HP aa ab G;go_loopg [11,12] (y.size / 8) (fun r t i a=>∃(z:jt) (k:Nat),k+r=y.size / 8/\t= .string z/\i= .int .i64 (8 * k)/\z.size<=k/\Aa w a/\Hid (z=Ai (AK (Y.take (8 * k)))))
     case atStart=>exact ⟨_,0,jo,rfl,rfl,Nat.zero_le _,J,rfl⟩
     case round=>
      obtain ⟨z,k,bj,rfl,rfl,hz,ax,HZ⟩:=hrel;by_cases d:8 * k<y.size
      .have a3:decide (8 * (k:Int)<(y.size:Int))=true:=jL jo;go_wp2;go_loopg [13,14] 8 (fun r v i a=>wr=a/\∃(u:Int) (q:Nat),q<=8/\r=8 - q/\v= .int .i64 u/\i= .int .i64 q/\0<=u/\u<2 ^ q/\Hid (u=(AD ((Y.drop (8 * k)).take q):Int)))
       case atStart=>exact ⟨rfl,0,0,jo,jo,rfl,rfl,jo,ji,rfl⟩
       case round=>
        obtain ⟨rfl,u,q,hq,hr,rfl,rfl,bk,bl,HU⟩:=hrel;have bm:=Qu q hq;by_cases bn:q<8
        .have ay:8 * k+q<y.size:=by have hY:=HY.out;omega
         have ac:=HG.out (8 * k+q) ay jo;have az:=Bool.toNat_le (Y[8 * k+q]'jo);have h5:(48:Int)<=(y[8 * k+q].toNat:Int):=jo
         have h6:(y[8 * k+q].toNat:Int)<=49:=jo
         have HV:Hid (2 * u+((y[8 * k+q].toNat:Int) - 48)=(AD ((Y.drop (8 * k)).take (q+1)):Int)):=by
          show _=_;have hd:q<(Y.drop (8 * k)).length:=by rw [jh];omega
          rw [jQ hd,Ht,HU.out,ac,List.getElem_drop];push_cast;omega
         clear ac HU az;go_wp2;go_roundg (8 - (q+1))
         case measure=>omega
         case rel=>exact ⟨rfl,_,q+1,jo,rfl,rfl,by go_num,jo,by rw [Int.pow_succ];omega,by have h9:=HV.out;show _=_;omega⟩
        .obtain rfl:q=8:=jo
         have HV:Hid (z++DF u 1=Ai (AK (Y.take (8 * (k+1))))):=by
          show _=_;rw [HZ.out,HU.out,Zar];exact ZaK Y k (by have hY:=HY.out;omega)
         have ad:=fun a=>Ka u 1 a jo jo ji
         have bo:=Zae u 1;generalize DF u 1=ou at *;clear HU HZ;go_wp2_with fail;refine (ad _).mono ?_;rintro e w7 ⟨o1,rfl,bp,ho⟩;have bq:o1=ou:=ho;clear ho ad;subst o1;have br:z.size<=9380008:=jo
         go_wp2;go_roundg (y.size / 8 - (k+1))
         case measure=>have hY:=HY.out;omega
         case rel=>exact ⟨_,k+1,by have hY:=HY.out;omega,rfl,by go_num,jx,jq,HV.out⟩
      .have HF:Hid (z=R):=by
        show _=_;rw [HZ.out,ap.out,<-aw.out,jR jo]
       go_wp2
       go_ret
       exact ⟨_,rfl,ax,HF.out⟩
theorem Zb6 (p:Nat) (c:Ac) (a:Int) (B:List BK) (E:List EN) (w:jj) (h:Bz w p c a B E) (f:B.length<=8) (g:E.length<=140000) (d:∀x∈E,(∃b∈B,b.1=x.1)) (i:∀x∈E,Af x.2.1/\Af x.2.2):
  Calls Tryz.prog 104 #[.pointer (some ⟨p,0,none⟩)] w (En w (TQ (Ai (AK (E.flatMap (Z9 (Fq c.alg) (Gf B.length) B)))))):=by
 refine ZeD p c a B E w h f _ ?_ g d i;unfold Gf G3;rcases (show B.length<=2\/(3<=B.length/\B.length<=4)\/5<=B.length by omega) with k|k|k
 .rw [if_pos jo];exact Or.inl ⟨rfl,k⟩
 .rw [if_neg jo,if_pos jo];exact Or.inr (Or.inl ⟨rfl,k⟩)
 .rw [if_neg jo,if_neg jo];exact Or.inr (Or.inr ⟨rfl,k⟩)
theorem US (key:jt) (s i:Nat) (id:jt) (m:Int×Int):∀k,
  ((A6 key s i id m k).1= -1\/0<=(A6 key s i id m k).1\/(A6 key s i id m k)=m)/\
  (A6 key s i id m k=m\/((A6 key s i id m k).1=i/\∃j,j<k/\(A6 key s i id m k).2=Al key 104 [s,j] id))/\
  (0<=m.1->0<=(A6 key s i id m k).1/\m.2<=(A6 key s i id m k).2/\((A6 key s i id m k).2=m.2->A6 key s i id m k=m))/\
  (∀j,j<k->0<=(A6 key s i id m k).1/\Al key 104 [s,j] id<=(A6 key s i id m k).2):=by
 intro k
 induction k with
 |zero=>exact ⟨Or.inr (Or.inr rfl),Or.inl rfl,fun h=>⟨h,Int.le_refl _,fun _=>rfl⟩,fun j o=>by omega⟩
 |succ k ih=>
  obtain ⟨t,q,l,p⟩:=ih;simp only [A6];split
  .rename_i d;refine ⟨Or.inr (Or.inl jv),Or.inr ⟨rfl,k,jo,rfl⟩,fun h=>⟨jv,?_,?_⟩,fun j o=>⟨jv,?_⟩⟩
   .have:=l h;simp only;rcases d with d|d <;>omega
   .intro r;have:=l h;simp only at r;rcases d with d|d <;>omega
   .simp only;by_cases f:j=k
    .subst f;exact Int.le_refl _
    .have:=p j jo;rcases d with d|d <;>omega
  .rename_i d;have g:0<=(A6 key s i id m k).1:=jo
   have n:Al key 104 [s,k] id<=(A6 key s i id m k).2:=jo
   refine ⟨Or.inr (Or.inl g),q.imp (fun h=>h) (fun ⟨a,j,b,c⟩=>⟨a,j,jo,c⟩),l,fun j o=>⟨g,?_⟩⟩;by_cases f:j=k
   .subst f;exact n
   .exact (p j jo).2
theorem NU (key:jt) (s:Nat) (B:List BK):∀n,n<=B.length->
  ((AV key s B n).1<n)/\
  (AV key s B n=(-1,0)\/∃p,∃(q:p<B.length),p<n/\(AV key s B n).1=p/\∃j,j<B[p].2.toNat/\(AV key s B n).2=Al key 104 [s,j] B[p].1)/\
  (∀i (k:i<B.length),i<n->∀j,j<B[i].2.toNat->0<=(AV key s B n).1/\(Al key 104 [s,j] B[i].1<(AV key s B n).2\/(Al key 104 [s,j] B[i].1=(AV key s B n).2/\(AV key s B n).1<=i))):=by
 intro n
 induction n with
 |zero=>intro _;exact ⟨by simp [AV],Or.inl rfl,fun i _ k=>by omega⟩
 |succ n ih=>
  intro C;obtain ⟨D,v,w⟩:=ih jo
  have l:AV key s B (n+1)=A6 key s n B[n].1 (AV key s B n) B[n].2.toNat:=by
   rw [AV,jG (show n<B.length by omega)]
  obtain ⟨x,d,r,t⟩:=US key s n B[n].1 (AV key s B n) B[n].2.toNat;rw [<-l] at x d r t;refine ⟨?_,?_,?_⟩
  .rcases d with g|⟨g,_⟩
   .rw [g];push_cast;omega
   .rw [g];push_cast;omega
  .rcases d with g|⟨g,j,f,c⟩
   .rw [g];exact v.imp id (fun ⟨p,q,a,b⟩=>⟨p,q,jo,b⟩)
   .exact Or.inr ⟨n,jo,jo,g,j,f,c⟩
  .intro i k y j f;by_cases m:i=n
   .subst m;obtain ⟨o,u⟩:=t j f;refine ⟨o,?_⟩;rcases d with g|⟨g,_⟩
    .by_cases c:Al key 104 [s,j] B[i].1=(AV key s B (i+1)).2
     .exact Or.inr ⟨c,by rw [g];omega⟩
     .exact Or.inl jo
    .by_cases c:Al key 104 [s,j] B[i].1=(AV key s B (i+1)).2
     .exact Or.inr ⟨c,jo⟩
     .exact Or.inl jo
   .obtain ⟨o,u⟩:=w i k jo j f;obtain ⟨z,E,A⟩:=r o;refine ⟨z,?_⟩;by_cases c:(AV key s B (n+1)).2=(AV key s B n).2
    .rw [A c];exact u
    .exact Or.inl jo
theorem IY {B:List BK} {p:Nat} (a:p<B.length):A7 B (p:Int)=B[p].1:=by
 rw [A7,if_neg jo,Int.toNat_natCast,jG a];rfl
theorem ZdB:∀{B:List BK},1<=As B->(∀b∈B,0<=b.2)->∃b∈B,1<=b.2
 |[],h,_=>by simp [As] at h
 |b::B,h,hw=>by
  by_cases a:1<=b.2
  .exact ⟨b,List.mem_cons_self,a⟩
  .have d:=hw b List.mem_cons_self;obtain ⟨x,hx,c⟩:=ZdB (B:=B) (by simp only [As,List.map_cons,List.sum_cons] at h |-;omega) (fun x hx=>hw x (jW _ hx));exact ⟨x,jW _ hx,c⟩
def Il (L:List EI):Prop:=L.Pairwise fun a b=>a.1<b.1\/(a.1=b.1/\a.2<=b.2)
theorem Xk {e:EI} {L:List EI} (h:Il L) (c:∀x∈L,x.2<=e.2):Il (Ck e L):=by
 induction L with
 |nil=>simp [Ck,Il]
 |cons x L ih=>
  obtain ⟨d,f⟩:=List.pairwise_cons.1 h;rw [Ck];split
  .rename_i b;refine List.pairwise_cons.2 ⟨fun y a=>?_,h⟩;rcases ja.1 a with rfl|a
   .exact Or.inl b
   .have:=d y a;omega
  .rename_i b;refine List.pairwise_cons.2 ⟨fun y a=>?_,ih f (fun y a=>c y (jW _ a))⟩;rcases Mw.1 a with rfl|a
   .have:=c x List.mem_cons_self;omega
   .exact d y a
theorem N0 (L:List EI) (x:EI):∀n,n<=L.length->(x∈BN L n↔x∈L.take n):=by
 intro n
 induction n with
 |zero=>intro _;simp [BN]
 |succ n ih=>
  intro a;rw [BN,jG (show n<L.length by omega),jQ jo];show x∈Ck L[n] (BN L n)↔_;rw [Mw,ih jo,jT,jP];exact Or.comm
theorem Yi (L:List EI) (c:L.Pairwise fun a b=>a.2<=b.2):∀n,n<=L.length->Il (BN L n):=by
 intro n
 induction n with
 |zero=>intro _;simp [BN,Il]
 |succ n ih=>
  intro f;rw [BN,jG (show n<L.length by omega)];refine Xk (ih jo) fun x hx=>?_
  rw [N0 L x n jo] at hx;obtain ⟨i,d,rfl⟩:=List.mem_iff_getElem.1 hx;rw [List.getElem_take];rw [jk] at d;exact List.pairwise_iff_getElem.1 c i n jo jo jo
theorem Ze (key:jt) (letter:UInt8) (each:Int) (B:List BK):∀n,n<=B.length->
  (∀x,x∈AW key letter each B n↔∃i,∃(f:i<B.length),i<n/\∃k,k<(each * B[i].2).toNat/\x=(Al key letter [k] B[i].1,(i:Int)))/\(AW key letter each B n).Pairwise fun a b=>a.2<=b.2:=by
 intro n
 induction n with
 |zero=>intro _;exact ⟨fun x=>⟨fun h=>by simp [AW] at h,fun ⟨i,_,h,_⟩=>by omega⟩,by simp [AW]⟩
 |succ n ih=>
  intro t;obtain ⟨o,p⟩:=ih jo
  have g:AW key letter each B (n+1)=AW key letter each B n++DD key letter each n B[n]:=by
   rw [AW,jG (show n<B.length by omega)]
  have c:∀x,x∈DD key letter each n B[n]↔∃k,k<(each * B[n].2).toNat/\x=(Al key letter [k] B[n].1,(n:Int)):=fun x=>by
   rw [DD,List.mem_map];exact ⟨fun ⟨k,l,e⟩=>⟨k,List.mem_range.1 l,e.symm⟩,fun ⟨k,l,e⟩=>⟨k,List.mem_range.2 l,e.symm⟩⟩
  rw [g];refine ⟨fun x=>?_,List.pairwise_append.2 ⟨p,?_,?_⟩⟩
  .rw [jT,o,c];constructor
   .rintro (⟨i,f,d,r⟩|r)
    .exact ⟨i,f,jo,r⟩
    .exact ⟨n,jo,jo,r⟩
   .rintro ⟨i,f,d,r⟩;by_cases m:i=n
    .subst m;exact Or.inr r
    .exact Or.inl ⟨i,f,jo,r⟩
  .rw [DD];refine List.pairwise_map.2 (List.pairwise_of_forall ?_);intro _ _;exact Int.le_refl _
  .intro a q b s;obtain ⟨i,_,d,k,_,rfl⟩:=(o a).1 q;obtain ⟨u,_,rfl⟩:=(c b).1 s;show (i:Int)<=(n:Int);omega
theorem UG (key:jt) (letter:UInt8) (each:Int) (B:List BK):
  (∀x,x∈Dk key letter each B↔∃i,∃(a:i<B.length),∃k,k<(each * B[i].2).toNat/\x=(Al key letter [k] B[i].1,(i:Int)))/\Il (Dk key letter each B):=by
 obtain ⟨b,c⟩:=Ze key letter each B B.length (jH _);refine ⟨fun x=>?_,Yi _ c _ (jH _)⟩;rw [Dk,N0 _ _ _ (jH _),List.take_length,b];exact ⟨fun ⟨i,a,_,r⟩=>⟨i,a,r⟩,fun ⟨i,a,r⟩=>⟨i,a,a,r⟩⟩
def Gt (p h:Int):Int:=(p - h) % 18446744073709551616
theorem MG {p h:Int} (b:0<=p/\p<18446744073709551616) (c:0<=h/\h<18446744073709551616) (a:h<=p):Gt p h=p - h:=Int.emod_eq_of_lt jo jo
theorem KJ {p h:Int} (b:0<=p/\p<18446744073709551616) (c:0<=h/\h<18446744073709551616) (a:p<h):Gt p h=p - h+18446744073709551616:=by
 have:(p - h) % 18446744073709551616=(p - h+18446744073709551616) % 18446744073709551616:=jo
 rw [Gt,this];exact Int.emod_eq_of_lt jo jo
theorem Mu:∀{B:List BK} {b:BK},b∈B->1<=b.2->(∀b∈B,0<=b.2)->1<=As B
 |[],b,h,_,_=>by cases h
 |x::B,b,h,a,hw=>by
  have hx:=hw x List.mem_cons_self
  have c:0<=As B:=by
   have:∀B:List BK,(∀b∈B,0<=b.2)->0<=As B:=fun B=>by
    induction B with
    |nil=>intro _;simp [As]
    |cons y B ih=>
     intro h;have a:=ih (fun x hx=>h x (jW _ hx));have d:=h y List.mem_cons_self;simp only [As,List.map_cons,List.sum_cons] at a |-;omega
   exact this B (fun x hx=>hw x (jW _ hx))
  have f:As (x::B)=x.2+As B:=by simp [As]
  rcases ja.1 h with rfl|h
  .omega
  .have:=Mu h a (fun x hx=>hw x (jW _ hx));omega
abbrev NI:=Int×ByteArray
def Io (e:NI):List NI->List NI
 |[]=>[e]
 |x::l=>if e.1<x.1 then e::x::l else x::Io e l
theorem Qb (f:EI->NI) (a:∀e,(f e).1=e.1) (e:EI):∀L:List EI,(Ck e L).map f=Io (f e) (L.map f)
 |[]=>rfl
 |x::l=>by
  rw [Ck,List.map_cons,Io,a,a];split
  .rfl
  .rw [List.map_cons,Qb f a e l]
theorem Nw (e:NI):∀(L:List NI) (k:Nat),k<=L.length->(∀i (h:i<L.length),i<k->¬e.1<L[i].1)->(∀h:k<L.length,e.1<L[k].1)->L.take k++e::L.drop k=Io e L
 |[],k,hk,_,_=>by
  have:k=0:=by simpa using hk
  subst this;rfl
 |x::l,0,_,_,h2=>by
  have:=h2 js;simp only [List.getElem_cons_zero] at this;simp [Io,this]
 |x::l,k+1,hk,h1,h2=>by
  have a:=h1 0 js jo;simp only [List.getElem_cons_zero] at a
  rw [Io, if_neg a, List.take_succ_cons, List.drop_succ_cons, List.cons_append, Nw e l k (by simpa using hk) (fun i h b => by
    have := h1 (i + 1) (by simpa using h) jo
    simpa using this) (fun h => by
    have := h2 (by simpa using h)
    simpa using this)]
theorem U0 {L:List EI} {n:Nat} {e:EI} (h:L[n]?=some e):BN L (n+1)=Ck e (BN L n):=by
 rw [BN,h]
theorem JV {key:jt} {letter:UInt8} {each:Int} {B:List BK} {i:Nat} (h:i<B.length):AW key letter each B (i+1)=AW key letter each B i++DD key letter each i B[i]:=by
 rw [AW,jG h]
theorem VC {key:jt} {letter:UInt8} {each:Int} {B:List BK} (i n:Nat) (a:i<=n) (c:n<=B.length):∃R,AW key letter each B n=AW key letter each B i++R:=by
 induction n with
 |zero=>exact ⟨[],by rw [show i=0 by omega];simp⟩
 |succ n ih=>
  by_cases h:i=n+1
  .exact ⟨[],by rw [h];simp⟩
  .obtain ⟨R,b⟩:=ih jo jo;exact ⟨R++DD key letter each n B[n],by rw [JV jo,b,List.append_assoc]⟩
theorem RY {key:jt} {letter:UInt8} {each:Int} {B:List BK} (i k:Nat) (b:i<B.length) (a:k<(each * B[i].2).toNat):(AW key letter each B B.length)[(AW key letter each B i).length+k]?=some (Al key letter [k] B[i].1,(i:Int)):=by
 obtain ⟨R,c⟩:=VC (key:=key) (letter:=letter) (each:=each) (B:=B) (i+1) B.length jo (jH _);rw [c,JV b,List.append_assoc,List.getElem?_append_right jo,Nat.add_sub_cancel_left,List.getElem?_append_left (by simp [DD,a])];simp [DD,a]
theorem SN {key:jt} {letter:UInt8} {each:Int} {B:List BK} {i:Nat} (h:i<B.length):(AW key letter each B (i+1)).length=(AW key letter each B i).length+(each * B[i].2).toNat:=by
 rw [JV h];simp [DD]
theorem Xn {n:Nat} {d:Nat->Int} {i j:Nat} (a:i<n) (b:j<n) (c:∀k,k<n->d i<=d k) (f:∀k,k<i->d i<d k) (g:∀k,k<n->d j<=d k) (l:∀k,k<j->d j<d k):i=j:=by
 rcases Nat.lt_trichotomy i j with h|h|h
 .have:=l i h;have:=c j b;omega
 .exact h
 .have:=f j h;have:=g i a;omega
theorem Vp {E:List EI} {h:Int} (u:IA E) (g:0<E.length) (q:∀x∈E,0<=x.1/\x.1<18446744073709551616) (m:0<=h/\h<18446744073709551616):
  A8 E h<E.length/\(∀k (d:k<E.length),Gt (E.getD (A8 E h) (0,0)).1 h<=Gt E[k].1 h)/\∀k (d:k<E.length),k<A8 E h->Gt (E.getD (A8 E h) (0,0)).1 h<Gt E[k].1 h:=by
 have l:∀k (d:k<E.length),E.getD k (0,0)=E[k]:=fun k d=>by rw [jV,jG d];rfl
 by_cases hx:∃k,∃(d:k<E.length),h<=E[k].1
 .have i:∃k,∃(d:k<E.length),h<=E[k].1/\∀j (b:j<E.length),j<k->¬h<=E[j].1:=by
   obtain ⟨k,d,n⟩:=hx
   induction k using Nat.strongRecOn with
   |ind k ih=>
    by_cases r:∃j,∃(b:j<E.length),j<k/\h<=E[j].1
    .obtain ⟨j,b,f,o⟩:=r;exact ih j f b o
    .exact ⟨k,d,n,fun j b f o=>r ⟨j,b,f,o⟩⟩
  obtain ⟨k,d,n,a⟩:=i
  rw [OF d n a,l k d]
  have p:=q _ (jJ d)
  rw [MG p m n]
  refine ⟨d,fun j b=>?_,fun j b f=>?_⟩
  .have c:=q _ (jJ b)
   rcases Nat.lt_trichotomy j k with s|s|s
   .have:=a j b s
    rw [KJ c m jo]
    omega
   .subst s
    rw [MG c m n]
    omega
   .have:=List.pairwise_iff_getElem.1 u k j d b s
    rw [MG c m jo]
    omega
  .have c:=q _ (jJ b)
   have:=a j b f
   rw [KJ c m jo]
   omega
 .have a:∀j (b:j<E.length),¬h<=E[j].1:=fun j b n=>hx ⟨j,b,n⟩
  rw [Nx a,l 0 g];have p:=q _ (jJ g);have v:=a 0 g;refine ⟨g,fun j b=>?_,fun j b f=>by omega⟩;have c:=q _ (jJ b);have w:=a j b;rw [KJ p m jo,KJ c m jo];by_cases t:j=0
  .subst t;omega
  .have:=List.pairwise_iff_getElem.1 u 0 j g b jo;omega
def I8 (B:List BK) (s:jt):Prop:=s.size=0\/∃b∈B,b.1=s
def CE (f:Nat->Nat):Nat->Nat
 |0=>0
 |l+1=>CE f l+f l
theorem Rj (f g:Nat->Nat) (l:Nat):CE (fun i=>f i+g i) l=CE f l+CE g l:=by
 induction l with
 |zero=>rfl
 |succ l ih=>simp only [CE,ih];omega
theorem Pf (f:Nat->Nat) (l:Nat) (h:∀i,i<l->f i=0):CE f l=0:=by
 induction l with
 |zero=>rfl
 |succ l ih=>simp only [CE];rw [ih (fun i a=>h i jo),h l jo]
theorem Tz (k l:Nat) (a:k<l):CE (fun i=>if i=k then 1 else 0) l=1:=by
 induction l with
 |zero=>omega
 |succ l ih=>
  simp only [CE];by_cases h:l=k
  .subst h;rw [Pf _ _ (fun i b=>if_neg jo),if_pos rfl]
  .rw [ih jo,if_neg h]
theorem Ui (f g:Nat->Nat) (l:Nat) (h:∀i,i<l->f i<=g i):CE f l<=CE g l:=by
 induction l with
 |zero=>exact jH _
 |succ l ih=>simp only [CE];have:=ih (fun i a=>h i jo);have:=h l jo;omega
theorem SX (f g:Nat->Nat) (l:Nat) (h:∀i,i<l->f i<=g i) (k:Nat) (d:k<l) (a:f k<g k):CE f l<CE g l:=by
 induction l with
 |zero=>omega
 |succ l ih=>
  simp only [CE];by_cases b:l=k
  .subst b;have:=Ui f g l (fun i c=>h i jo);omega
  .have:=ih (fun i c=>h i jo) jo;have:=h l jo;omega
theorem QP (f g:Nat->Nat) (l:Nat) (h:∀i,i<l->f i=g i):CE f l=CE g l:=by
 induction l with
 |zero=>rfl
 |succ l ih=>simp only [CE];rw [ih (fun i a=>h i jo),h l jo]
theorem VZ (l:Nat) (S:List Int) (h:∀x∈S,∃i:Nat,i<l/\x=(i:Int)):S.length=CE (fun i=>S.count (i:Int)) l:=by
 induction S with
 |nil=>simp;rw [Pf _ _ (fun _ _=>by simp)]
 |cons x S ih=>
  obtain ⟨k,b,rfl⟩:=h x List.mem_cons_self
  have c:CE (fun i=>((k:Int)::S).count (i:Int)) l=CE (fun i=>S.count (i:Int)+if i=k then 1 else 0) l:=by
   refine QP _ _ _ fun i _=>?_
   rw [List.count_cons];congr 1;by_cases a:i=k
   .subst a;simp
   .rw [if_neg a,if_neg];simp;omega
  rw [c,Rj,Tz k l b,<-ih (fun x hx=>h x (jW _ hx)),List.length_cons]
theorem Qz (f:Nat->Nat) (n:Nat) (b:∀i j,i<j->j<n->f i≠f j) (v:Nat):∀m,m<=n->((List.range m).map fun i=>((f i:Nat):Int)).count (v:Int)<=1:=by
 intro m
 induction m with
 |zero=>intro _;simp
 |succ m ih=>
  intro g;rw [List.range_succ,List.map_append,List.count_append];by_cases k:f m=v
  .have c:((List.range m).map fun i=>((f i:Nat):Int)).count (v:Int)=0:=by
    rw [List.count_eq_zero];intro a;obtain ⟨i,d,e⟩:=List.mem_map.1 a;exact b i m (List.mem_range.1 d) jo jo
   rw [c,Nat.zero_add]
   exact List.count_le_length
  .have:=ih jo
   have l:(List.map (fun i=>((f i:Nat):Int)) [m]).count (v:Int)=0:=by
    rw [List.count_eq_zero];intro a;simp at a;omega
   omega
theorem Uu (f:Nat->Nat) (n:Nat) (b:∀i j,i<j->j<n->f i≠f j) (c:∀i,i<n->f i<n) (v:Nat) (d:v<n):∃i,i<n/\f i=v:=by
 have g := VZ n ((List.range n).map fun i => ((f i : Nat) : Int)) (by
   intro x hx
   obtain ⟨i, a, rfl⟩ := List.mem_map.1 hx
   exact ⟨f i, c i (List.mem_range.1 a), rfl⟩)
 rw [je,List.length_range] at g;by_cases p:((List.range n).map fun i=>((f i:Nat):Int)).count (v:Int)=0
 .have k:=SX (fun i=>((List.range n).map fun i=>((f i:Nat):Int)).count (i:Int)) (fun _=>1) n (fun i _=>Qz f n b i n (jH _)) v d (by show List.count _ _<1;omega)
  have m:∀l,CE (fun _=>1) l=l:=fun l=>by
   induction l with
   |zero=>rfl
   |succ l ih=>simp only [CE,ih]
  rw [m] at k;omega
 .have o:(v:Int)∈(List.range n).map fun i=>((f i:Nat):Int):=jb.1 jo
  obtain ⟨i,a,e⟩:=List.mem_map.1 o;exact ⟨i,List.mem_range.1 a,jo⟩
theorem Tc (n:Nat) (w:2<=n) (f:∀d:Nat,2<=d->d<n->n % d≠0) (o s:Int) (m:0<=o) (p:1<=s) (q:s<n) (v:Nat) (r:v<n):∃i,i<n/\A0 n (o,s) i=v:=by
 obtain ⟨o,rfl⟩:=jM m;obtain ⟨s,rfl⟩:=jM (show 0<=s by omega)
 have a:∀i,A0 n ((o:Int),(s:Int)) i=(o+i * s) % n:=fun i=>by
  unfold A0;show (((o:Int)+(i:Int) * (s:Int)) % (n:Int)).toNat=_;have:((o:Int)+(i:Int) * (s:Int)) % (n:Int)=(((o+i * s) % n:Nat):Int):=js
  rw [this];rfl
 have b:Nat.Coprime n s:=by
  have c:Nat.gcd n s ∣ n:=Nat.gcd_dvd_left n s;have g:Nat.gcd n s<=s:=Nat.le_of_dvd jo (Nat.gcd_dvd_right n s);have t:0<Nat.gcd n s:=Nat.gcd_pos_of_pos_left _ jo;rcases Nat.lt_or_ge (Nat.gcd n s) 2 with k|k
  .show Nat.gcd n s=1;omega
  .exact absurd (Nat.mod_eq_zero_of_dvd c) (f _ k jo)
 refine Uu (A0 n ((o:Int),(s:Int))) n ?_ (fun i _=>by rw [a];exact Nat.mod_lt _ jo) v r;intro i j u x l;rw [a,a] at l;have c:n ∣ (o+j * s) - (o+i * s):=Nat.dvd_of_mod_eq_zero (Nat.sub_mod_eq_zero_of_mod_eq l.symm)
 have g:(o+j * s) - (o+i * s)=s * (j - i):=by
  rw [Nat.mul_sub,Nat.mul_comm s j,Nat.mul_comm s i];omega
 rw [g] at c;have t:=Nat.le_of_dvd jo (b.dvd_of_dvd_mul_left c);omega
def LB (l:Nat) (S:List Int):Prop:=∀x∈S,x= -1\/∃i:Nat,i<l/\x=(i:Int)
theorem KT (R:List Int) (n:Nat):((A5 R n).2= -1\/((0<=(A5 R n).1/\(A5 R n).1<n)/\R.getD (A5 R n).1.toNat 0=(A5 R n).2))/\ -1<=(A5 R n).2/\∀j,j<n->R.getD j 0<=(A5 R n).2:=by
 induction n with
 |zero=>exact ⟨Or.inl rfl,Int.le_refl (-1),fun j c=>by omega⟩
 |succ n ih=>
  obtain ⟨f,g,d⟩:=ih;simp only [A5];split
  .rename_i b;refine ⟨Or.inr ⟨⟨jv,jv⟩,js⟩,jv,fun j c=>?_⟩;show R.getD j 0<=R.getD n 0;by_cases a:j=n
   .subst a;exact Int.le_refl _
   .have:=d j jo;omega
  .rename_i b;refine ⟨f.imp id (fun h=>⟨⟨h.1.1,jo⟩,h.2⟩),g,fun j c=>?_⟩;by_cases a:j=n
   .subst a;omega
   .exact d j jo
theorem P6 {R:List Int} (h:0<R.countP fun x=>decide (0<x)):0<=C1 R/\(C1 R).toNat<R.length/\0<R.getD (C1 R).toNat 0:=by
 obtain ⟨b,i,f⟩:=KT R R.length;obtain ⟨x,hx,a⟩:=List.countP_pos_iff.1 h;obtain ⟨j,c,e⟩:=List.mem_iff_getElem.1 hx;have d:=f j c;rw [jV,jG c,e] at d;simp only [Option.getD_some] at d;have k:0<x:=by simpa using a
 rcases b with b|⟨⟨g,l⟩,m⟩
 .omega
 .unfold C1;exact ⟨g,jo,jo⟩
theorem LP (v:Int):∀(s:List Int) (k:Nat),k<s.length->(s.set k v).sum=s.sum - s.getD k 0+v
 |[],k,h=>by simp at h
 |x::s,0,_=>by simp;omega
 |x::s,k+1,h=>by
  have:=LP v s k (by simpa using h);simp only [List.set_cons_succ,List.sum_cons,List.getD_cons_succ,this];omega
theorem KZ (s:List Int) (k j:Nat) (v:Int) (a:k<s.length):(s.set k v).getD j 0=if j=k then v else s.getD j 0:=by
 rw [jV,jV,List.getElem?_set];by_cases h:j=k
 .subst h;simp [a]
 .rw [if_neg (fun e=>h e.symm),if_neg h]
theorem Np:∀(k:Nat) (s r:List Int),s.length=r.length->k<=r.countP (fun x=>decide (0<x))->
  (CI k s r).sum=s.sum+k/\(CI k s r).length=s.length/\∀j,j<s.length->(CI k s r).getD j 0=s.getD j 0\/((CI k s r).getD j 0=s.getD j 0+1/\0<r.getD j 0)
 |0,s,r,_,_=>⟨by simp [CI],rfl,fun j _=>Or.inl rfl⟩
 |k+1,s,r,hl,hk=>by
  obtain ⟨t,d,f⟩:=P6 (R:=r) jo;rw [CI,if_neg jo];generalize (C1 r).toNat=b at d f;have i:b<s.length:=jo
  have l:r[b]=r.getD b 0:=by rw [jV,jG d];rfl
  have g:(r.set b (-1)).countP (fun x=>decide (0<x))=r.countP (fun x=>decide (0<x)) - 1:=by
   have m:decide (0<r.getD b 0)=true:=jL f;rw [List.countP_set d,l,m];simp
  obtain ⟨n,o,p⟩:=Np k (s.set b (s.getD b 0+1)) (r.set b (-1)) (by simp [hl]) (by rw [g];omega);refine ⟨?_,by rw [o];simp,fun j q=>?_⟩
  .rw [n,LP _ _ _ i];push_cast;omega
  .have a:=p j (by simpa using q);rw [KZ _ _ _ _ i,KZ _ _ _ _ d] at a;by_cases c:j=b
   .subst c;rw [if_pos rfl,if_pos rfl] at a;rcases a with a|⟨_,u⟩
    .exact Or.inr ⟨a,f⟩
    .omega
   .rw [if_neg c,if_neg c] at a;exact a
theorem K7 (M W:Int):∀B:List BK,(B.map fun b=>M * b.2).sum=W * (B.map fun b=>M * b.2 / W).sum+(B.map fun b=>M * b.2 % W).sum
 |[]=>by simp
 |b::B=>by
  have a:=K7 M W B;have c:=Int.mul_ediv_add_emod (M * b.2) W;simp only [List.map_cons,List.sum_cons,a,Int.mul_add];omega
theorem LY (M:Int):∀B:List BK,(B.map fun b=>M * b.2).sum=M * (B.map (·.2)).sum
 |[]=>by simp
 |b::B=>by simp only [List.map_cons,List.sum_cons,LY M B,Int.mul_add]
theorem Me (W:Int):∀R:List Int,(∀x∈R,0<=x/\x<W)->0<=R.sum/\R.sum<=W * (R.countP fun x=>decide (0<x))
 |[],_=>by simp
 |x::R,h=>by
  obtain ⟨b,c⟩:=Me W R (fun y a=>h y (jW _ a));obtain ⟨d,f⟩:=h x List.mem_cons_self;rw [List.sum_cons,List.countP_cons];refine ⟨jo,?_⟩;by_cases hx:0<x
  .simp only [hx,decide_true,if_true];push_cast;rw [Int.mul_add];omega
  .simp only [hx,decide_false];simp;omega
theorem Ma (M:Int) (B:List BK) (f:0<=M) (i:∀b∈B,0<=b.2) (m:1<=As B):
  (CJ M B).sum=M/\(CJ M B).length=B.length/\∀j,j<B.length->0<=(CJ M B).getD j 0/\((CJ M B).getD j 0=(Bi M B).getD j 0\/((CJ M B).getD j 0=(Bi M B).getD j 0+1/\0<(CF M B).getD j 0)):=by
 have d:=K7 M (As B) B;rw [LY] at d
 have n := Me (As B) (CF M B) (by
   intro x hx
   obtain ⟨b, o, rfl⟩ := List.mem_map.1 hx
   exact ⟨Int.emod_nonneg _ jo, Int.emod_lt_of_pos _ jo⟩)
 have p:M * As B=As B * (Bi M B).sum+(CF M B).sum:=d;have q:As B * (M - (Bi M B).sum)=(CF M B).sum:=by rw [Int.mul_sub,Int.mul_comm (As B) M];omega
 have r:0<=M - (Bi M B).sum:=by
  rcases Int.lt_or_le (M - (Bi M B).sum) 0 with h|h
  .have:=Int.mul_neg_of_pos_of_neg (show 0<As B by omega) h;omega
  .exact h
 have s:M - (Bi M B).sum<=((CF M B).countP fun x=>decide (0<x):Nat):=by
  refine Int.le_of_mul_le_mul_left (a:=As B) ?_ jo;omega
 have g:=Np (M - (Bi M B).sum).toNat (Bi M B) (CF M B) (by simp [Bi,CF]) jo;have k:CJ M B=CI (M - (Bi M B).sum).toNat (Bi M B) (CF M B):=by unfold CJ;rw [if_neg jo]
 rw [k];refine ⟨by rw [g.1];omega,by rw [g.2.1];simp [Bi],fun j c=>?_⟩;have l:=g.2.2 j (by simpa [Bi] using c)
 have t:0<=(Bi M B).getD j 0:=by
  unfold Bi;rw [jV,List.getElem?_map,jG c];exact Int.ediv_nonneg (Int.mul_nonneg f (i _ (jJ c))) jo
 exact ⟨jo,l⟩
end Go.Proofs.YtpapdkhjdelfcaaGreat
