import Derived.Test.YtpapdkhjdelfcaaGreatMAU
import Derived.Test.YtpapdkhjdelfcaaGreatMBE
namespace Go.Proofs.YtpapdkhjdelfcaaGreat
open Go.RowKit
set_option maxRecDepth 100000
set_option maxHeartbeats 4000000
def Zai (B:List BK) (x:EN):EI:=(wv x.2.1 x.2.2,(Bq x.1 B:Int))
theorem ZaZ (n:Nat) (h:n<18446744073709551616):Hk (n:Int)=n:=by
 unfold Hk;omega
theorem Za9 {a b:Int} (c:Af a) (d:Af b):Ax (wv a b).toNat 64=Ax a.toNat 32++Ax b.toNat 32:=by
 obtain ⟨k,l⟩:=c;obtain ⟨m,n⟩:=d
 have e:(wv a b).toNat=a.toNat * 4294967296+b.toNat:=by
  unfold wv;omega
 rw [e,show (64:Nat)=32+32 from rfl,Zbj]
 have f:(a.toNat * 4294967296+b.toNat) / 2 ^ 32=a.toNat:=by
  rw [show (2:Nat) ^ 32=4294967296 from rfl];omega
 have g:=ZaY (a.toNat * 4294967296+b.toNat) 32
 have i:(a.toNat * 4294967296+b.toNat) % 2 ^ 32=b.toNat:=by
  rw [show (2:Nat) ^ 32=4294967296 from rfl];omega
 rw [f,<-g,i]
theorem Zbl {pt:Bool} {alg:Int} {n:Nat} {B:List BK} {x:EN} (f:Fq alg=pt) (c:Af x.2.1) (d:Af x.2.2) (k:B.length<=8) (hx:Bq x.1 B<B.length):Az (Zal pt B x).data.toList=MK (CO alg) (CX 1 alg n) (Zai B x):=by
 unfold Zal MK Zai CO CX;rw [f,ZaZ _ jo];cases pt
 .simp only [Bool.false_eq_true,if_false];rw [Zam];rfl
 .simp only [if_true];rw [Za9 c d]
  have e:Zaa [x.2.1,x.2.2,(Bq x.1 B:Int)] ⟨#[52,52,49]⟩ 3=Ai ((DF x.2.1 4).data.toList++(DF x.2.2 4).data.toList++(DF (Bq x.1 B:Int) 1).data.toList):=by
   show ((ByteArray.empty++DF x.2.1 4)++DF x.2.2 4)++DF (Bq x.1 B:Int) 1=_;rw [ByteArray.empty_append];apply ByteArray.ext;simp [Ai,ByteArray.data_append]
  obtain ⟨a,g⟩:=jM c.1;obtain ⟨b,i⟩:=jM d.1;rw [e,Zau,WH,WH,g,i,Zam,Zam,Zam];rfl
theorem Zb0 {pt:Bool} {alg:Int} {n:Nat} {B:List BK} {x:EN} (a:Fq alg=pt) (b:Af x.2.1) (c:Af x.2.2) (d:B.length<=8) (hx:Bq x.1 B<B.length):Z9 pt (Gf n) B x=MK (CO alg) (CX 2 alg n) (Zai B x):=by
 unfold Z9 MK Zai CO CX;rw [a,ZaZ _ jo];cases pt
 .simp [Ax]
 .simp only [if_true];rw [Za9 b c]
theorem Za7 {pt:Bool} {alg:Int} {n:Nat} {B:List BK} {E:List EN} (d:Fq alg=pt) (c:∀x∈E,Af x.2.1/\Af x.2.2) (f:B.length<=8) (a:∀x∈E,∃b∈B,b.1=x.1):∀k,k<=E.length->Az (Zah pt B E k).data.toList=EW (CO alg) (CX 1 alg n) ((E.take k).map (Zai B))
 |0,_=>rfl
 |k+1,hk=>by
  have g:=Za7 (n:=n) d c f a k jo;have hx:=jJ (l:=E) (n:=k) jo;have e:E.getD k (ByteArray.empty,0,0)=E[k]:=by rw [jV,jG jo,Option.getD_some]
  show Az (Zah pt B E k++Zal pt B (E.getD k (ByteArray.empty,0,0))).data.toList=_;rw [e,ByteArray.data_append,Array.toList_append,WH,g,Zbl (n:=n) d (c _ hx).1 (c _ hx).2 f (Lh (a _ hx)),jQ jo,List.map_append];unfold EW;rw [List.flatMap_append];simp
theorem Zbf {α β:Type} {f g:α->List β}:∀(E:List α),(∀x∈E,f x=g x)->E.flatMap f=E.flatMap g
 |[],_=>rfl
 |a::E,h=>by
  rw [List.flatMap_cons,List.flatMap_cons,h a js,Zbf E (fun x hx=>h x (jW _ hx))]
theorem Zbs {pt:Bool} {alg:Int} {n:Nat} {B:List BK} {E:List EN} (d:Fq alg=pt) (c:∀x∈E,Af x.2.1/\Af x.2.2) (f:B.length<=8) (a:∀x∈E,∃b∈B,b.1=x.1):E.flatMap (Z9 pt (Gf n) B)=EW (CO alg) (CX 2 alg n) (E.map (Zai B)):=by
 unfold EW;rw [List.flatMap_map];refine Zbf E (fun x hx=>?_);exact Zb0 d (c _ hx).1 (c _ hx).2 f (Lh (a _ hx))
theorem ZaX {B:List BK} (b:AL B):∀k,k<=B.length->Az (Zag B k).data.toList=Ax B.length (8 * 1)++(B.take k).flatMap Gk
 |0,_=>by
  show Az (DF B.length 1).data.toList=_;rw [Zam];simp
 |k+1,hk=>by
  have c:=ZaX b k jo;have d:=b.2 _ (jJ (l:=B) (n:=k) jo);have e:B.getD k (ByteArray.empty,0)=B[k]:=by rw [jV,jG jo,Option.getD_some]
  show Az (Zag B k++DF ((B.getD k (ByteArray.empty,0)).1.size:Int) 1++(B.getD k (ByteArray.empty,0)).1++DF (B.getD k (ByteArray.empty,0)).2 1).data.toList=_;rw [e];obtain ⟨f,a⟩:=jM d.2.2.1;simp only [ByteArray.data_append,Array.toList_append,WH];rw [c,Zam,a,Zam,jQ jo,List.flatMap_append];simp [Gk,a]
def Zav (pt:Bool) (f a:Int) (c:Ac) (B:List BK) (E:List EN):ByteArray:=({data:=#[67,72]}:jt)++Zaa [f,c.alg,a,c.slots,c.points,c.probes] ⟨#[49,49,52,50,49,49]⟩ 6++c.key++Zag B B.length++DF (E.length:Int) 2++(if f=1 then Zah pt B E E.length else Ai (AK (E.flatMap (Z9 pt (Gf B.length) B))))
theorem Zcg (a b c d e f:Int):(Zaa [a,b,c,d,e,f] ⟨#[49,49,52,50,49,49]⟩ 6).size=10:=by
 show ((((((ByteArray.empty++DF a 1)++DF b 1)++DF c 4)++DF d 2)++DF e 1)++DF f 1).size=10;simp only [jY,Zae];rfl
theorem ZbD {B:List BK} (a:AL B):(Zag B B.length).size<=81:=by
 have h:∀k,k<=B.length->(Zag B k).size<=1+10 * k:=by
  intro k
  induction k with
  |zero=>intro _;show (DF _ 1).size<=_;rw [Zae];omega
  |succ k ih=>
   intro c;have:=ih jo;have b:=a.2 _ (jJ (l:=B) (n:=k) jo);have e:B.getD k (ByteArray.empty,0)=B[k]:=by rw [jV,jG jo,Option.getD_some]
   show (Zag B k++DF ((B.getD k (ByteArray.empty,0)).1.size:Int) 1++(B.getD k (ByteArray.empty,0)).1++DF (B.getD k (ByteArray.empty,0)).2 1).size<=_;rw [e];simp only [jY,Zae];have:=b.2.1;omega
 have:=h _ (jH _);have:=a.1;omega
theorem ZbI (pt:Bool) (B:List BK) (E:List EN) (k:Nat):(Zah pt B E k).size<=9 * k:=by
 induction k with
 |zero=>exact jH _
 |succ k ih=>
  show (Zah pt B E k++Zal pt B (E.getD k (ByteArray.empty,0,0))).size<=_;rw [jY]
  have:(Zal pt B (E.getD k (ByteArray.empty,0,0))).size<=9:=by
   unfold Zal;cases pt
   .simp only [Bool.false_eq_true,if_false];rw [Zae];omega
   .simp only [if_true];rw [Za6];omega
  omega
theorem Zbc:∀(n:Nat) (L:jz),L.length<=n->8 * (AK L).length<=L.length+7:=by
 intro n
 induction n with
 |zero=>
  intro L h;obtain rfl:L=[]:=jS jo;simp [AK]
 |succ n ih=>
  intro L h;by_cases b:8<=L.length
  .have e:AK L=AK (L.take 8)++AK (L.drop 8):=by
    have:=ZaG (X:=L.take 8) (by rw [jk];omega) (L.drop 8);rw [List.take_append_drop] at this;exact this
   rw [e,jO,ZaQ (C:=L.take 8) (by rw [jk];omega)]
   have:=ih (L.drop 8) (by rw [jh];omega)
   rw [jh] at this
   simp only [List.length_cons,List.length_nil]
   omega
  .rcases Nat.eq_zero_or_pos L.length with a|a
   .obtain rfl:L=[]:=jS a;simp [AK]
   .rw [MX L a jo];simp only [List.length_cons,List.length_nil];omega
theorem Zbv {pt:Bool} {B:List BK} {E:List EN} (_hB:B.length<=8):(Ai (AK (E.flatMap (Z9 pt (Gf B.length) B)))).size<=9 * E.length+1:=by
 have a:=Zbc _ (E.flatMap (Z9 pt (Gf B.length) B)) (jH _)
 have b:(E.flatMap (Z9 pt (Gf B.length) B)).length<=67 * E.length:=by
  induction E with
  |nil=>simp
  |cons x E ih=>
   rw [List.flatMap_cons,jO,List.length_cons]
   have:(Z9 pt (Gf B.length) B x).length<=67:=by
    unfold Z9;have:=YF (n:=B.length);cases pt
    .simp [Bd];omega
    .simp [Bd];omega
   have:=ih (Zbc _ _ (jH _));omega
 have c:(Ai (AK (E.flatMap (Z9 pt (Gf B.length) B)))).size=(AK (E.flatMap (Z9 pt (Gf B.length) B))).length:=by simp [Ai,ByteArray.size]
 omega
theorem Zce {a b c d e f:Int} (h:0<=a/\0<=b/\0<=c/\0<=d/\0<=e/\0<=f):Az (Zaa [a,b,c,d,e,f] ⟨#[49,49,52,50,49,49]⟩ 6).data.toList=((((Ax a.toNat 8++Ax b.toNat 8)++Ax c.toNat 32)++Ax d.toNat 16)++Ax e.toNat 8)++Ax f.toNat 8:=by
 obtain ⟨g,i,k,l,m,n⟩:=h;obtain ⟨a,rfl⟩:=jM g;obtain ⟨b,rfl⟩:=jM i;obtain ⟨c,rfl⟩:=jM k;obtain ⟨d,rfl⟩:=jM l;obtain ⟨e,rfl⟩:=jM m;obtain ⟨f,rfl⟩:=jM n;show Az ((((((ByteArray.empty++DF a 1)++DF b 1)++DF c 4)++DF d 2)++DF e 1)++DF f 1).data.toList=_;simp only [ByteArray.data_append,Array.toList_append,WH,Zam];rfl
theorem Zcb {pt:Bool} {f a:Int} {c:Ac} {B:List BK} {E:List EN} (k:Fq c.alg=pt) (d:Dh c a B E) (m:∀x∈E,Af x.2.1/\Af x.2.2) (t:1<=f/\f<=2) (q:0<=a):BJ f.toNat a.toNat c B (E.map (Zai B))=Zad (Zav pt f a c B E).data.toList:=by
 obtain ⟨r, -,g, -,b, -⟩:=d;obtain ⟨u,v,w,y, -,z,A,C,D,F, -, -⟩:=r
 have s:Az (({data:=#[67,72]}:jt)++Zaa [f,c.alg,a,c.slots,c.points,c.probes] ⟨#[49,49,52,50,49,49]⟩ 6++c.key++Zag B B.length++DF (E.length:Int) 2).data.toList=(JG f.toNat a.toNat c++Gd B)++Ax (E.map (Zai B)).length (8 * 2):=by
  simp only [ByteArray.data_append,Array.toList_append,WH];rw [Zce ⟨jo,jo,q,jo,jo,jo⟩,ZaX g _ (jH _),Zam,List.take_length,je];unfold JG Gd;simp only [List.append_assoc,List.nil_append]
 unfold BJ Zad
 have key:AK (DS f.toNat a.toNat c B (E.map (Zai B)))=(Zav pt f a c B E).data.toList:=by
  unfold DS Zav;rw [<-s,J4];rw [ByteArray.data_append (l:=_++DF (E.length:Int) 2),Array.toList_append];congr 1;rcases (show f=1\/f=2 by omega) with rfl|rfl
  .rw [if_pos rfl,show (1:Int).toNat=1 from rfl];have o:=Za7 (n:=B.length) k m g.1 b E.length (jH _);rw [List.take_length] at o;have i:CX ((1:Nat):Int) c.alg B.length=CX 1 c.alg B.length:=rfl;rw [i,<-o];have p:=J4 (Zah pt B E E.length).data.toList [];rw [List.append_nil] at p;rw [p];simp [AK]
  .rw [if_neg ji,show (2:Int).toNat=2 from rfl];have i:CX ((2:Nat):Int) c.alg B.length=CX 2 c.alg B.length:=rfl;rw [i,<-Zbs k m g.1 b];rfl
 rw [key]
theorem Zbg (p:Nat) (c:Ac) (f:Int) (B:List BK) (E:List EN) (a:Int) (w:jj) (h:Bz w p c f B E) (G:Dh c f B E) (hf:Aj a) (Q:∀x∈E,Af x.2.1/\Af x.2.2) (T:1<=a/\a<=2) (H:0<=f):
  Calls Tryz.prog 55 #[.pointer (some ⟨p,0,none⟩),.int .i64 a] w (En w (TQ (Ai (BJ a.toNat f.toNat c B (E.map (Zai B)))))):=by
 have hI:∀x∈E,Aj x.2.1/\Aj x.2.2:=fun x hx=>⟨Af.i64 (Q x hx).1,Af.i64 (Q x hx).2⟩
 obtain ⟨R,U⟩:∃R,R=Ai (BJ a.toNat f.toNat c B (E.map (Zai B))):=⟨_,rfl⟩;rw [<-U]
 have HR:Hid (R=Ai (Zad (Zav (Fq c.alg) a f c B E).data.toList)):=by
  show R=_;rw [U,Zcb rfl G Q T H]
 clear U;have h0:=h;obtain ⟨vB,vE,⟨c0,c1,c2,c3,c4,c5⟩,c6,c7,c8,V,I⟩:=h;obtain ⟨hc,hg,J,hE,K, -⟩:=G;obtain ⟨k1,k2,k3,k4, -,k5,k6,k7,k8,k9, -, -⟩:=hc;obtain ⟨alg,g,b,d,key,i⟩:=c;simp only at c0 c1 c2 c3 c4 c5 k1 k2 k3 k4 k5 k6 k7 k8 k9;go_enter Tryz.func55,Tryz.ntmps55;go_upto_region 1 with fail
 go_cut [5] (fun v5 wc=>∃z:jt,v5= .string z/\z.size<=54/\Aa w wc/\Hid (z=Zaa [a,alg,f,g,b,d] ⟨#[49,49,52,50,49,49]⟩ 6))
 case first=>
  go_region_held3 (fun w'=>Aa w w'/\w'.cell? ⟨p,0,none⟩=some (.int .i64 alg)/\w'.cell? ⟨p,1,none⟩=some (.int .i64 g)/\w'.cell? ⟨p,2,none⟩=some (.int .i64 b)/\w'.cell? ⟨p,3,none⟩=some (.int .i64 d)/\w'.cell? ⟨p,6,none⟩=some (.int .i64 f)) ((refine K8 ?_ c0 c1 c2 c3 c6;exact jq)) ((go_at_call 76;refine (Zas _ 6 _ _ [a,alg,f,g,b,d] _ rfl ji Rf (by intro t q;match t,q with|0,_=>simp|1,_=>simp|2,_=>simp|3,_=>simp|4,_=>simp|5,_=>simp) (Aj.six hf ⟨jo,jo⟩ hg ⟨jo,jo⟩ ⟨jo,jo⟩ ⟨jo,jo⟩)).mono ?_;rintro e w4 ⟨z,rfl,ad,W⟩;have L:Hid (z=Zaa [a,alg,f,g,b,d] ⟨#[49,49,52,50,49,49]⟩ 6):=W;clear W))
  all_goals
   go_wp2;go_meet
   case rel=>exact ⟨z,rfl,by rw [L.out,Zcg];omega,jq,L.out⟩
 case rest=>
  obtain ⟨z,rfl,W,M,L⟩:=hcut;have d4:=M.cell c4;have d7:=M.cell c7;have d8:=M.cell c8;go_wp2_with fail;refine (ZbS B vB _ (V.later M) J).mono ?_;rintro e w1 ⟨n,rfl,r,N⟩;have s:Hid (n=Zag B B.length):=N;have aa:n.size<=81:=by rw [s.out];exact ZbD J
  clear N;have e4:=r.cell d4;have e8:=r.cell d8
  have X:∃S cap,vE= .slice S E.length cap:=by
   obtain ⟨S,cap,hv,_⟩:=I.off;exact ⟨S,cap,hv⟩
  obtain ⟨S,cap,rfl⟩:=X;go_wp2_with fail;refine (Ka (E.length:Int) 2 _ jo jo ji).mono ?_;rintro e w2 ⟨o,rfl,u,O⟩;have v:Hid (o=DF (E.length:Int) 2):=O;have ab:o.size=2:=by rw [v.out,Zae]
  clear O;have f4:=u.cell e4;have f8:=u.cell e8;have y:=(M.trans r).trans u;by_cases A:a=1
  .subst A;go_wp2_with fail;refine (ZbN p _ f B E E _ _ (h0.later y) J.1 (I.off.later y) hE (fun x hx=>⟨K x hx,hI x hx⟩)).mono ?_;rintro e w3 ⟨k,rfl,C,l⟩;have m:Hid (k=Zah (Fq alg) B E E.length):=l;have P:k.size<=3780000:=by rw [m.out];exact jX (ZbI _ _ _ _) jo
   clear l;have g4:=C.cell f4;go_wp2_with fail
   have Y:(({data:=#[67,72]}:jt)++z++key++n++o++k).size<=8990000:=by
    simp only [jY,show (({data:=#[67,72]}:jt)).size=2 from rfl];omega
   have D:Hid ((({data:=#[67,72]}:jt)++z++key++n++o++k)=Zav (Fq alg) 1 f ⟨alg,g,b,d,key,i⟩ B E):=by
    show _=_;rw [L.out,s.out,v.out,m.out];rfl
   generalize (({data:=#[67,72]}:jt)++z++key++n++o++k)=F at *;refine (ZaH F _ jo).mono ?_;rintro e w5 ⟨t,rfl,Z,q⟩
   have HT:Hid (t=R):=by
    show t=R;rw [HR.out,<-D.out];exact q
   clear q;go_wp2;go_ret;exact ⟨_,rfl,jq,HT.out⟩
  .have ac:(a==1)=false:=by simpa using A
   go_wp2_with fail;refine (Zb6 p _ f B E _ (h0.later y) J.1 hE K Q).mono ?_;rintro e w3 ⟨k,rfl,C,l⟩;have m:Hid (k=Ai (AK (E.flatMap (Z9 (Fq alg) (Gf B.length) B)))):=l;have P:k.size<=3780000:=by rw [m.out];exact jX (Zbv J.1) jo
   clear l;have g4:=C.cell f4;go_wp2_with fail
   have Y:(({data:=#[67,72]}:jt)++z++key++n++o++k).size<=8990000:=by
    simp only [jY,show (({data:=#[67,72]}:jt)).size=2 from rfl];omega
   have D:Hid ((({data:=#[67,72]}:jt)++z++key++n++o++k)=Zav (Fq alg) a f ⟨alg,g,b,d,key,i⟩ B E):=by
    show _=_;rw [L.out,s.out,v.out,m.out];unfold Zav;rw [if_neg A]
   generalize (({data:=#[67,72]}:jt)++z++key++n++o++k)=F at *;refine (ZaH F _ jo).mono ?_;rintro e w5 ⟨t,rfl,Z,q⟩
   have HT:Hid (t=R):=by
    show t=R;rw [HR.out,<-D.out];exact q
   clear q;go_wp2;go_ret;exact ⟨_,rfl,jq,HT.out⟩
theorem Za2 (l:jy) (k:Nat):(Az l).take (8 * k)=Az (l.take k):=by
 induction l generalizing k with
 |nil=>simp [Az]
 |cons b l ih=>
  cases k with
  |zero=>rfl
  |succ k=>
   have e:Az (b::l)=BT b++Az l:=by simp [Az]
   have a:Az ((b::l).take (k+1))=BT b++Az (l.take k):=by simp [Az]
   rw [e,a,show 8 * (k+1)=8+8 * k by omega,<-In b,List.take_length_add_append,In,ih]
theorem Za0 (l:jy) (k:Nat):(Az l).drop (8 * k)=Az (l.drop k):=by
 induction l generalizing k with
 |nil=>simp [Az]
 |cons b l ih=>
  cases k with
  |zero=>rfl
  |succ k=>
   have e:Az (b::l)=BT b++Az l:=by simp [Az]
   have a:Az ((b::l).drop (k+1))=Az (l.drop k):=js
   rw [e,a,show 8 * (k+1)=8+8 * k by omega,<-In b,List.drop_length_add_append,In,ih]
def Zab (l:jy):Nat:=AD (Az l)
theorem Zbo (k:Nat) (l:jy):A9 (8 * k) (Az l)=if l.length<k then none else some (Zab (l.take k),Az (l.drop k)):=by
 unfold A9 Zab;rw [Za2,Za0,Bk];by_cases h:l.length<k
 .rw [if_pos h,if_pos jo]
 .rw [if_neg h,if_neg jo]
theorem ZaP (l:jy):AK (Az l)=l:=by
 have:=J4 l [];rw [List.append_nil] at this;rw [this];simp [AK]
theorem Zbt (k:Nat) (l:jy):DU k (Az l)=if l.length<k then none else some (l.take k,Az (l.drop k)):=by
 unfold DU;rw [Za2,Za0,Bk,ZaP];by_cases h:l.length<k
 .rw [if_pos h,if_pos jo]
 .rw [if_neg h,if_neg jo]
theorem Za5 (l:jy) (b:UInt8):Zab (l++[b])=256 * Zab l+b.toNat:=by
 unfold Zab;rw [Ly,Wq,In]
 have:AD (BT b)=b.toNat:=by
  unfold BT;rw [M5,Nat.mod_eq_of_lt b.toNat_lt]
 rw [this];omega
theorem ZaW (l:jy):BQ l=(Zab l:Int):=by
 have h:∀n (l:jy),l.length=n->BQ l=(Zab l:Int):=by
  intro n
  induction n with
  |zero=>
   intro l a;obtain rfl:=jS a;rfl
  |succ n ih=>
   intro l a;have c:l≠[]:=fun e=>by rw [e] at a;simp at a
   have f:=List.dropLast_concat_getLast c;generalize l.getLast c=b at f;have d:l.dropLast.length=n:=by rw [List.length_dropLast,a];rfl
   generalize l.dropLast=D at *;rw [<-f,Mm,Za5,ih D d];omega
 exact h _ l rfl
theorem Zbb (b:UInt8):Zab [b]=b.toNat:=by
 have:=Za5 [] b;simpa [Zab,AD,Az] using this
theorem Zca (l:jy):BW (some (Az l))=decide (l=[]):=by
 cases l with
 |nil=>rfl
 |cons b l=>
  have a:=Bk (b::l);rw [List.length_cons] at a;rw [jK js];show (decide ((Az (b::l)).length<8) && decide (AD (Az (b::l))=0))=false;rw [jK jo];rfl
theorem Zaw {α β:Type} {P:List Bool->Option (α×List Bool)} {Q:α->List Bool->Option (β×List Bool)} {X Y:jz} {a:α} (h:P X=some (a,Y)):Bo P Q X=Q a Y:=by
 unfold Bo;rw [h];rfl
theorem ZaA {k:Nat} {l:jy} (h:k<=l.length):A9 (8 * k) (Az l)=some (Zab (l.take k),Az (l.drop k)):=by
 rw [Zbo,if_neg jo]
theorem Zb7 {k:Nat} {l:jy} (h:k<=l.length):DU k (Az l)=some (l.take k,Az (l.drop k)):=by
 rw [Zbt,if_neg jo]
theorem Za4 {b:jy} (h:13<=b.length):JE (Az b)=some ((b.take 1,Zab ((b.drop 1).take 4),Zab ((b.drop 5).take 1),Zab ((b.drop 6).take 4),Zab ((b.drop 10).take 1),Zab ((b.drop 11).take 2)),Az (b.drop 13)):=by
 unfold JE;rw [Zaw (Zb7 (k:=1) jo)];rw [Zaw (ZaA (k:=4) (l:=b.drop 1) (by rw [jh];omega)),List.drop_drop];rw [Zaw (ZaA (k:=1) (l:=b.drop (1+4)) (by rw [jh];omega)),List.drop_drop];rw [Zaw (ZaA (k:=4) (l:=b.drop (1+4+1)) (by rw [jh];omega)),List.drop_drop];rw [Zaw (ZaA (k:=1) (l:=b.drop (1+4+1+4)) (by rw [jh];omega)),List.drop_drop];rw [Zaw (ZaA (k:=2) (l:=b.drop (1+4+1+4+1)) (by rw [jh];omega)),List.drop_drop];rfl
theorem Zbk {k:Nat} {X Y:jz} {a:jy} (h:DU k X=some (a,Y)):X.length=8 * k+Y.length:=by
 unfold DU at h;split at h
 .cases h
 .injection h with h
  injection h with _ h
  rw [<-h,jh];omega
theorem ZaC {W:Nat} {X Y:jz} {a:Nat} (h:A9 W X=some (a,Y)):X.length=W+Y.length:=by
 unfold A9 at h;split at h
 .cases h
 .injection h with h
  injection h with _ h
  rw [<-h,jh];omega
theorem ZbA {b:jy} {y:(List UInt8×Nat×Nat×Nat×Nat×Nat)×List Bool} (h:JE (Az b)=some y):13<=b.length:=by
 unfold JE at h;obtain ⟨l,m,a,h⟩:=Da h;obtain ⟨n,o,c,h⟩:=Da h;obtain ⟨p,q,d,h⟩:=Da h;obtain ⟨r,s,f,h⟩:=Da h;obtain ⟨t,u,g,h⟩:=Da h;obtain ⟨v,w,i,h⟩:=Da h;have k:=(Zbk a);have x:=(ZaC c);have z:=(ZaC d);have A:=(ZaC f);have B:=(ZaC g);have C:=(ZaC i);rw [Bk] at k;omega
theorem Za1 {l b:jy} (h:CQ l=some b):ZcB l=if b.length=13/\b.take 1=[81] then some (Zab ((b.drop 1).take 4),Zab ((b.drop 5).take 1),Zab ((b.drop 6).take 4),Zab ((b.drop 10).take 1),Zab ((b.drop 11).take 2)) else none:=by
 unfold ZcB;rw [h,Option.bind_some];cases c:JE (Az b) with
 |none=>
  have:¬13<=b.length:=fun e=>by rw [Za4 e] at c;cases c
  rw [if_neg jo];rfl
 |some y=>
  have f:=ZbA c;rw [Za4 f] at c;rw [<-Option.some.inj c,Option.bind_some,Zca];by_cases d:b.length=13
  .have e:b.drop 13=[]:=List.drop_eq_nil_of_le jo;by_cases a:b.take 1=[81]
   .rw [if_pos ⟨jL e,a⟩,if_pos ⟨d,a⟩]
   .rw [if_neg (fun k=>a k.2),if_neg (fun k=>a k.2)]
  .have e:b.drop 13≠[]:=fun e=>by
    have:=congrArg List.length e;rw [jh,List.length_nil] at this;omega
   rw [if_neg (fun k=>e (of_decide_eq_true k.1)),if_neg (fun k=>d k.1)]
def Zcp (s:jt) (sh:Bool):Option (List Bool):=if sh then none else some (Az s.data.toList)
theorem ZeJ {s:jt} {sh:Bool} {α:Type} {P:List Bool->Option (α×List Bool)} {b:jt} {a:α} (h:P (Az s.data.toList)=some (a,Az b.data.toList)):(Zcp s sh).bind P=(Zcp b sh).map (Prod.mk a):=by
 cases sh
 .exact h
 .rfl
theorem Zey {s:jt} {sh:Bool} {α:Type} {P:List Bool->Option (α×List Bool)} {b:jt} {a:α} (h:P (Az s.data.toList)=none):(Zcp s sh).bind P=(Zcp b true).map (Prod.mk a):=by
 cases sh
 .exact h
 .rfl
theorem Zc3 (p:Nat) (n:Int) (s:jt) (sh:Bool) (w:jj) (o:0<=n) (_hn2:n<=9223372036854775807) (_hs:s.size<=maxLen) (q:Aq w p s sh):
  Calls Tryz.prog 93 #[.pointer (some ⟨p,0,none⟩),.int .i64 n] w (LX w p fun v b a=>∃x:jt,v= .string x/\b.size<=s.size/\x.size<=n.toNat/\x.size+b.size<=s.size/\(a=false->sh=false/\x.size=n.toNat)/\(Zcp s sh).bind (DU n.toNat)=(Zcp b a).map (Prod.mk x.data.toList)):=by
 obtain ⟨f,g,i,k⟩:=q;unfold maxLen at _hs;obtain ⟨m,rfl⟩:=jM o;simp only [Int.toNat_natCast];by_cases h:s.size<m
 .have c:Hid ((Zcp s sh).bind (DU m)=(Zcp ByteArray.empty true).map (Prod.mk (ByteArray.empty).data.toList)):=Zey (by rw [Zbt,if_pos (by simpa using h)]);go_enter Tryz.func93,Tryz.ntmps93;go_wp2;go_ret;refine ⟨_,ByteArray.empty,true,rfl,?_,?_,_,rfl,Nat.zero_le _,Nat.zero_le _,Nat.zero_le _,fun h=>(by cases h),c.out⟩
  .exact ((Ar.refl _ _).step_set _).step_set _|>.step_set _
  .exact (Aq.set0 (Aq.set0 (Aq.set1 ⟨f,g,i,k⟩ true) _) _)
 .have d : Hid ((Zcp s sh).bind (DU m) = (Zcp (s.extract m s.size) sh).map (Prod.mk (s.extract 0 m).data.toList)) := ZeJ (by
    rw [Zb7 (by simpa using h), Kr, Kr, List.drop_zero, Nat.sub_zero, jR (l := s.data.toList.drop m) (by rw [jh]; simp)])
  go_enter Tryz.func93,Tryz.ntmps93
  go_wp2
  go_ret
  refine ⟨_,s.extract m s.size,sh,rfl,?_,?_,_,rfl,?_,?_,?_,?_,d.out⟩
  .exact (Ar.refl _ _).step_set _
  .exact Aq.set0 ⟨f,g,i,k⟩ _
  .simp
  .simp;omega
  .simp;omega
  .exact fun h=>⟨h,jx⟩
theorem Zfp {o o':Option (List Bool)} {k:Nat} {x:jy} (h:o.bind (DU k)=o'.map (Prod.mk x)) (b:∀X,o=some X->∃l,X=Az l):o.bind (A9 (8 * k))=o'.map (Prod.mk (Zab x)):=by
 cases o with
 |none=>cases o' with
  |none=>rfl
  |some Y=>simp at h
 |some X=>
  obtain ⟨l,rfl⟩:=b X rfl;rw [Option.bind_some,Zbt] at h;rw [Option.bind_some,Zbo];split
  .rename_i a;rw [if_pos a] at h;cases o' with
   |none=>rfl
   |some Y=>simp at h
  .rename_i a;rw [if_neg a] at h;cases o' with
   |none=>simp at h
   |some Y=>
    simp only [Option.map_some,Option.some.injEq,Prod.mk.injEq] at h |-;exact ⟨by rw [h.1],h.2⟩
theorem Ze2 (s:jt) (sh:Bool):∀X,Zcp s sh=some X->∃l,X=Az l:=by
 intro X h;cases sh
 .exact ⟨_,(Option.some.inj h).symm⟩
 .cases h
theorem Zcv (p:Nat) (n:Int) (s:jt) (sh:Bool) (w:jj) (k:0<=n) (l:n<=4) (m:s.size<=maxLen) (o:Aq w p s sh):
  Calls Tryz.prog 94 #[.pointer (some ⟨p,0,none⟩),.int .i64 n] w (LX w p fun v b a=>∃r:Int,v= .int .i64 r/\b.size<=s.size/\0<=r/\r<256 ^ n.toNat/\(a=false->sh=false)/\(Zcp s sh).bind (A9 (8 * n.toNat))=(Zcp b a).map (Prod.mk r.toNat)):=by
 go_enter Tryz.func94,Tryz.ntmps94;go_wp2_with fail;refine (Zc3 p n s sh _ k jo m o).mono ?_;rintro e z ⟨v,b,a,rfl,c,d,x,rfl,q,t,A,u,f⟩;have y:=jp f;clear f;go_wp2_with fail;refine (Fu _ _ jo).mono ?_;rintro e B ⟨rfl,rfl⟩;have g:=Kg x n.toNat t;have i:Zab x.data.toList=(BQ x.data.toList).toNat:=by rw [ZaW];rfl
 have HX:Hid ((Zcp s sh).bind (A9 (8 * n.toNat))=(Zcp b a).map (Prod.mk (BQ x.data.toList).toNat)):=by
  show _=_;rw [<-i];exact Zfp y.out (Ze2 s sh)
 clear i;go_wp2;go_ret;exact ⟨_,b,a,rfl,c,d,_,rfl,q,g.1,g.2,fun h=>(u h).1,HX.out⟩
theorem Zde {α:Type} {P:List Bool->Option (α×List Bool)} {X:jz} {n:Nat}:∀{L:List α} {r:jz} (_:BY P n X=some (L,r)),L.length=n/\∀k,k<=n->∃r',BY P k X=some (L.take k,r'):=by
 induction n with
 |zero=>
  intro L r h;injection h with h
  injection h with h1 h2
  subst h1
  exact ⟨rfl, fun k hk => ⟨X, by obtain rfl : k = 0 := by omega
                                 rfl⟩⟩
 |succ n ih=>
  intro L r h;rw [BY] at h;cases hm:BY P n X with
  |none=>rw [hm] at h;cases h
  |some y=>
   rw [hm,Option.bind_some] at h;cases hP:P y.2 with
   |none=>rw [hP] at h;cases h
   |some z=>
    rw [hP] at h;injection h with h
    injection h with h1 h2
    obtain ⟨l1,l2⟩:=ih (L:=y.1) (r:=y.2) hm;subst h1;refine ⟨by simp [l1],fun k hk=>?_⟩;by_cases hkn:k=n+1
    .subst hkn;refine ⟨z.2,?_⟩;rw [BY,hm,Option.bind_some,hP,jR (by simp [l1])];rfl
    .obtain ⟨r',hr⟩:=l2 k jo;exact ⟨r',by rw [hr,List.take_append_of_le_length jo]⟩
theorem Zew:AH []:=⟨⟨Nat.zero_le _,fun b a=>by cases a⟩,List.Pairwise.nil⟩
theorem Zfl {L:List BK} {b:BK} (h:AH L) (o:L.length<8):AH (L++[b])↔PW b/\(∀j (f:j+1=L.length),AO (L[j]'jo).1 b.1=true):=by
 constructor
 .rintro ⟨⟨_,g⟩,k⟩;refine ⟨g b js,fun j f=>?_⟩;have:=(List.pairwise_append.1 k).2.2 (L[j]'jo) (jJ _) b js;exact this
 .rintro ⟨l,d⟩;refine ⟨⟨jx,fun x hx=>?_⟩,List.pairwise_append.2 ⟨h.2,List.pairwise_singleton _ _,fun a m x hx=>?_⟩⟩
  .rcases jT.1 hx with e|e
   .exact h.1.2 x e
   .rw [jP.1 e];exact l
  .rw [jP.1 hx];obtain ⟨i,n,rfl⟩:=List.getElem_of_mem m;have c:=d (L.length - 1) jo;by_cases e:i=L.length - 1
   .subst e;exact c
   .exact Pm (List.pairwise_iff_getElem.1 h.2 i (L.length - 1) n jo jo) c
def ZcX (c:jt) (a:Bool) (L:List BK) (b:Bool) (s:jt) (sh:Bool):Prop:=
 (b=true->sh=false/\AH L/\(Zcp c a).bind Ie=(Zcp s sh).map (Prod.mk L))/\(b=false->∀d r,(Zcp c a).bind Ie=some (d,r)->¬AH d)
def Zea (w:jj) (p:Nat) (c:jt) (b:Bool) (e:Ending) (w':jj):Prop:=∃(v:ju) (L:List BK) (a:Bool) (s:jt) (sh:Bool),e= .returned (.tuple #[v,.bool a])/\Ar p w w'/\Aq w' p s sh/\s.size<=c.size/\Am w' v L/\L.length<=8/\(∀g,v.ownBlock=some g->w.heap.size<=g)/\ZcX c b L a s sh
def Zc8 (L:List BK) (id:jt) (a b:Nat):Prop:=(0<a/\a<9/\b<7)/\∀j (c:j+1=L.length),AO (L[j]'jo).1 id=true
def ZcN (c:jt) (b:Bool) (n k:Nat) (L:List BK) (x:Bool) (d:jt) (a:Bool):Prop:=
 L.length=k/\(Zcp c b).bind (BY Kw k)=(Zcp d a).map (Prod.mk L)/\(x=true->a=false->n<=8/\AH L)/\(x=false->a=false->¬(n<=8/\AH L))
theorem ZcN.stop {s f m:jt} {sh b c x:Bool} {n k:Nat} {L:List BK} (h:ZcN f b n k L x m c) (o:(Zcp s sh).bind (A9 8)=(Zcp f b).map (Prod.mk n)) (t:k<=n) (g:x=false\/c=true):ZcX s sh L false m c:=by
 refine ⟨fun e=>(by cases e),fun _ z r a p=>?_⟩
 have u:(Zcp s sh).bind Ie=(Zcp f b).bind (BY Kw n):=by
  cases q:Zcp s sh with
  |none=>
   rw [q] at a;cases a
  |some X=>
   rw [q,Option.bind_some] at o;rw [Option.bind_some,Ie,Bo,o];cases i:Zcp f b with
   |none=>rfl
   |some Y=>rfl
 rw [u] at a;obtain ⟨A,d,v,l⟩:=h;cases i:Zcp f b with
 |none=>rw [i] at a;cases a
 |some Y=>
  rw [i,Option.bind_some] at a d;obtain ⟨B,w⟩:=Zde a;obtain ⟨C,y⟩:=w k t;rw [y] at d;cases c with
  |true=>cases d
  |false=>
   have hx:x=false:=by rcases g with e|e;exact e;cases e
   injection d with d
   injection d with d _
   refine l hx rfl ⟨?_,by rw [<-d];exact p.take k⟩;have:=p.1.1;omega
theorem ZcN.done {s b c:jt} {sh a:Bool} {n:Nat} {L:List BK} (h:ZcN b a n n L true c false) (d:(Zcp s sh).bind (A9 8)=(Zcp b a).map (Prod.mk n)):ZcX s sh L true c false:=by
 refine ⟨fun _=>⟨rfl,(h.2.2.1 rfl rfl).2,?_⟩,fun e=>by cases e⟩;exact Bw d h.2.1
theorem ZcN.item {s l u v m:jt} {b c d a y:Bool} {n k kk f:Nat} {L:List BK} {id:jt} (h:ZcN s b n k L true l false) (C:k<n)
  (D:(Zcp l false).bind (A9 8)=(Zcp u c).map (Prod.mk kk)) (E:(Zcp u c).bind (DU kk)=(Zcp v d).map (Prod.mk id.data.toList)) (F:(Zcp v d).bind (A9 8)=(Zcp m a).map (Prod.mk f))
  (o:a=false->id.size=kk) (G:y=true↔Zc8 L id kk f):ZcN s b n (k+1) (L++[(id,(f:Int))]) y m a:=by
 obtain ⟨H,I,p,J⟩:=h
 have g:(Zcp l false).bind Kw=(Zcp m a).map (Prod.mk (id,(f:Int))):=by
  have w:=Bw F (Q:=fun x:Nat=>DT (Ai id.data.toList,(x:Int))) (GK _);rw [Zbd] at w;exact Bw D (Bw E (Q:=fun t=>Bo (A9 8) fun x:Nat=>DT (Ai t,(x:Int))) (by rw [Zbd];exact w))
 obtain ⟨q,K⟩:=p rfl rfl
 have key:a=false->(AH (L++[(id,(f:Int))])↔y=true):=fun e=>by
  rw [Zfl K jo,G,Zc8];have:=o e;constructor
  .rintro ⟨⟨z,A,B,M⟩,i⟩;simp only at z A B M i;exact ⟨⟨jo,jo,jo⟩,i⟩
  .rintro ⟨⟨z,A,B⟩,i⟩;exact ⟨⟨jv,jv,jv,jv⟩,i⟩
 exact ⟨by simp [H],OE I g,fun e r=>⟨q,(key r).2 e⟩,fun e r N=>by rw [(key r).1 N.2] at e;cases e⟩
theorem ZdL (p:Nat) (s:jt) (sh:Bool) (w:jj) (hs:s.size<=maxLen) (ht:Aq w p s sh) (hp:p<w.heap.size):
  Calls Tryz.prog 95 #[.pointer (some ⟨p,0,none⟩)] w (Zea w p s sh):=by
 obtain ⟨i0,hi,aa,ab,ac⟩:=info_parts Tryz.infoBKS;go_enter Tryz.func95,Tryz.ntmps95;go_wp2_with fail;refine (Zcv p 1 s sh _ ji ji hs ht).mono ?_;rintro e w1 ⟨v,F,l,rfl,ad,ae,n,rfl,h1,h2,h3,h4,h9⟩;have av:n<256:=by simpa using h3
 have HN:Hid ((Zcp s sh).bind (A9 8)=(Zcp F l).map (Prod.mk n.toNat)):=h9;clear h3 h9 h4;obtain ⟨m,af⟩:∃m,m=n.toNat:=⟨_,rfl⟩;rw [<-af] at HN;have B:Hid (∀x:Bool,(x=true↔n<=8)->ZcN F l m 0 [] x F l):=fun x hx=>⟨rfl,by cases Zcp F l <;>rfl,fun e _=>⟨by have:=hx.1 e;omega,Zew⟩,fun e _ hh=>by rw [hx.2 jo] at e;cases e⟩
 go_wp2;go_loopg [4,6,7] n.toNat (fun g v ok i wr=>∃(k:Nat) (L:List BK) (x:Bool) (A:jt) (c:Bool),g=n.toNat - k/\k<=n.toNat/\i= .int .i64 k/\ok= .bool x/\L.length=k/\wr.ownsRow w.heap.size 57 2 v k (AC L)/\Aq wr p A c/\A.size<=s.size/\Ar p w wr/\(k<=8)/\(x=true->n<=8)/\ZcN F l m k L x A c)
 case atStart=>exact ⟨0,[],_,F,l,jo,jo,rfl,rfl,rfl,World.ownsRow_nil _ _ _ _,ae,h1,ad,jo,fun h=>(by simpa using h),B.out _ js⟩
 case round=>
  obtain ⟨k,L,x,A,c,hg,hk,rfl,rfl,hL,o,ag,C,r,aw,hx,S⟩:=hrel;have I:=jp S;clear S B;obtain ⟨J,K,M,N⟩:=ag;by_cases O:(k:Int)<n/\x=true/\c=false
  .obtain ⟨T,rfl,rfl⟩:=O;have U:Hid (n<=8):=hx rfl;clear hx;go_wp2_with fail;refine (Zcv p 1 A false _ ji ji jo ⟨J,K,M,N⟩).mono ?_;rintro e w2 ⟨v2,s3,V,rfl,P,W,kk,rfl,k1,k2,k3,k4,k9⟩;have ah:Hid ((Zcp A false).bind (A9 8)=(Zcp s3 V).map (Prod.mk kk.toNat)):=k9;have ax:kk<256:=by simpa using k3
   clear k3 k9;go_wp2_with fail;refine (Zc3 p kk s3 V _ k2 jo jo W).mono ?_;rintro e w3 ⟨v3,s4,X,rfl,Q,Y,id,rfl,l1,l2,l3,l4,l9⟩;have ai:=jp l9;clear l9;go_wp2_with fail;refine (Zcv p 1 s4 X _ ji ji jo Y).mono ?_;rintro e w4 ⟨v4,s5,D,rfl,R,aj,G,rfl,m1,m2,m3,m4,m9⟩;have ak:Hid ((Zcp s4 X).bind (A9 8)=(Zcp s5 D).map (Prod.mk G.toNat)):=m9;have ay:G<256:=by simpa using m3
   have al:Hid (D=false->id.size=kk.toNat):=fun e=>(l4 (m4 e)).2
   clear m3 m9 l4 m4 k4;have d:=JB o ((P.trans Q).trans R) hp;have hB:=((r.trans P).trans Q).trans R;clear o r P Q R Y W J K M N;go_upto_region 10 with fail
   go_cut [6] (fun v6 wc=>w4=wc/\∃y,v6= .bool y/\(y=true↔Zc8 L id kk.toNat G.toNat))
   case first=>
    by_cases q1:0<kk
    .by_cases q2:kk<9
     .by_cases q3:G<7
      .by_cases q4:k=0
       .subst q4;go_wp2;go_meet
        case rel=>exact ⟨rfl,_,rfl,fun _=>⟨jo,fun j hj=>by omega⟩,fun _=>rfl⟩
       .obtain ⟨g,cap,E,rfl,az, -,a0,a1, -, -⟩:∃g cap E,_=Value.slice (some ⟨g,0,none⟩) k cap/\w.heap.size<=g/\w4.heap[g]?=some (.cells E 57 (0,0))/\k<=cap/\cap<=maxLen/\E.size=cap * 2/\E.toList.take (k * 2)=AC L:=by
         rcases d.2 with ⟨_,hh⟩|hh
         .exact absurd hh q4
         .exact hh
        obtain ⟨j,rfl⟩:∃j,k=j+1:=⟨k - 1,jo⟩
        have am:w4.cell? ⟨g,j * 2,none⟩=some (.string (L[j]'jo).1):=by
         have:=(Ap.of_owns d);rcases this with ⟨h,_⟩|⟨g',au,hv,_,_,hc⟩
         .cases h
         .simp only [Value.slice.injEq,Option.some.injEq,Addr.mk.injEq,and_true] at hv;rw [hv.1];exact hc _ _ (JU L j jo).1
        have an:Hid (∀t,AO (L[j]'jo).1 id=t->(t=true↔Zc8 L id kk.toNat G.toNat)):=fun t ht=>⟨fun e=>⟨jo,fun i hi=>(by have e2:i=j:=jo;subst e2;rw [ht,e])⟩,fun h=>by rw [<-ht];exact h.2 j jo⟩
        generalize (L[j]'jo).1=ao at *
        cases ap:Op.bytesLess ao.toList id.toList
        all_goals
         go_wp2
         go_meet
         case rel=>exact ⟨rfl,_,rfl,an.out _ ap⟩
      .go_wp2;go_meet
       case rel=>exact ⟨rfl,_,rfl,fun h=>(by cases h),fun h=>absurd h.1 jo⟩
     .go_wp2;go_meet
      case rel=>exact ⟨rfl,_,rfl,fun h=>(by cases h),fun h=>absurd h.1 jo⟩
    .go_wp2;go_meet
     case rel=>exact ⟨rfl,_,rfl,fun h=>(by cases h),fun h=>absurd h.1 jo⟩
   case rest=>
    obtain ⟨rfl,y,rfl,hy⟩:=hcut
    have Z:Hid (ZcN F l m (k+1) (L++[(id,G)]) y s5 D):=by
     have:=I.out.item jo ah.out ai.out ak.out al.out hy;rwa [Int.toNat_of_nonneg m2] at this
    clear hy;go_wp2_with (first|(at_builtin;refine wpList_append_own _ rfl _ _ 45 rfl w.heap.size 57 i0 (.agg #[.string ByteArray.empty,.int .i64 0]) 2 24 Tryz.underlying45 hi aa ab ac rfl ji _ k (AC L) rfl ?o1 ⟨w4.heap.size,0,none⟩ 1 1 [.string id,.int .i64 G] rfl rfl ?c1 ?c2 ?c3 ?c4 ?c5 ?_))
    case o1=>exact d.alloc _
    case c1=>exact I0 _ _ _ _ _ rfl
    case c2=>intro u hu;simp at hu;rcases hu with rfl|rfl <;>rfl
    case c3=>unfold maxLen;omega
    case c4=>omega
    case c5=>have:=hB.size;simp;omega
    intro v' w6 a z _;have H:=fun g hg=>(d.lt g hg).1
    have aq:Ar p w w6:=(hB.trans (Ar.of_bel (Aa.step_alloc (jD _) _))).grown z H;have ar:Aq w6 p s5 D:=Ar.text w (aj.later (Aa.step_alloc (jD _) _)) z H hp;clear z;go_wp2;go_roundg (n.toNat - (k+1))
    case measure=>omega
    case rel=>exact ⟨k+1,L++[(id,G)],y,s5,D,rfl,jo,by go_num,rfl,by simp [hL],by rw [UN];exact a,ar,jo,aq,by have:=U.out;omega,fun _=>U.out,Z.out⟩
  .have a:=Ap.of_owns o;have q:Hid (∀g,_=some g->w.heap.size<=g):=fun g hg=>(o.lt g hg).1
   rw [<-hL] at a;have b:Am wr _ L:=a;clear o a;clear hx;have f:Hid (x=false\/c=true->ZcX s sh L false A c):=fun hb=>I.out.stop HN.out jo hb
   by_cases T:(k:Int)<n
   .cases x
    .cases c
     all_goals
      go_wp2_with fail;go_quiet (fail);go_wp2;go_ret2;exact ⟨_,L,_,A,_,rfl,r.trans (Ar.of_bel jq),Aq.later ⟨J,K,M,N⟩ jq,C,b.later jq,jo,q.out,f.out js⟩
    .cases c
     .exact absurd ⟨T,rfl,rfl⟩ O
     .go_wp2_with fail;go_quiet (fail);go_wp2;go_ret2;exact ⟨_,L,_,A,_,rfl,r.trans (Ar.of_bel jq),Aq.later ⟨J,K,M,N⟩ jq,C,b.later jq,jo,q.out,f.out js⟩
   .clear O;cases x
    .cases c
     all_goals
      go_wp2_with fail;go_quiet (fail);go_wp2;go_ret2;exact ⟨_,L,_,A,_,rfl,r.trans (Ar.of_bel jq),Aq.later ⟨J,K,M,N⟩ jq,C,b.later jq,jo,q.out,f.out js⟩
    .cases c
     .have HF:Hid (ZcX s sh L true A false):=(show ZcN F l m m L true A false from by have:=I.out;rwa [show k=m by omega] at this).done HN.out;go_wp2_with fail;go_quiet (fail);go_wp2;go_ret2;exact ⟨_,L,_,A,_,rfl,r.trans (Ar.of_bel jq),Aq.later ⟨J,K,M,N⟩ jq,C,b.later jq,jo,q.out,HF.out⟩
     .go_wp2_with fail;go_quiet (fail);go_wp2;go_ret2;exact ⟨_,L,_,A,_,rfl,r.trans (Ar.of_bel jq),Aq.later ⟨J,K,M,N⟩ jq,C,b.later jq,jo,q.out,f.out js⟩
end Go.Proofs.YtpapdkhjdelfcaaGreat
